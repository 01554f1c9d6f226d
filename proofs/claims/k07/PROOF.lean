import PyProof.Rows.All
import Wide.All
import OpenK.AllK
import Wide.FinOn
import HandS.ForMost
import HandS.Head0
import HandS.Head1
import HandS.Head2
import HandS.HeadEnd
import HandS.HeadHook1
import HandS.HeadHook2
import HandS.Wide
import HandS.WideBits
import HandS.Gcd
import HandS.TupAny
import HandS.Flow
import HandS.Set
import HandS.SetFor
import HandS.Strs
import HandS.Rev
import HandS.Style
import HandS.TryOnly
import HandS.RaiseMore
import HandS.Deep
import HandS.TupMul
import HandS.Flt
import HandS.Zip
import HandS.IsInst
import HandS.Dict
import KE.KBits
import KE.DataMinMax
import HandS.SortKw
import HandS.More
import KE.GoesEnum
import HandS.Walk
import PyProof.ToksMono
import KE.DataMinKey
import KE.KMathG
import Flt.RightSqrt
import HandS.TupLe
import HandS.Comp
import HandS.CallLocal
import PyProof.AutoSeq1
import HandS.Star
import HandS.IterVal
import HandS.Conv
import KE.KRevSl
import HandS.DictTup
import HandS.Text
import KE.KDictDisplayH
import PyProof.TupleOfSeq
import KE.SortData
import KE.SortKeyHeap
import KE.KSortKey
import HandS.List
import PySem.Challenge.RW_nearestheld_k07_whole_orders_over_format
set_option Elab.async false
set_option linter.all false
set_option maxRecDepth 100000
set_option maxHeartbeats 4000001
namespace Gd
open PySem PySem.Spec PyProof.Rows L2
def repAll (f : Value → PyData → Bool) : List Value → List PyData → Bool
  | [], [] => true
  | v :: vs, d :: ds => f v d && repAll f vs ds
  | _, _ => false
def repB (K : PySem.W.Frag) : Nat → Value → PyData → Bool
  | 0, _, _ => false
  | n + 1, .str y _, .str x => decide (y = x)
  | n + 1, .int j _, .int i => decide (j = i)
  | n + 1, .ref a, .tuple ds => match K.lookup a with
    | some ⟨c, _, .seq its _, _⟩ => decide (c = .type "tuple") && (Nat.ble its.size 60 && repAll (repB K n) its.toList ds)
    | _ => false
  | _ + 1, _, _ => false
def globB (K : PySem.W.Frag) (x : Str) (d : PyData) : Bool := match PySem.W.nsIn K mainGlobals x with
  | some (some v) => repB K 5 v d
  | _ => false
def bltB (K : PySem.W.Frag) (x : Str) (b : String) : Bool := He.eqO (PySem.W.nsIn K mainGlobals x) (some (some (.builtin b)))
def ckM (gl : List (Str × PyData)) (bl : List (Str × String)) (K : PySem.W.Frag) : Bool := gl.all (fun p => globB K p.1 p.2) && bl.all (fun p => bltB K p.1 p.2)
def refsAt (g : Addr → Option Obj) (a : Addr) : List Addr := match g a with
  | some o => He.refsO o
  | none => []
def asM (g : Addr → Option Obj) : List Addr := sysModules :: mainGlobals :: (refsAt g mainGlobals ++ (refsAt g mainGlobals).flatMap (refsAt g))
def hkM (fa : List He.Fa) (fn : List He.DefD) (ck : PySem.W.Frag → Bool) : PySem.W.Hook where
  α := He.AlD × Bool
  obs s := (fun K => (He.obsD fa fn K, ck K)) (He.frG s.heap.get? (asM s.heap.get?))
  val _ := (He.valD fn, true)
  says _ h := ∃ K : PySem.W.Frag, K.In h ∧ He.SaysD fa fn K ∧ ck K = true
  of w s h := ⟨_, He.frG_in, congrArg Prod.fst h, congrArg Prod.snd h⟩
  keeps w h h' := fun ⟨K, k, a, b⟩ up => ⟨K, fun x o e => up x o (k x o e), a, b⟩
def obM (fa : List He.Fa) (fn : List He.DefD) (ck : PySem.W.Frag → Bool) (s : PySem.W.SharedT) : He.AlD × Bool :=
  (fun K => (He.obsD fa fn K, ck K)) (He.frG (HandSHeadRun.getT s) (asM (HandSHeadRun.getT s)))
abbrev dfD (y x : Str) (st : Stmt) : He.DefD := ⟨(y, .none), x, x, defArgs st, defBody st, defScope st, [], []⟩
noncomputable def endG (st : PySem.W.SharedT → Thread → Option (PySem.W.SharedT × Thread)) (M : Nat) (p : Program) (s0 : Shared) : Option PySem.W.SharedT :=
  match HandSHeadRun.putAll s0.heap.objs.toList PySem.W.BT.nil 0 with
  | some (t, n) => HandSHeadRun.frNat n fun n0 => HandSHeadRun.goF st n0 (s0.heap.nsMap mainGlobals (Str.ofString "__annotations__")) M ⟨t, n0, s0.heap.life, s0.gens, s0.drawn, s0.toks, s0.os⟩ (PySem.W.topStub p)
  | none => none
def goI (st : PySem.W.SharedT → Thread → Option (PySem.W.SharedT × Thread)) : Nat → PySem.W.SharedT → Thread → Option PySem.W.SharedT
  | 0, _, _ => none
  | m + 1, s, t => match t.atExitBegin with
    | some [] => some s
    | some (_ :: _) => none
    | none => match st s t with
      | some (s', t') => HandSHeadRun.frS s' fun s' => goI st m s' t'
      | none => none
noncomputable def openI (st : PySem.W.SharedT → Thread → Option (PySem.W.SharedT × Thread)) (N : Nat) (p : Program) : Option Shared :=
  (goI st N ⟨PySem.W.BT.nil, 0, {}, #[], {}, 1, (start (PySem.W.opening p)).1.os⟩ (start (PySem.W.opening p)).2).bind fun s => fenceModules? p s.abs
noncomputable def runI (p : Program) (w : World) (N M : Nat) : Option (Shared × PySem.W.SharedT) :=
  (openI (HandSHeadRun.stepQ (HandSHeadRun.denQ HandSHeadRun.tabQ) (PySem.W.opening p) w) N p).bind fun s0 => (endG (HandSHeadRun.stepQ (HandSHeadRun.denQ HandSHeadRun.tabQ) p w) M p s0).map fun s => (s0, s)
def RunA (r : PySem.W.OpenRow) (q : Program) (N M : Nat) (loose : List Str) (w : World) : Prop :=
  (runI r.prog w N M).map (fun s => ((s.1.heap.isNs mainGlobals && s.1.gens.size == 0) && HandSHeadRun.looksF r.prog s.1.heap s.2.abs, HandSHeadRun.seenQ q loose (importedModules r.prog.main.body) (fun s => PySem.W.xlAt q [] s && PySem.W.recOk r.records s) s.2.abs)) = some (true, PySem.W.openGood q loose)
def RunB (r : PySem.W.OpenRow) (H : PySem.W.Hook) (ob : PySem.W.SharedT → H.α) (N M : Nat) (w : World) : Prop :=
  (runI r.prog w N M).map (fun s => ob s.2) = some (H.val w)
end Gd
namespace K07H
open PySem PySem.Spec PyProof.Rows L2 Gd
def topH (i : Nat) : Stmt := PySem.Challenge.pw_nearestheld_k07_whole_orders_over_format.main.body.getD i (.Pass ⟨0, 0, 0, 0⟩)
def fn0 : List He.DefD := [dfD "integer_power" "integer_power" (topH 2), dfD "place_of" "place_of" (topH 3), dfD "reduced" "reduced" (topH 5), dfD "times" "times" (topH 6), dfD "power_of" "power_of" (topH 7), dfD "compared" "compared" (topH 8), dfD "_twos_in" "_twos_in" (topH 9), dfD "worth" "worth" (topH 11), dfD "is_finite" "is_finite" (topH 12), dfD "order_of" "order_of" (topH 14), dfD "less" "less" (topH 15), dfD "same" "same" (topH 16), dfD "in_order" "in_order" (topH 17), dfD "_height" "_height" (topH 18), dfD "_law_bag" "_law_bag" (topH 20), dfD "_law_take" "_law_take" (topH 21), dfD "_law_some" "_law_some" (topH 22), dfD "_law_mixed" "_law_mixed" (topH 23), dfD "_law_alike" "_law_alike" (topH 24), dfD "_law_common" "_law_common" (topH 25), dfD "_law_to" "_law_to" (topH 26), dfD "_law_over" "_law_over" (topH 27), dfD "_law_multiplied" "_law_multiplied" (topH 28), dfD "_law_is_below" "_law_is_below" (topH 29), dfD "_law_sized" "_law_sized" (topH 30), dfD "_law_power" "_law_power" (topH 31), dfD "_law_worth" "_law_worth" (topH 32), dfD "_law_formats" "_law_formats" (topH 33), dfD "_law_wide_format" "_law_wide_format" (topH 34), dfD "_law_any_format" "_law_any_format" (topH 35)]
def fn1 : List He.DefD := [dfD "_law_edges" "_law_edges" (topH 36), dfD "_law_number" "_law_number" (topH 37), dfD "_law_value" "_law_value" (topH 38), dfD "_law_grid" "_law_grid" (topH 39), dfD "_law_greatest" "_law_greatest" (topH 40), dfD "_law_number_of" "_law_number_of" (topH 41), dfD "_law_compared" "_law_compared" (topH 42), dfD "_law_order" "_law_order" (topH 43), dfD "_law_some_values" "_law_some_values" (topH 44), dfD "_law_stands_ahead" "_law_stands_ahead" (topH 45), dfD "law" "law" (topH 46)]
def fn : List He.DefD := fn0 ++ fn1
def fas0 : List He.Fa := [.glo "integer_power", .glo "place_of", .glo "reduced", .glo "times", .glo "power_of", .glo "compared", .glo "_twos_in", .glo "worth", .glo "is_finite", .glo "order_of", .glo "less", .glo "same", .glo "in_order", .glo "_height", .glo "_law_bag", .glo "_law_take", .glo "_law_some", .glo "_law_mixed", .glo "_law_alike", .glo "_law_common", .glo "_law_to", .glo "_law_over", .glo "_law_multiplied", .glo "_law_is_below", .glo "_law_sized", .glo "_law_power", .glo "_law_worth", .glo "_law_formats", .glo "_law_wide_format", .glo "_law_any_format"]
def fas1 : List He.Fa := [.glo "_law_edges", .glo "_law_number", .glo "_law_value", .glo "_law_grid", .glo "_law_greatest", .glo "_law_number_of", .glo "_law_compared", .glo "_law_order", .glo "_law_some_values", .glo "_law_stands_ahead", .glo "law", .free "abs", .free "int", .free "isinstance", .free "len", .free "list", .free "max", .free "min", .free "range", .free "repr", .free "sorted", .free "tuple", .free "zip"]
def fas : List He.Fa := fas0 ++ fas1
def ck (K : PySem.W.Frag) : Bool := ckM [] [("gcd", "math.gcd")] K
def loose0 : List Str := ["gcd", "__name__", "integer_power", "place_of", "reduced", "times", "power_of", "compared", "_twos_in", "worth", "is_finite", "order_of", "less", "same", "in_order", "_height", "_law_bag", "_law_take", "_law_some", "_law_mixed", "_law_alike", "_law_common", "_law_to", "_law_over", "_law_multiplied", "_law_is_below", "_law_sized", "_law_power", "_law_worth", "_law_formats"]
def loose1 : List Str := ["_law_wide_format", "_law_any_format", "_law_edges", "_law_number", "_law_value", "_law_grid", "_law_greatest", "_law_number_of", "_law_compared", "_law_order", "_law_some_values", "_law_stands_ahead"]
def loose : List Str := loose0 ++ loose1
theorem runA (w : World) : RunA (PySem.W.OpenLaw.row PySem.Challenge.rw_nearestheld_k07_whole_orders_over_format) (PySem.W.view (PySem.W.OpenLaw.row PySem.Challenge.rw_nearestheld_k07_whole_orders_over_format).prog [46]) 8000 8000 loose w := by
  unfold RunA
  kernel_rfl
theorem runB (w : World) : RunB (PySem.W.OpenLaw.row PySem.Challenge.rw_nearestheld_k07_whole_orders_over_format) (hkM fas fn ck) (obM fas fn ck) 8000 8000 w := by
  unfold RunB
  kernel_rfl
theorem hdefT : PySem.W.defOf (PySem.W.view (PySem.W.OpenLaw.row PySem.Challenge.rw_nearestheld_k07_whole_orders_over_format).prog [46]) (PySem.W.OpenLaw.row PySem.Challenge.rw_nearestheld_k07_whole_orders_over_format).name = some ((HandSHeadRun.topDef (PySem.W.OpenLaw.row PySem.Challenge.rw_nearestheld_k07_whole_orders_over_format).prog 46), []) := by kernel_rfl
theorem hpT : (PySem.W.OpenLaw.row PySem.Challenge.rw_nearestheld_k07_whole_orders_over_format).prog.theDef (PySem.W.OpenLaw.row PySem.Challenge.rw_nearestheld_k07_whole_orders_over_format).name = some ((HandSHeadRun.topDef (PySem.W.OpenLaw.row PySem.Challenge.rw_nearestheld_k07_whole_orders_over_format).prog 46).params, (HandSHeadRun.topDef (PySem.W.OpenLaw.row PySem.Challenge.rw_nearestheld_k07_whole_orders_over_format).prog 46).body, (HandSHeadRun.topDef (PySem.W.OpenLaw.row PySem.Challenge.rw_nearestheld_k07_whole_orders_over_format).prog 46).scope) := by kernel_rfl
theorem hkT : PySem.W.kwWritten? (HandSHeadRun.topDef (PySem.W.OpenLaw.row PySem.Challenge.rw_nearestheld_k07_whole_orders_over_format).prog 46).params.kwonlyargs (HandSHeadRun.topDef (PySem.W.OpenLaw.row PySem.Challenge.rw_nearestheld_k07_whole_orders_over_format).prog 46).params.kw_defaults = some [] := by kernel_rfl
theorem okT : (PySem.W.chainsOk (PySem.W.view (PySem.W.OpenLaw.row PySem.Challenge.rw_nearestheld_k07_whole_orders_over_format).prog [46]) && PySem.W.opensWell (PySem.W.OpenLaw.row PySem.Challenge.rw_nearestheld_k07_whole_orders_over_format).prog && (PySem.W.frees (PySem.W.OpenLaw.row PySem.Challenge.rw_nearestheld_k07_whole_orders_over_format).toRowW && (PySem.W.OpenLaw.row PySem.Challenge.rw_nearestheld_k07_whole_orders_over_format).within.isEmpty)) = true := by decide +kernel
theorem hbT : (PySem.W.OpenLaw.row PySem.Challenge.rw_nearestheld_k07_whole_orders_over_format).prog.bare := ⟨rfl, rfl, rfl, rfl, rfl, by decide +kernel⟩
theorem nameT : (HandSHeadRun.topDef (PySem.W.OpenLaw.row PySem.Challenge.rw_nearestheld_k07_whole_orders_over_format).prog 46).name = ("law" : PySem.Str) := by kernel_rfl
end K07H
namespace Gd
open PySem PySem.Spec PyProof.Rows L2
mutual
inductive Rp (K : PySem.W.Frag) (H : Hp) : V → PyData → Prop
  | non : Rp K H .non .none
  | bl (b : Bool) : Rp K H (.bl b) (.bool b)
  | int (i : Int) : Rp K H (.int i) (.int i)
  | str (x : Str) : Rp K H (.str x) (.str x)
  | lst {a xs ds} (h : H a = some (.lst xs)) (r : RpAll K H xs ds) : Rp K H (.ref a) (.list ds)
  | tup {a xs ds} (h : SqT K H a xs) (r : RpAll K H xs ds) : Rp K H (.ref a) (.tuple ds)
  | dct {a} (h : H a = some (.dK [])) : Rp K H (.ref a) (.dict [])
  | dctT {a} (kvs : List (List Int × Int)) (h : H a = some (.dT (kvs.map fun p => (p.1.map .inl, V.int p.2)))) : Rp K H (.ref a) (.dict (kvs.map fun p => (.tuple (p.1.map .int), .int p.2)))
inductive RpAll (K : PySem.W.Frag) (H : Hp) : List V → List PyData → Prop
  | nil : RpAll K H [] []
  | cons {v vs d ds} (h : Rp K H v d) (r : RpAll K H vs ds) : RpAll K H (v :: vs) (d :: ds)
end
section
variable {K : PySem.W.Frag} {H H' : Hp}
theorem seqT (e : Same H H') {a : Addr} {xs : List V} (h : SqT K H a xs) : SqT K H' a xs := by
  rcases h with (hh | ⟨ob, hh⟩) | hh
  · exact .inl (.inl (e _ _ hh))
  · exact .inl (.inr ⟨ob, e _ _ hh⟩)
  · exact .inr hh
mutual
theorem Rp.mono (e : Same H H') : ∀ {v : V} {d : PyData}, Rp K H v d → Rp K H' v d
  | _, _, .non => .non
  | _, _, .bl b => .bl b
  | _, _, .int i => .int i
  | _, _, .str x => .str x
  | _, _, .lst h r => .lst (e _ _ h) (RpAll.mono e r)
  | _, _, .tup h r => .tup (seqT e h) (RpAll.mono e r)
  | _, _, .dct h => .dct (e _ _ h)
  | _, _, .dctT kvs h => .dctT kvs (e _ _ h)
theorem RpAll.mono (e : Same H H') : ∀ {vs : List V} {ds : List PyData}, RpAll K H vs ds → RpAll K H' vs ds
  | _, _, .nil => .nil
  | _, _, .cons h r => .cons (Rp.mono e h) (RpAll.mono e r)
end
mutual
theorem Rp.dp : ∀ {v : V} {d : PyData}, Rp K H v d → d.hasDict = false → Dp K H v d
  | _, _, .non, _ => .non
  | _, _, .bl b, _ => .bl b
  | _, _, .int i, _ => .int i
  | _, _, .str x, _ => .str x
  | _, _, .lst h r, n => .lst (SqL.of h) (RpAll.dp r (by simpa only [PyData.hasDict] using n))
  | _, _, .tup h r, n => .tup h (RpAll.dp r (by simpa only [PyData.hasDict] using n))
  | _, _, .dct h, n => by simp only [PyData.hasDict] at n; cases n
  | _, _, .dctT kvs h, n => by simp only [PyData.hasDict] at n; cases n
theorem RpAll.dp : ∀ {vs : List V} {ds : List PyData}, RpAll K H vs ds → PyData.hasDictAll ds = false → DpAll K H vs ds
  | _, _, .nil, _ => .nil
  | _, _, .cons h r, n => by
    simp only [PyData.hasDictAll, Bool.or_eq_false_iff] at n
    exact .cons (Rp.dp h n.1) (RpAll.dp r n.2)
end
theorem nd_shaped {d : PyData} (h : SeqAt.shaped d = true) : d.hasDict = false := PyData.hasDict_of_canLay d (by unfold SeqAt.shaped at h; exact (Bool.and_eq_true_iff.mp h).1)
theorem RpAll.length : ∀ {vs : List V} {ds : List PyData}, RpAll K H vs ds → vs.length = ds.length
  | _, _, .nil => rfl
  | _, _, .cons _ r => congrArg (· + 1) (RpAll.length r)
theorem RpAll.get : ∀ {vs : List V} {ds : List PyData} {i : Nat} {v : V}, RpAll K H vs ds → vs[i]? = some v → ∃ d, ds[i]? = some d ∧ Rp K H v d
  | _, _, 0, _, .cons h _, e => by cases e; exact ⟨_, rfl, h⟩
  | _, _, i + 1, _, .cons _ r, e => RpAll.get (i := i) r e
  | _, _, i, _, .nil, e => by simp at e
theorem RpAll.getD : ∀ {vs : List V} {ds : List PyData} {i : Nat} {d : PyData}, RpAll K H vs ds → ds[i]? = some d → ∃ v, vs[i]? = some v ∧ Rp K H v d
  | _, _, 0, _, .cons h _, e => by cases e; exact ⟨_, rfl, h⟩
  | _, _, i + 1, _, .cons _ r, e => RpAll.getD (i := i) r e
  | _, _, i, _, .nil, e => by simp at e
theorem RpAll.app : ∀ {vs ws : List V} {ds es : List PyData}, RpAll K H vs ds → RpAll K H ws es → RpAll K H (vs ++ ws) (ds ++ es)
  | _, _, _, _, .nil, q => q
  | _, _, _, _, .cons h r, q => .cons h (RpAll.app r q)
theorem RpAll.take : ∀ {vs : List V} {ds : List PyData} (n : Nat), RpAll K H vs ds → RpAll K H (vs.take n) (ds.take n)
  | _, _, 0, _ => .nil
  | _, _, _ + 1, .nil => .nil
  | _, _, n + 1, .cons h r => .cons h (RpAll.take n r)
theorem RpAll.drop : ∀ {vs : List V} {ds : List PyData} (n : Nat), RpAll K H vs ds → RpAll K H (vs.drop n) (ds.drop n)
  | _, _, 0, r => r
  | _, _, _ + 1, .nil => .nil
  | _, _, n + 1, .cons _ r => RpAll.drop n r
end
structure Bag where
  x : Int
  y : Int
  z : Int
  cs : List Int
abbrev Gh := Option (Addr × Addr)
def bagCells (B : Bag) (l : Addr) : List V := [.int B.x, .int B.y, .int B.z, .ref l]
structure On (K : PySem.W.Frag) (g : Gh) (B : Bag) (H0 H : Hp) : Prop where
  ex : Same H0 H
  bag : ∀ a l, g = some (a, l) → H0 a = none ∧ H a = some (.lst (bagCells B l)) ∧ H0 l = some (.lst (B.cs.map V.int))
def Off (g : Gh) (a : Addr) : Prop := ∀ l, g ≠ some (a, l)
structure To (g : Gh) (H0 H H0' H' : Hp) : Prop where
  ex : Same H0 H0'
  un : ∀ a o, Off g a → H0 a = none → H a = some o → H0' a = none ∧ H' a = some o
theorem To.refl {g : Gh} {H0 H : Hp} : To g H0 H H0 H := ⟨Same.refl _, fun _ _ _ h1 h2 => ⟨h1, h2⟩⟩
theorem To.trans {g : Gh} {H0 H H1 H' H2 H'' : Hp} (s : To g H0 H H1 H') (t : To g H1 H' H2 H'') : To g H0 H H2 H'' :=
  ⟨s.ex.trans t.ex, fun a o f h1 h2 => let ⟨p, q⟩ := s.un a o f h1 h2; t.un a o f p q⟩
inductive VD where
  | no
  | da (d : PyData)
  | bag
  | scr (ns : List Int)
  | dct (kvs : List (Str × PyData))
  | fn (f : Addr)
  | fns (fs : List Addr)
def Rv (K : PySem.W.Frag) (g : Gh) (H0 : Hp) (v : V) : VD → Prop
  | .no => True
  | .da d => Rp K H0 v d
  | .bag => ∃ a l, g = some (a, l) ∧ v = .ref a
  | .scr ns => ∃ a, v = .ref a ∧ SqL K H0 a (ns.map V.int)
  | .dct kvs => ∃ a xs, v = .ref a ∧ H0 a = some (.dK xs) ∧ xs.map (·.1) = kvs.map (fun kv => Sum.inr kv.1) ∧ RpAll K H0 (xs.map (·.2)) (kvs.map (·.2))
  | .fn f => v = .ref f
  | .fns fs => ∃ a, v = .ref a ∧ H0 a = some (.lst (fs.map V.ref))
theorem Rv.mono {K : PySem.W.Frag} {g : Gh} {H0 H1 : Hp} (e : Same H0 H1) {v : V} : ∀ {d : VD}, Rv K g H0 v d → Rv K g H1 v d
  | .no, h => h
  | .da _, h => Rp.mono e h
  | .bag, h => h
  | .scr _, ⟨a, h1, h2⟩ => ⟨a, h1, e.seq h2⟩
  | .dct _, ⟨a, xs, h1, h2, h3, h4⟩ => ⟨a, xs, h1, e _ _ h2, h3, h4.mono e⟩
  | .fn _, h => h
  | .fns _, ⟨a, h1, h2⟩ => ⟨a, h1, e _ _ h2⟩
def RvAll (K : PySem.W.Frag) (g : Gh) (H0 : Hp) : List V → List VD → Prop
  | [], [] => True
  | v :: vs, d :: ds => Rv K g H0 v d ∧ RvAll K g H0 vs ds
  | _, _ => False
theorem RvAll.mono {K : PySem.W.Frag} {g : Gh} {H0 H1 : Hp} (e : Same H0 H1) : ∀ {vs : List V} {ds : List VD}, RvAll K g H0 vs ds → RvAll K g H1 vs ds
  | [], [], h => h
  | _ :: _, _ :: _, h => ⟨h.1.mono e, RvAll.mono e h.2⟩
  | [], _ :: _, h => h.elim
  | _ :: _, [], h => h.elim
theorem RvAll.length {K : PySem.W.Frag} {g : Gh} {H0 : Hp} : ∀ {vs : List V} {ds : List VD}, RvAll K g H0 vs ds → vs.length = ds.length
  | [], [], _ => rfl
  | _ :: _, _ :: _, h => congrArg (· + 1) (RvAll.length h.2)
  | [], _ :: _, h => h.elim
  | _ :: _, [], h => h.elim
structure EnvD (K : PySem.W.Frag) (g : Gh) (H0 : Hp) (σ : L2.St) (Γ : List VD) : Prop where
  len : σ.length = Γ.length
  at' : ∀ (i : Nat) (d : VD), Γ[i]? = some d → d ≠ .no → ∃ v : V, σ[i]? = some (some v) ∧ Rv K g H0 v d
theorem EnvD.mono {K : PySem.W.Frag} {g : Gh} {H0 H1 : Hp} {σ : L2.St} {Γ : List VD} (e : Same H0 H1) (h : EnvD K g H0 σ Γ) : EnvD K g H1 σ Γ :=
  ⟨h.len, fun i d h1 h2 => let ⟨v, p, q⟩ := h.at' i d h1 h2; ⟨v, p, q.mono e⟩⟩
theorem EnvD.set {K : PySem.W.Frag} {g : Gh} {H0 : Hp} {σ : L2.St} {Γ : List VD} {v : V} {d : VD} (h : EnvD K g H0 σ Γ) (i : Nat) (r : Rv K g H0 v d) : EnvD K g H0 (σ.set i (some v)) (Γ.set i d) := by
  refine ⟨by rw [List.length_set, List.length_set, h.len], fun j e h1 h2 => ?_⟩
  by_cases hj : i = j
  · subst hj
    have hi : i < Γ.length := by
      have := (List.getElem?_eq_some_iff.mp h1).1
      rwa [List.length_set] at this
    rw [List.getElem?_set_self hi] at h1
    cases h1
    exact ⟨v, List.getElem?_set_self (by rw [h.len]; exact hi), r⟩
  · rw [List.getElem?_set_ne hj] at h1 ⊢
    exact h.at' j e h1 h2
def WE (X : Cx) (e : Expr) : TE := fun σ H Q => ∃ t, PE X e t ∧ t σ H Q
def WT (X : Cx) (e : Expr) : TT := fun σ H Q => ∃ t, PT X e t ∧ t σ H Q
def WA (X : Cx) (es : List Expr) : TA := fun σ H Q => ∃ t, PA X es t ∧ t σ H Q
def WS (X : Cx) (ss : List Stmt) : TS := fun D σ H => ∃ t, PSs X ss t ∧ t D σ H
theorem we {X : Cx} (e : Expr) : PE X e (WE X e) := ⟨fun p s σ H Q I ⟨_, ht, h⟩ => ht.run p s σ H Q I h⟩
theorem wt {X : Cx} (e : Expr) : PT X e (WT X e) := ⟨fun p s σ H Q I ⟨_, ht, h⟩ => ht.run p s σ H Q I h⟩
theorem wa {X : Cx} (es : List Expr) : PA X es (WA X es) := ⟨fun o p s σ H Q I ⟨_, ht, h⟩ => ht.run o p s σ H Q I h⟩
theorem ws {X : Cx} (ss : List Stmt) : PSs X ss (WS X ss) := ⟨fun p s σ H D I ⟨_, ht, h⟩ => ht.run p s σ H D I h⟩
def EJ (X : Cx) (Γ : List VD) (B : Bag) (e : Expr) (d : VD) (B' : Bag) : Prop :=
  ∀ g σ H0 H, EnvD X.K g H0 σ Γ → On X.K g B H0 H → ∀ Q : VK,
    (∀ v H0' H', To g H0 H H0' H' → On X.K g B' H0' H' → Rv X.K g H0' v d → Q v H') → WE X e σ H Q
def TJ (X : Cx) (Γ : List VD) (B : Bag) (e : Expr) (b : Bool) (B' : Bag) : Prop :=
  ∀ g σ H0 H, EnvD X.K g H0 σ Γ → On X.K g B H0 H → ∀ Q : Bool → Hp → Prop,
    (∀ H0' H', To g H0 H H0' H' → On X.K g B' H0' H' → Q b H') → WT X e σ H Q
def AJ (X : Cx) (Γ : List VD) (B : Bag) (es : List Expr) (ds : List VD) (B' : Bag) : Prop :=
  ∀ g σ H0 H, EnvD X.K g H0 σ Γ → On X.K g B H0 H → ∀ Q : List V → Hp → Prop,
    (∀ vs H0' H', To g H0 H H0' H' → On X.K g B' H0' H' → RvAll X.K g H0' vs ds → Q vs H') → WA X es σ H Q
structure En where
  nx : List VD → Bag → Prop
  rt : PyData → Bag → Prop
  bk : List VD → Bag → Prop := fun _ _ => False
  ct : List VD → Bag → Prop := fun _ _ => False
structure Gets (X : Cx) (E : En) (g : Gh) (H0 H : Hp) (D : Ends) : Prop where
  nx : ∀ Γ B σ H1 H', E.nx Γ B → To g H0 H H1 H' → EnvD X.K g H1 σ Γ → On X.K g B H1 H' → D.nx σ H'
  rt : ∀ r B v H1 H', E.rt r B → To g H0 H H1 H' → On X.K g B H1 H' → Rp X.K H1 v r → D.rt v H'
  bk : ∀ Γ B σ H1 H', E.bk Γ B → To g H0 H H1 H' → EnvD X.K g H1 σ Γ → On X.K g B H1 H' → D.bk σ H'
  ct : ∀ Γ B σ H1 H', E.ct Γ B → To g H0 H H1 H' → EnvD X.K g H1 σ Γ → On X.K g B H1 H' → D.ct σ H'
theorem Gets.on {X : Cx} {E : En} {g : Gh} {H0 H H1 H' : Hp} {D : Ends} (G : Gets X E g H0 H D) (t : To g H0 H H1 H') : Gets X E g H1 H' D :=
  ⟨fun Γ B σ a b e u => G.nx Γ B σ a b e (t.trans u), fun r B v a b e u => G.rt r B v a b e (t.trans u),
   fun Γ B σ a b e u => G.bk Γ B σ a b e (t.trans u), fun Γ B σ a b e u => G.ct Γ B σ a b e (t.trans u)⟩
def SJ (X : Cx) (Γ : List VD) (B : Bag) (ss : List Stmt) (E : En) : Prop :=
  ∀ g σ H0 H, EnvD X.K g H0 σ Γ → On X.K g B H0 H → ∀ D : Ends, Gets X E g H0 H D → WS X ss D σ H
section
variable {X : Cx} {Γ : List VD} {B B1 B2 B' : Bag} {e a b c : Expr} {es : List Expr} {d da db dc : VD} {pos p : Pos}
theorem laid {K : PySem.W.Frag} {g : Gh} {B : Bag} {H0 H : Hp} {p : Addr} {o : HO} (O : On K g B H0 H) (n : H p = none) :
    To g H0 H (upd H0 p o) (upd H p o) ∧ On K g B (upd H0 p o) (upd H p o) := by
  have n0 : H0 p = none := O.ex.free n
  refine ⟨⟨fun q u h => ?_, fun q u f h1 h2 => ?_⟩, ⟨fun q u h => ?_, fun q l h => ?_⟩⟩
  · rw [upd_ne (ne_of_none h n0)]; exact h
  · have hq := ne_of_none h2 n
    rw [upd_ne hq, upd_ne hq]; exact ⟨h1, h2⟩
  · by_cases hq : q = p
    · subst hq; rw [upd_same] at h ⊢; exact h
    · rw [upd_ne hq] at h ⊢; exact O.ex _ _ h
  · obtain ⟨h1, h2, h3⟩ := O.bag q l h
    have hq := ne_of_none h2 n
    have hl := ne_of_none h3 n0
    rw [upd_ne hq, upd_ne hq, upd_ne hl]; exact ⟨h1, h2, h3⟩
theorem ej_c {v : V} {d : PyData} (h : PE X e (tC v)) (r : ∀ H0, Rp X.K H0 v d) : EJ X Γ B e (.da d) B :=
  fun g σ H0 H _ O Q q => ⟨_, h, q v H0 H To.refl O (r H0)⟩
theorem ej_int {i : Int} {j} : EJ X Γ B (.Constant (.int i) j pos) (.da (.int i)) B := ej_c pe_int fun _ => .int i
theorem ej_bl {i : Bool} {j} : EJ X Γ B (.Constant (.bool i) j pos) (.da (.bool i)) B := ej_c pe_bl fun _ => .bl i
theorem ej_str {i : Str} {j} : EJ X Γ B (.Constant (.str i) j pos) (.da (.str i)) B := ej_c pe_str fun _ => .str i
theorem ej_non {j} : EJ X Γ B (.Constant .none j pos) (.da .none) B := ej_c pe_non fun _ => .non
theorem ej_var (i : Nat) {x : Str} (h : Γ[i]? = some d) (hd : d ≠ .no) (hN : X.N[i]? = some x := by rfl)
    (hv : Vis X.env.scope x := by first | exact Or.inl rfl | exact Or.inr (Or.inl rfl) | exact Or.inr (Or.inr rfl))
    (h1 : (x == ("__debug__" : Str)) = false := by decide) (h2 : (x == ("__classdict__" : Str)) = false := by decide) : EJ X Γ B (.Name x pos) d B :=
  fun g σ H0 H E O Q q => let ⟨v, hs, r⟩ := E.at' i d h hd; ⟨_, pe_var hN hv h1 h2, v, hs, q v H0 H To.refl O r⟩
theorem ej_dat (i : Nat) {x : Str} {d : PyData} (h : Γ[i]? = some (.da d) := by rfl) (hN : X.N[i]? = some x := by rfl)
    (hv : Vis X.env.scope x := by first | exact Or.inl rfl | exact Or.inr (Or.inl rfl) | exact Or.inr (Or.inr rfl))
    (h1 : (x == ("__debug__" : Str)) = false := by decide) (h2 : (x == ("__classdict__" : Str)) = false := by decide) : EJ X Γ B (.Name x pos) (.da d) B :=
  ej_var i h (fun z => nomatch z) hN hv h1 h2
theorem ej_bag (i : Nat) {x : Str} (h : Γ[i]? = some .bag := by rfl) (hN : X.N[i]? = some x := by rfl)
    (hv : Vis X.env.scope x := by first | exact Or.inl rfl | exact Or.inr (Or.inl rfl) | exact Or.inr (Or.inr rfl))
    (h1 : (x == ("__debug__" : Str)) = false := by decide) (h2 : (x == ("__classdict__" : Str)) = false := by decide) : EJ X Γ B (.Name x pos) .bag B :=
  ej_var i h (fun z => nomatch z) hN hv h1 h2
theorem ej_un {r : V → Hp → VK → Prop} (ha : EJ X Γ B a da B1) (hp : ∀ t, PE X a t → PE X e (tUn r t))
    (hr : ∀ g v H0 H, On X.K g B1 H0 H → Rv X.K g H0 v da → ∀ Q : VK, (∀ z H0' H', To g H0 H H0' H' → On X.K g B1 H0' H' → Rv X.K g H0' z d → Q z H') → r v H Q) :
    EJ X Γ B e d B1 := fun g σ H0 H E O Q q =>
  ⟨_, hp _ (we a), ha g σ H0 H E O _ fun v H1 H' t o rv => hr g v H1 H' o rv Q fun z H2 H'' t2 o2 r2 => q z H2 H'' (t.trans t2) o2 r2⟩
theorem ej_bin {r : R2} (ha : EJ X Γ B a da B1) (hb : EJ X Γ B1 b db B2) (hp : ∀ t u, PE X a t → PE X b u → PE X e (tOp r t u))
    (hr : ∀ g v w H0 H, On X.K g B2 H0 H → Rv X.K g H0 v da → Rv X.K g H0 w db → ∀ Q : VK, (∀ z H0' H', To g H0 H H0' H' → On X.K g B2 H0' H' → Rv X.K g H0' z d → Q z H') → r v w H Q) :
    EJ X Γ B e d B2 := fun g σ H0 H E O Q q =>
  ⟨_, hp _ _ (we a) (we b), ha g σ H0 H E O _ fun v H1 H' t o rv => hb g σ H1 H' (E.mono t.ex) o _ fun w H2 H'' t2 o2 rw' =>
    hr g v w H2 H'' o2 (rv.mono t2.ex) rw' Q fun z H3 H3' t3 o3 r3 => q z H3 H3' ((t.trans t2).trans t3) o3 r3⟩
theorem rvI {K : PySem.W.Frag} {g : Gh} {H0 : Hp} {v : V} {i : Int} (h : Rv K g H0 v (.da (.int i))) : v = .int i := by
  have h : Rp K H0 v (.int i) := h
  cases h; rfl
theorem rvB {K : PySem.W.Frag} {g : Gh} {H0 : Hp} {v : V} {i : Bool} (h : Rv K g H0 v (.da (.bool i))) : v = .bl i := by
  have h : Rp K H0 v (.bool i) := h
  cases h; rfl
theorem rvS {K : PySem.W.Frag} {g : Gh} {H0 : Hp} {v : V} {i : Str} (h : Rv K g H0 v (.da (.str i))) : v = .str i := by
  have h : Rp K H0 v (.str i) := h
  cases h; rfl
theorem rvL {K : PySem.W.Frag} {g : Gh} {H0 : Hp} {v : V} {ds : List PyData} (h : Rv K g H0 v (.da (.list ds))) : ∃ a xs, v = .ref a ∧ H0 a = some (.lst xs) ∧ RpAll K H0 xs ds := by
  have h : Rp K H0 v (.list ds) := h
  cases h with
  | lst h1 r => exact ⟨_, _, rfl, h1, r⟩
theorem rvT {K : PySem.W.Frag} {g : Gh} {H0 : Hp} {v : V} {ds : List PyData} (h : Rv K g H0 v (.da (.tuple ds))) : ∃ a xs, v = .ref a ∧ SqT K H0 a xs ∧ RpAll K H0 xs ds := by
  have h : Rp K H0 v (.tuple ds) := h
  cases h with
  | tup h1 r => exact ⟨_, _, rfl, h1, r⟩
theorem ej_ii {i j : Int} {z : Int → Int → V} {y : PyData} {op : Operator} (ha : EJ X Γ B a (.da (.int i)) B1) (hb : EJ X Γ B1 b (.da (.int j)) B2)
    (ho : OpR X (binaryOp op) (rI0 z)) (hz : ∀ H0, Rp X.K H0 (z i j) y) : EJ X Γ B (.BinOp a op b pos) (.da y) B2 :=
  ej_bin ha hb (fun _ _ h1 h2 => pe_op ho h1 h2) fun g v w H0 H O r1 r2 Q q => ⟨i, j, rvI r1, rvI r2, q _ H0 H To.refl O (hz H0)⟩
theorem ej_iic {i j : Int} {C : Int → Int → Prop} {z : Int → Int → V} {y : PyData} {op : Operator} (ha : EJ X Γ B a (.da (.int i)) B1) (hb : EJ X Γ B1 b (.da (.int j)) B2)
    (ho : OpR X (binaryOp op) (rI C z)) (hc : C i j) (hz : ∀ H0, Rp X.K H0 (z i j) y) : EJ X Γ B (.BinOp a op b pos) (.da y) B2 :=
  ej_bin ha hb (fun _ _ h1 h2 => pe_op ho h1 h2) fun g v w H0 H O r1 r2 Q q => ⟨i, j, rvI r1, rvI r2, hc, q _ H0 H To.refl O (hz H0)⟩
theorem ej_add {i j : Int} (ha : EJ X Γ B a (.da (.int i)) B1) (hb : EJ X Γ B1 b (.da (.int j)) B2) : EJ X Γ B (.BinOp a .Add b pos) (.da (.int (i + j))) B2 :=
  ej_ii ha hb op_add fun _ => .int _
theorem ej_sub {i j : Int} (ha : EJ X Γ B a (.da (.int i)) B1) (hb : EJ X Γ B1 b (.da (.int j)) B2) : EJ X Γ B (.BinOp a .Sub b pos) (.da (.int (i - j))) B2 :=
  ej_ii ha hb op_sub fun _ => .int _
theorem ej_mul {i j : Int} (ha : EJ X Γ B a (.da (.int i)) B1) (hb : EJ X Γ B1 b (.da (.int j)) B2) (hc : CMulW i j) : EJ X Γ B (.BinOp a .Mult b pos) (.da (.int (i * j))) B2 :=
  ej_iic ha hb op_mulW hc fun _ => .int _
theorem ej_fdiv {i j : Int} (ha : EJ X Γ B a (.da (.int i)) B1) (hb : EJ X Γ B1 b (.da (.int j)) B2) (hc : CDivW i j) : EJ X Γ B (.BinOp a .FloorDiv b pos) (.da (.int (i / j))) B2 :=
  ej_iic ha hb op_fdivW hc fun _ => .int _
theorem ej_mod {i j : Int} (ha : EJ X Γ B a (.da (.int i)) B1) (hb : EJ X Γ B1 b (.da (.int j)) B2) (hc : 0 < j) : EJ X Γ B (.BinOp a .Mod b pos) (.da (.int (i % j))) B2 :=
  ej_iic ha hb op_mod hc fun _ => .int _
theorem ej_pow {i j : Int} (ha : EJ X Γ B a (.da (.int i)) B1) (hb : EJ X Γ B1 b (.da (.int j)) B2) (hc : CPow i j) : EJ X Γ B (.BinOp a .Pow b pos) (.da (.int (i ^ j.toNat))) B2 :=
  ej_iic ha hb op_pow hc fun _ => .int _
theorem ej_neg {i : Int} (ha : EJ X Γ B a (.da (.int i)) B1) : EJ X Γ B (.UnaryOp .USub a pos) (.da (.int (-i))) B1 :=
  ej_un ha (fun _ h => pe_un un_neg h) fun g v H0 H O r Q q => ⟨i, rvI r, q _ H0 H To.refl O (Rp.int _)⟩
theorem ej_cmpI {i j : Int} {z : Int → Int → V} {y : PyData} {op : CmpOp} (ha : EJ X Γ B a (.da (.int i)) B1) (hb : EJ X Γ B1 b (.da (.int j)) B2)
    (ho : OpR X (compareOp op) (rI0 z)) (hz : ∀ H0, Rp X.K H0 (z i j) y) (hm : behindInMarks op b = false) : EJ X Γ B (.Compare a [op] [b] pos) (.da y) B2 :=
  ej_bin ha hb (fun _ _ h1 h2 => pe_cmpR ho h1 h2 hm) fun g v w H0 H O r1 r2 Q q => ⟨i, j, rvI r1, rvI r2, q _ H0 H To.refl O (hz H0)⟩
theorem ej_lt {i j : Int} (ha : EJ X Γ B a (.da (.int i)) B1) (hb : EJ X Γ B1 b (.da (.int j)) B2) : EJ X Γ B (.Compare a [.Lt] [b] pos) (.da (.bool (decide (i < j)))) B2 :=
  ej_cmpI ha hb op_lt (fun _ => .bl _) (nomark _)
theorem ej_gt {i j : Int} (ha : EJ X Γ B a (.da (.int i)) B1) (hb : EJ X Γ B1 b (.da (.int j)) B2) : EJ X Γ B (.Compare a [.Gt] [b] pos) (.da (.bool (decide (j < i)))) B2 :=
  ej_cmpI ha hb op_gt (fun _ => .bl _) (nomark _)
theorem ej_ge {i j : Int} (ha : EJ X Γ B a (.da (.int i)) B1) (hb : EJ X Γ B1 b (.da (.int j)) B2) : EJ X Γ B (.Compare a [.GtE] [b] pos) (.da (.bool (decide (j ≤ i)))) B2 :=
  ej_cmpI ha hb op_ge (fun _ => .bl _) (nomark _)
theorem ej_eq {x y : PyData} (hu : X.A.units + 64 < cLine) (ha : EJ X Γ B a (.da x) B1) (hb : EJ X Γ B1 b (.da y) B2) (hx : SeqAt.shaped x = true) (hy : SeqAt.shaped y = true) :
    EJ X Γ B (.Compare a [.Eq] [b] pos) (.da (.bool (PyData.eqv x y))) B2 :=
  ej_bin ha hb (fun _ _ h1 h2 => pe_cmpR (op_eqD hu) h1 h2 (nomark _)) fun g v w H0 H O r1 r2 Q q =>
    ⟨x, y, (Rp.mono O.ex r1).dp (nd_shaped hx), (Rp.mono O.ex r2).dp (nd_shaped hy), hx, hy, q _ H0 H To.refl O (Rp.bl _)⟩
theorem ej_eqI {i j : Int} (hu : X.A.units + 64 < cLine) (ha : EJ X Γ B a (.da (.int i)) B1) (hb : EJ X Γ B1 b (.da (.int j)) B2) : EJ X Γ B (.Compare a [.Eq] [b] pos) (.da (.bool (decide (i = j)))) B2 := by
  have h := ej_eq (pos := pos) hu ha hb rfl rfl
  have e : PyData.eqv (.int i) (.int j) = decide (i = j) := by simp only [PyData.eqv]; exact Bool.beq_eq_decide_eq i j
  rw [e] at h; exact h
theorem ej_eqS {i j : Str} (ha : EJ X Γ B a (.da (.str i)) B1) (hb : EJ X Γ B1 b (.da (.str j)) B2) : EJ X Γ B (.Compare a [.Eq] [b] pos) (.da (.bool (decide (i = j)))) B2 :=
  ej_bin ha hb (fun _ _ h1 h2 => pe_cmpR op_eq h1 h2 (nomark _)) fun g v w H0 H O r1 r2 Q q => by
    rw [rvS r1, rvS r2]
    have e : decide (V.str i = V.str j) = decide (i = j) := by
      by_cases h : i = j
      · subst h; simp
      · rw [decide_eq_false h, decide_eq_false fun z => h (V.str.inj z)]
    refine ⟨rfl, ?_⟩
    rw [e]; exact q _ H0 H To.refl O (Rp.bl _)
theorem ej_ixT {ds : List PyData} {i : Int} {y : PyData} (ha : EJ X Γ B a (.da (.tuple ds)) B1) (hb : EJ X Γ B1 b (.da (.int i)) B2) (h : atI ds i = some y) (hs : PlainIx b) :
    EJ X Γ B (.Subscript a b pos) (.da y) B2 :=
  ej_bin ha hb (fun _ _ h1 h2 => pe_ix ix_tup h1 h2 hs) fun g v w H0 H O r1 r2 Q q => by
    obtain ⟨p, xs, rfl, hx, rs⟩ := rvT r1
    obtain ⟨j, h1, h2⟩ := Option.bind_eq_some_iff.mp h
    rw [← rs.length] at h1
    obtain ⟨z, h3, h4⟩ := rs.getD h2
    exact ⟨p, xs, i, z, rfl, rvI r2, seqT O.ex hx, Option.bind_eq_some_iff.mpr ⟨j, h1, h3⟩, q z H0 H To.refl O h4⟩
theorem ej_ixL {ds : List PyData} {i : Int} {y : PyData} (ha : EJ X Γ B a (.da (.list ds)) B1) (hb : EJ X Γ B1 b (.da (.int i)) B2) (h : atI ds i = some y) (hs : PlainIx b) :
    EJ X Γ B (.Subscript a b pos) (.da y) B2 :=
  ej_bin ha hb (fun _ _ h1 h2 => pe_ix ix_list h1 h2 hs) fun g v w H0 H O r1 r2 Q q => by
    obtain ⟨p, xs, rfl, hx, rs⟩ := rvL r1
    obtain ⟨j, h1, h2⟩ := Option.bind_eq_some_iff.mp h
    rw [← rs.length] at h1
    obtain ⟨z, h3, h4⟩ := rs.getD h2
    exact ⟨p, xs, i, z, rfl, rvI r2, SqL.of (O.ex _ _ hx), Option.bind_eq_some_iff.mpr ⟨j, h1, h3⟩, q z H0 H To.refl O h4⟩
theorem aj_nil : AJ X Γ B [] [] B := fun g σ H0 H _ O Q q => ⟨_, pa_nil, q [] H0 H To.refl O trivial⟩
theorem aj_cons {ds : List VD} (h : EJ X Γ B e d B1) (r : AJ X Γ B1 es ds B2) (hs : starEach (e :: es) X.env = (false, eval e X.env) :: starEach es X.env := by rfl) :
    AJ X Γ B (e :: es) (d :: ds) B2 := fun g σ H0 H E O Q q =>
  ⟨_, pa_cons (we e) (wa es) hs, h g σ H0 H E O _ fun v H1 H' t o rv => r g σ H1 H' (E.mono t.ex) o _ fun vs H2 H'' t2 o2 rs => q (v :: vs) H2 H'' (t.trans t2) o2 ⟨rv.mono t2.ex, rs⟩⟩
theorem RvAll.dat {K : PySem.W.Frag} {g : Gh} {H0 : Hp} : ∀ {vs : List V} {ds : List PyData}, RvAll K g H0 vs (ds.map .da) → RpAll K H0 vs ds
  | [], [], _ => .nil
  | _ :: _, _ :: _, h => .cons h.1 (RvAll.dat h.2)
  | [], _ :: _, h => h.elim
  | _ :: _, [], h => h.elim
theorem ej_tup {ds : List PyData} {k} (h : AJ X Γ B es (ds.map .da) B1) (hl : ds.length ≤ 1000) : EJ X Γ B (.Tuple es k pos) (.da (.tuple ds)) B1 := fun g σ H0 H E O Q q =>
  ⟨_, pe_tup (wa es), h g σ H0 H E O _ fun vs H1 H' t o rs => by
    have rs := RvAll.dat rs
    refine ⟨by rw [rs.length]; exact Nat.le_of_lt (small1000 hl), fun p n => ?_⟩
    obtain ⟨t2, o2⟩ := laid (o := .tup vs) o n
    exact q _ _ _ (t.trans t2) o2 (Rp.tup (SqT.of upd_same) (rs.mono t2.ex))⟩
theorem ej_lst {ds : List PyData} (h : AJ X Γ B es (ds.map .da) B1) (hl : ds.length ≤ 1000) : EJ X Γ B (.List es pos) (.da (.list ds)) B1 := fun g σ H0 H E O Q q =>
  ⟨_, pe_lst (wa es), h g σ H0 H E O _ fun vs H1 H' t o rs => by
    have rs := RvAll.dat rs
    refine ⟨by rw [rs.length]; exact Nat.le_of_lt (small1000 hl), fun p n => ?_⟩
    obtain ⟨t2, o2⟩ := laid (o := .lst vs) o n
    exact q _ _ _ (t.trans t2) o2 (Rp.lst upd_same (rs.mono t2.ex))⟩
theorem ej_catL {ds es' : List PyData} (ha : EJ X Γ B a (.da (.list ds)) B1) (hb : EJ X Γ B1 b (.da (.list es')) B2) (hl : ds.length + es'.length ≤ 1000) :
    EJ X Γ B (.BinOp a .Add b pos) (.da (.list (ds ++ es'))) B2 :=
  ej_bin ha hb (fun _ _ h1 h2 => pe_op op_cat h1 h2) fun g v w H0 H O r1 r2 Q q => by
    obtain ⟨p, xs, rfl, hx, rs⟩ := rvL r1
    obtain ⟨p2, ys, rfl, hy, rs2⟩ := rvL r2
    refine ⟨p, p2, xs, ys, rfl, rfl, O.ex _ _ hx, O.ex _ _ hy, by rw [rs.length, rs2.length]; exact Nat.le_of_lt (small1000 hl), fun n hn => ?_⟩
    obtain ⟨t2, o2⟩ := laid (o := .lst (xs ++ ys)) O hn
    exact q _ _ _ t2 o2 (Rp.lst upd_same ((rs.app rs2).mono t2.ex))
theorem ej_catT {ds es' : List PyData} (ha : EJ X Γ B a (.da (.tuple ds)) B1) (hb : EJ X Γ B1 b (.da (.tuple es')) B2) (hl : ds.length + es'.length ≤ 1000) :
    EJ X Γ B (.BinOp a .Add b pos) (.da (.tuple (ds ++ es'))) B2 :=
  ej_bin ha hb (fun _ _ h1 h2 => pe_op op_catA h1 h2) fun g v w H0 H O r1 r2 Q q => by
    obtain ⟨p, xs, rfl, hx, rs⟩ := rvT r1
    obtain ⟨p2, ys, rfl, hy, rs2⟩ := rvT r2
    refine ⟨p, p2, xs, ys, rfl, rfl, seqT O.ex hx, seqT O.ex hy, by rw [rs.length, rs2.length]; exact Nat.le_of_lt (small1000 hl), fun e => ?_, fun _ e => ?_, fun _ _ n hn => ?_⟩
    · subst e
      cases rs
      exact q _ _ _ To.refl O (Rp.tup hy rs2)
    · subst e
      cases rs2
      rw [List.append_nil] at q
      exact q _ _ _ To.refl O (Rp.tup hx rs)
    · obtain ⟨t2, o2⟩ := laid (o := .tup (xs ++ ys)) O hn
      exact q _ _ _ t2 o2 (Rp.tup (SqT.of upd_same) ((rs.app rs2).mono t2.ex))
end
end Gd
namespace Gd
open PySem PySem.Spec PyProof.Rows L2
structure FnG (P : Program) (w : World) (K : PySem.W.Frag) (mg : Str → Option Value)
    (base : Heap) (k : Nat) (f : Addr) (fd : FuncData) (ps : List Str) (sp : Sp) : Prop where
  len : ∀ vs H Q E, sp vs H Q E → List.length vs = ps.length
  run : ∀ (A : Around) (out : List Env) (s : Shared) (H : Hp) (args : Args) (us : List Value) (vs : List V) (Q : VK) (E : XK),
    A.guards = some [] → Room k A → Env0 P w K mg base A out s H → BindsTo s fd args (ps.zip us) →
    Vals vs us → sp vs H Q E → codeAny (model P w) A (.call (.ref f) args) (CR CX0 out P w H s Q E) s
theorem FnG.le {P : Program} {w : World} {K : PySem.W.Frag} {mg : Str → Option Value} {base : Heap} {j k : Nat} {f : Addr} {fd : FuncData} {ps : List Str} {sp : Sp}
    (F : FnG P w K mg base j f fd ps sp) (h : j ≤ k) : FnG P w K mg base k f fd ps sp :=
  ⟨F.len, fun A o s H ar us vs Q E hg hr => F.run A o s H ar us vs Q E hg (hr.mono h)⟩
structure Gx (k : Nat) (X : Cx) : Prop where
  gd : X.A.guards = some []
  rm : Room k X.A
  nd : X.N.Nodup
  calm : X.calm = true
theorem Gx.hu {k : Nat} {X : Cx} (g : Gx k X) : X.A.units + 64 < cLine := g.rm.units
theorem Gx.le {j k : Nat} {X : Cx} (g : Gx k X) (h : j ≤ k) : Gx j X := ⟨g.gd, g.rm.mono h, g.nd, g.calm⟩
theorem runG {X : Cx} {k : Nat} {f : Addr} {fd : FuncData} {ps : List Str} {sp : Sp} {E : XK} {pins : List (Addr × Obj)} {σ : L2.St} {H : Hp} {s : Shared}
    {Q : VK} {us : List Value} {vs : List V} (F : FnG X.prog X.w X.K X.mg X.base k f fd ps sp) (g : Gx k X) (hb : Binds X.K fd ps [])
    (I : Inv X pins σ H s) (r : Vals vs us) (h : sp vs H Q E) : wpAny (model X.prog X.w) X.A (call (.ref f) us) (EP X pins σ Q) X.xe s := by
  have e : us.length = ps.length := r.length.symm.trans (F.len _ _ _ _ h)
  have hz := hb s us I.kIn (by rw [List.append_nil]; exact e)
  rw [List.append_nil] at hz
  have cc := F.run X.A X.stack s H ⟨us, []⟩ us vs Q E g.gd g.rm I.env0 hz r h
  refine wpAny_call (codeAny_mono cc fun res s2 q => ?_)
  match res, q with
  | .ok (.ret _), q => exact I.after q
  | .ok .next, q => exact q.elim
  | .ok .brk, q => exact q.elim
  | .ok .cont, q => exact q.elim
  | .error _, q => exact q.elim
theorem fnG_of {P : Program} {w : World} {K : PySem.W.Frag} {mg : Str → Option Value} {base : Heap} {x qual : Str} {st : Stmt} {f : Addr} {fd : FuncData}
    {N ps : List Str} {k : Nat} {sp : Sp} (F : Fun K x qual st f fd) (S : FnScope N ps (defScope st)) (len : ∀ vs H Q E, sp vs H Q E → vs.length = ps.length)
    (body : ∀ (cdv : Value) (A : Around) (out : List Env) (s : Shared) (H : Hp) (vs : List V) (Q : VK) (E : XK),
      Gx k (cxOf CX0 P w K mg base N qual (defScope st) f cdv A out s H E).nox → sp vs H Q E →
      WS (cxOf CX0 P w K mg base N qual (defScope st) f cdv A out s H E).nox (defBody st) { nx := fun _ H' => Q .non H', rt := Q } (L2.start N vs) H) :
    FnG P w K mg base (k + 1) f fd ps sp := by
  obtain ⟨c1, c2, c3, c4, c5, c6, cdv, c8, c9, rfl, lk, hcd⟩ := F.ex
  refine ⟨len, ?_⟩
  intro A out s H args us vs Q E hg hr e0 hb r hsp
  have up : ∀ b o, base.get? b = some o → s.heap.get? b = some o := fun b o e => (e0.bs b o e).1
  have KX : K.In s.heap := e0.mod.kin.keeps up
  have lim : s.heap.NoLimit := e0.mod.nolimit.keeps up
  have kinds : ∀ y ∈ ps.zip us, (defScope st).names.lookup y.1 = some .local ∨
      ((defScope st).names.lookup y.1 = some .cell ∧ ((cellsFrom (s.heap.objs.size + 1) (defScope st).names []).lookup y.1).isSome = true) := by
    rintro ⟨n, v⟩ hy
    cases S.par n (List.of_mem_zip hy).1 with
    | inl q => exact .inl q
    | inr q => exact .inr ⟨q, PySem.W.cellsFrom_some _ _ _ (.inl q)⟩
  have recd := PySem.W.codeRec_of KX hcd
  refine codeAny_call_function hr.depth (KX _ _ lk) rfl S.co S.gen rfl recd (hb _ _ _ _ ?_)
  refine wpAny_newFunctionEnv_cells S.kind kinds fun env he s1 x1 => ?_
  subst he
  refine ⟨lim.keeps x1.toInCall.keep, codeAny_func ?_⟩
  have I := inv_start (CX := CX0) (E := E) (qual := qual) (f := f) (cd := cdv) S hr.hd e0 (len _ _ _ _ hsp) r x1
  have G : Gx k (cxOf CX0 P w K mg base N qual (defScope st) f cdv A out s H E).nox := ⟨hg, hr.deeper _, S.nd, rfl⟩
  obtain ⟨t, ht, hq⟩ := body cdv A out s H vs Q E G hsp
  refine wpAny_mono (ht.nox.run [] s1 (L2.start N vs) H _ I hq) (fun fl s2 q => ?_) (fun _ _ q => q)
  match fl, q with
  | .ret u, ⟨v, σ', H', J, rv, q⟩ => exact ⟨v, H', J.os, J.bare, J.base, J.hok, rv, q⟩
  | .next, ⟨σ', H', J, q⟩ => exact ⟨.non, H', J.os, J.bare, J.base, J.hok, rfl, q⟩
  | .brk, ⟨_, _, _, q⟩ => exact q.elim
  | .cont, ⟨_, _, _, q⟩ => exact q.elim
abbrev Rel := List VD → Bag → PyData → Bag → Prop
def DefSp (K : PySem.W.Frag) (R : Rel) : Sp := fun vs H Q _ =>
  ∃ g Γ B H0 r B', RvAll K g H0 vs Γ ∧ On K g B H0 H ∧ R Γ B r B' ∧
    ∀ v H0' H', To g H0 H H0' H' → On K g B' H0' H' → Rp K H0' v r → Q v H'
def Cal (P : Program) (w : World) (K : PySem.W.Frag) (mg : Str → Option Value) (base : Heap) (x : Str) (k : Nat) (R : Rel) : Prop :=
  ∃ f fd ps, FnG P w K mg base k f fd ps (DefSp K R) ∧ mg x = some (.ref f) ∧ PySem.W.keepIn K (.ref f) = true ∧ Binds K fd ps []
theorem start_env {K : PySem.W.Frag} {g : Gh} {H0 : Hp} {N : List Str} {vs : List V} {Γ : List VD} (h : RvAll K g H0 vs Γ) (hl : Γ.length ≤ N.length) :
    EnvD K g H0 (L2.start N vs) (Γ ++ List.replicate (N.length - Γ.length) .no) := by
  have e := h.length
  refine ⟨?_, ?_⟩
  · unfold L2.start; rw [List.length_append, List.length_append, List.length_map, List.length_replicate, List.length_replicate]; omega
  · have : ∀ (vs : List V) (Γ : List VD) (m n : Nat), RvAll K g H0 vs Γ → ∀ (i : Nat) (d : VD), (Γ ++ List.replicate m .no)[i]? = some d → d ≠ .no →
        ∃ v : V, (vs.map some ++ List.replicate n (none : Option V))[i]? = some (some v) ∧ Rv K g H0 v d := by
      intro vs
      induction vs with
      | nil =>
        intro Γ m n h i d h1 h2
        cases Γ with
        | nil =>
          rw [List.nil_append, List.getElem?_replicate] at h1
          split at h1
          · cases h1; exact absurd rfl h2
          · cases h1
        | cons _ _ => exact h.elim
      | cons v vs ih =>
        intro Γ m n h i d h1 h2
        cases Γ with
        | nil => exact h.elim
        | cons d' Γ =>
          cases i with
          | zero => cases h1; exact ⟨v, rfl, h.1⟩
          | succ i => exact ih Γ m n h.2 i d h1 h2
    unfold L2.start
    exact this vs Γ _ _ h
theorem cal_of {P : Program} {w : World} {K : PySem.W.Frag} {mg : Str → Option Value} {base : Heap} {x qual : Str} {st : Stmt} {f : Addr} {fd : FuncData}
    {N ps : List Str} {k : Nat} {R : Rel} (F : Fun K x qual st f fd) (hm : mg x = some (.ref f)) (hb : Binds K fd ps []) (S : FnScope N ps (defScope st))
    (len : ∀ Γ B r B', R Γ B r B' → Γ.length = ps.length)
    (body : ∀ (cdv : Value) (A : Around) (out : List Env) (s : Shared) (H : Hp) (E : XK),
      Gx k (cxOf CX0 P w K mg base N qual (defScope st) f cdv A out s H E).nox → ∀ Γ B r B', R Γ B r B' →
      SJ (cxOf CX0 P w K mg base N qual (defScope st) f cdv A out s H E).nox (Γ ++ List.replicate (N.length - ps.length) .no) B (defBody st)
        { nx := fun _ B2 => r = .none ∧ B2 = B', rt := fun d B2 => d = r ∧ B2 = B' }) :
    Cal P w K mg base x (k + 1) R := by
  have hpl : ps.length ≤ N.length := by
    have := congrArg List.length S.pre
    rw [List.length_take] at this; omega
  refine ⟨f, fd, ps, fnG_of F S ?_ ?_, hm, F.kp, hb⟩
  · rintro vs H Q E ⟨g, Γ, B, H0, r, B', a, b, c, d⟩
    rw [a.length]; exact len _ _ _ _ c
  · intro cdv A out s H vs Q E G ⟨g, Γ, B, H0, r, B', a, b, c, d⟩
    have hl := len _ _ _ _ c
    have E0' := start_env (N := N) a (by rw [hl]; exact hpl)
    rw [hl] at E0'
    refine body cdv A out s H E G Γ B r B' c g _ H0 H E0' b _ ⟨?_, ?_, ?_, ?_⟩
    · rintro Γ2 B2 σ H1 H' ⟨rfl, rfl⟩ t _ o
      exact d _ _ _ t o .non
    · rintro r2 B2 v H1 H' ⟨rfl, rfl⟩ t o rv
      exact d _ _ _ t o rv
    · intro _ _ _ _ _ z; exact z.elim
    · intro _ _ _ _ _ z; exact z.elim
section
variable {X : Cx} {Γ : List VD} {B B1 B2 B' : Bag} {e a b c : Expr} {es : List Expr} {d da db dc : VD} {pos p pos' : Pos} {rest ss s1 s2 : List Stmt} {E : En}
theorem ej_call {x : Str} {k : Nat} {R : Rel} {ds : List VD} {r : PyData} (c : Cal X.prog X.w X.K X.mg X.base x k R) (g : Gx k X) (ha : AJ X Γ B (e :: es) ds B1) (hR : R ds B1 r B2)
    (hg : Gl X x := by rfl) (hdb : (x == ("__debug__" : Str)) = false := by decide) (he : starEach (e :: es) X.env = (false, eval e X.env) :: starEach es X.env := by rfl)
    (hpl : (backTo pos (starEach es X.env)).any (·.1) = false := by rfl) : EJ X Γ B (.Call (.Name x p) (e :: es) [] pos) (.da r) B2 := by
  obtain ⟨f, fd, ps, F, hm, hk, hb⟩ := c
  intro gh σ H0 H E O Q q
  refine ⟨fun σ H Q => WA X (e :: es) σ H fun vs H1 => DefSp X.K R vs H1 Q E0, ⟨fun pins s σ H Q I h => ?_⟩, ?_⟩
  · refine wpAny_Call_Name_kw (ld_glob I hg hm ?_ hdb)
    refine PySem.W.callWith_K (h₀ := X.base) I.ok.mod.kin hk (thn ((wa (e :: es)).run pos pins s σ H _ I h) ?_) he hpl
    rintro us s1 ⟨vs, H1, I1, r1, q1⟩
    exact ⟨I1.kIn, runG F g hb I1 r1 q1⟩
  · refine ha gh σ H0 H E O _ fun vs H1 H' t o rs => ?_
    exact ⟨gh, ds, B1, H1, r, B2, rs, o, hR, fun v H2 H'' t2 o2 rv => q v H2 H'' (t.trans t2) o2 rv⟩
theorem ej_callB {x : Str} {id : String} {r : List V → Hp → VK → Prop} {ds : List VD} (hc : CallR X (.builtin id) r) (hm : X.mg x = none) (ha : AJ X Γ B (e :: es) ds B1)
    (hr : ∀ g vs H0 H, On X.K g B1 H0 H → RvAll X.K g H0 vs ds → ∀ Q : VK, (∀ z H0' H', To g H0 H H0' H' → On X.K g B1 H0' H' → Rv X.K g H0' z d → Q z H') → r vs H Q)
    (hv : bootBuiltins x = some (.builtin id) := by decide +kernel) (hg : Gl X x := by rfl) (hn : x ≠ "__name__" := by decide) (hdb : (x == ("__debug__" : Str)) = false := by decide)
    (hpl : (backTo pos (starEach es X.env)).any (·.1) = false := by rfl) (he : starEach (e :: es) X.env = (false, eval e X.env) :: starEach es X.env := by rfl) :
    EJ X Γ B (.Call (.Name x p) (e :: es) [] pos) d B1 := fun g σ H0 H E O Q q =>
  ⟨_, pe_callB hc hg hm hv (wa (e :: es)) hn hdb he hpl, ha g σ H0 H E O _ fun vs H1 H' t o rs => hr g vs H1 H' o rs Q fun z H2 H'' t2 o2 rz => q z H2 H'' (t.trans t2) o2 rz⟩
theorem ej_callTy {x : Str} {T : String} {r : List V → Hp → VK → Prop} {ds : List VD} (hc : CallR X (.type T) r) (hm : X.mg x = none) (ha : AJ X Γ B (e :: es) ds B1)
    (hr : ∀ g vs H0 H, On X.K g B1 H0 H → RvAll X.K g H0 vs ds → ∀ Q : VK, (∀ z H0' H', To g H0 H H0' H' → On X.K g B1 H0' H' → Rv X.K g H0' z d → Q z H') → r vs H Q)
    (hv : bootBuiltins x = some (.type T) := by decide +kernel) (hg : Gl X x := by rfl) (hn : x ≠ "__name__" := by decide) (hdb : (x == ("__debug__" : Str)) = false := by decide)
    (hpl : (backTo pos (starEach es X.env)).any (·.1) = false := by rfl) (he : starEach (e :: es) X.env = (false, eval e X.env) :: starEach es X.env := by rfl) :
    EJ X Γ B (.Call (.Name x p) (e :: es) [] pos) d B1 := fun g σ H0 H E O Q q =>
  ⟨_, pe_callTy hc hg hm hv (wa (e :: es)) hn hdb he hpl, ha g σ H0 H E O _ fun vs H1 H' t o rs => hr g vs H1 H' o rs Q fun z H2 H'' t2 o2 rz => q z H2 H'' (t.trans t2) o2 rz⟩
theorem rv1 {K : PySem.W.Frag} {g : Gh} {H0 : Hp} {vs : List V} {d : VD} (h : RvAll K g H0 vs [d]) : ∃ v, vs = [v] ∧ Rv K g H0 v d := by
  match vs, h with
  | [v], h => exact ⟨v, rfl, h.1⟩
theorem rv2 {K : PySem.W.Frag} {g : Gh} {H0 : Hp} {vs : List V} {d d' : VD} (h : RvAll K g H0 vs [d, d']) : ∃ v v', vs = [v, v'] ∧ Rv K g H0 v d ∧ Rv K g H0 v' d' := by
  match vs, h with
  | [v, v'], h => exact ⟨v, v', rfl, h.1, h.2.1⟩
theorem ej_abs {i : Int} (hm : X.mg "abs" = none) (ha : EJ X Γ B a (.da (.int i)) B1) (hs : starEach [a] X.env = [(false, eval a X.env)] := by rfl) (hg : Gl X "abs" := by rfl) :
    EJ X Γ B (.Call (.Name "abs" p) [a] [] pos) (.da (.int (if i < 0 then -i else i))) B1 :=
  ej_callB call_abs hm (aj_cons ha aj_nil hs) (fun g vs H0 H O r Q q => by
    obtain ⟨v, rfl, h⟩ := rv1 r
    exact ⟨i, by rw [rvI h], q _ _ _ To.refl O (Rp.int _)⟩) (hg := hg) (he := hs)
theorem ej_int1 {i : Int} (hm : X.mg "int" = none) (ha : EJ X Γ B a (.da (.int i)) B1) (hs : starEach [a] X.env = [(false, eval a X.env)] := by rfl) (hg : Gl X "int" := by rfl) :
    EJ X Γ B (.Call (.Name "int" p) [a] [] pos) (.da (.int i)) B1 :=
  ej_callTy call_int1 hm (aj_cons ha aj_nil hs) (fun g vs H0 H O r Q q => by
    obtain ⟨v, rfl, h⟩ := rv1 r
    exact .inl ⟨i, by rw [rvI h], q _ _ _ To.refl O (Rp.int _)⟩) (hg := hg) (he := hs)
theorem ej_intB {i : Bool} (hm : X.mg "int" = none) (ha : EJ X Γ B a (.da (.bool i)) B1) (hs : starEach [a] X.env = [(false, eval a X.env)] := by rfl) (hg : Gl X "int" := by rfl) :
    EJ X Γ B (.Call (.Name "int" p) [a] [] pos) (.da (.int (if i then 1 else 0))) B1 :=
  ej_callTy call_int1 hm (aj_cons ha aj_nil hs) (fun g vs H0 H O r Q q => by
    obtain ⟨v, rfl, h⟩ := rv1 r
    exact .inr ⟨i, by rw [rvB h], q _ _ _ To.refl O (Rp.int _)⟩) (hg := hg) (he := hs)
theorem ej_lenL {ds : List PyData} (hm : X.mg "len" = none) (ha : EJ X Γ B a (.da (.list ds)) B1) (hs : starEach [a] X.env = [(false, eval a X.env)] := by rfl) (hg : Gl X "len" := by rfl) :
    EJ X Γ B (.Call (.Name "len" p) [a] [] pos) (.da (.int ds.length)) B1 :=
  ej_callB call_len_seq hm (aj_cons ha aj_nil hs) (fun g vs H0 H O r Q q => by
    obtain ⟨v, rfl, h⟩ := rv1 r
    obtain ⟨p, xs, rfl, hx, rs⟩ := rvL h
    refine ⟨p, xs, rfl, .inl (SqL.of (O.ex _ _ hx)), ?_⟩
    rw [rs.length]; exact q _ _ _ To.refl O (Rp.int _)) (hg := hg) (he := hs)
theorem ej_lenT {ds : List PyData} (hm : X.mg "len" = none) (ha : EJ X Γ B a (.da (.tuple ds)) B1) (hs : starEach [a] X.env = [(false, eval a X.env)] := by rfl) (hg : Gl X "len" := by rfl) :
    EJ X Γ B (.Call (.Name "len" p) [a] [] pos) (.da (.int ds.length)) B1 :=
  ej_callB call_len_seq hm (aj_cons ha aj_nil hs) (fun g vs H0 H O r Q q => by
    obtain ⟨v, rfl, h⟩ := rv1 r
    obtain ⟨p, xs, rfl, hx, rs⟩ := rvT h
    refine ⟨p, xs, rfl, .inr (seqT O.ex hx), ?_⟩
    rw [rs.length]; exact q _ _ _ To.refl O (Rp.int _)) (hg := hg) (he := hs)
structure Shows (d : PyData) : Prop where
  sh : d.showable = true
  nd : d.hasDict = false
  dp : d.depth ≤ 60
  len : d.shown.length ≤ sizeLine
theorem call_repr {k : Nat} (g : Gx k X) : CallR X (.builtin "repr") (fun xs H Q => ∃ x d, xs = [x] ∧ Dp X.K H x d ∧ (∃ p, x = .ref p) ∧ Shows d ∧ Q (.str d.shown) H) := by
  intro pins s σ H xs us Q I rr h
  obtain ⟨x, d, rfl, hd, ⟨p, rfl⟩, S, q⟩ := h
  obtain ⟨u, rfl, rx⟩ := vals1 rr
  cases (show u = Value.ref p from rx)
  obtain ⟨as, rd⟩ := Dp.reads I d (.ref p) (.ref p) hd rfl
  have hu := g.rm.un
  refine repr_of_reads' rd S.sh (fun z => by rw [S.nd] at z; cases z) g.gd (by have := S.dp; omega) (fun _ _ e => e) (fun h' u tk kp => ?_) S.len
  exact ⟨.str d.shown, H, I.kept (t' := tk) kp, ⟨u, rfl⟩, q⟩
def boxed : PyData → Bool
  | .list _ => true
  | .tuple _ => true
  | _ => false
theorem ej_repr {k : Nat} {y : PyData} (g : Gx k X) (hm : X.mg "repr" = none) (ha : EJ X Γ B a (.da y) B1) (hb : boxed y = true) (S : Shows y)
    (hs : starEach [a] X.env = [(false, eval a X.env)] := by rfl) (hg : Gl X "repr" := by rfl) :
    EJ X Γ B (.Call (.Name "repr" p) [a] [] pos) (.da (.str y.shown)) B1 :=
  ej_callB (call_repr g) hm (aj_cons ha aj_nil hs) (fun gh vs H0 H O r Q q => by
    obtain ⟨v, rfl, h⟩ := rv1 r
    have h : Rp X.K H0 v y := h
    refine ⟨v, y, rfl, (h.mono O.ex).dp S.nd, ?_, S, q _ _ _ To.refl O (Rp.str _)⟩
    cases h with
    | lst _ _ => exact ⟨_, rfl⟩
    | tup _ _ => exact ⟨_, rfl⟩
    | non => cases hb
    | bl _ => cases hb
    | int _ => cases hb
    | str _ => cases hb
    | dct _ => cases hb
    | dctT _ _ => cases hb) (hg := hg) (he := hs)
theorem tj_val {x : Bool} (h : EJ X Γ B e (.da (.bool x)) B1) (he : ∀ whole, isTrue e X.env whole = (do let v ← whole; standAt e.pos; holding [v] (truthy v)) := by intro _; rfl) :
    TJ X Γ B e x B1 := fun g σ H0 H E O Q q => ⟨_, pt_val (we e) he, h g σ H0 H E O _ fun v H1 H' t o r => ⟨x, rvB r, q H1 H' t o⟩⟩
theorem tj_cmp {op : CmpOp} {x : Bool} {r : R2} (ha : EJ X Γ B a da B1) (hb : EJ X Γ B1 b db B2) (ho : OpR X (compareOp op) r) (hm : behindInMarks op b = false)
    (hr : ∀ g v w H0 H, On X.K g B2 H0 H → Rv X.K g H0 v da → Rv X.K g H0 w db → ∀ Q : VK, (∀ H0' H', To g H0 H H0' H' → On X.K g B2 H0' H' → Q (.bl x) H') → r v w H Q) :
    TJ X Γ B (.Compare a [op] [b] pos) x B2 := fun g σ H0 H E O Q q =>
  ⟨_, pt_cmpR ho (we a) (we b) hm, ha g σ H0 H E O _ fun v H1 H' t o rv => hb g σ H1 H' (E.mono t.ex) o _ fun w H2 H'' t2 o2 rw' =>
    hr g v w H2 H'' o2 (rv.mono t2.ex) rw' _ fun H3 H3' t3 o3 => ⟨x, rfl, q H3 H3' ((t.trans t2).trans t3) o3⟩⟩
theorem tj_cmpI {i j : Int} {z : Int → Int → V} {y : Bool} {op : CmpOp} (ha : EJ X Γ B a (.da (.int i)) B1) (hb : EJ X Γ B1 b (.da (.int j)) B2)
    (ho : OpR X (compareOp op) (rI0 z)) (hz : z i j = .bl y) (hm : behindInMarks op b = false) : TJ X Γ B (.Compare a [op] [b] pos) y B2 :=
  tj_cmp ha hb ho hm fun g v w H0 H O r1 r2 Q q => ⟨i, j, rvI r1, rvI r2, by rw [hz]; exact q H0 H To.refl O⟩
theorem tj_lt {i j : Int} (ha : EJ X Γ B a (.da (.int i)) B1) (hb : EJ X Γ B1 b (.da (.int j)) B2) : TJ X Γ B (.Compare a [.Lt] [b] pos) (decide (i < j)) B2 := tj_cmpI ha hb op_lt rfl (nomark _)
theorem tj_gt {i j : Int} (ha : EJ X Γ B a (.da (.int i)) B1) (hb : EJ X Γ B1 b (.da (.int j)) B2) : TJ X Γ B (.Compare a [.Gt] [b] pos) (decide (j < i)) B2 := tj_cmpI ha hb op_gt rfl (nomark _)
theorem tj_ge {i j : Int} (ha : EJ X Γ B a (.da (.int i)) B1) (hb : EJ X Γ B1 b (.da (.int j)) B2) : TJ X Γ B (.Compare a [.GtE] [b] pos) (decide (j ≤ i)) B2 := tj_cmpI ha hb op_ge rfl (nomark _)
theorem tj_eq {x y : PyData} (hu : X.A.units + 64 < cLine) (ha : EJ X Γ B a (.da x) B1) (hb : EJ X Γ B1 b (.da y) B2) (hx : SeqAt.shaped x = true) (hy : SeqAt.shaped y = true) :
    TJ X Γ B (.Compare a [.Eq] [b] pos) (PyData.eqv x y) B2 :=
  tj_cmp ha hb (op_eqD hu) (nomark _) fun g v w H0 H O r1 r2 Q q => ⟨x, y, (Rp.mono O.ex r1).dp (nd_shaped hx), (Rp.mono O.ex r2).dp (nd_shaped hy), hx, hy, q H0 H To.refl O⟩
theorem tj_ne {x y : PyData} (hu : X.A.units + 64 < cLine) (ha : EJ X Γ B a (.da x) B1) (hb : EJ X Γ B1 b (.da y) B2) (hx : SeqAt.shaped x = true) (hy : SeqAt.shaped y = true) :
    TJ X Γ B (.Compare a [.NotEq] [b] pos) (!PyData.eqv x y) B2 :=
  tj_cmp ha hb (op_neD hu) (nomark _) fun g v w H0 H O r1 r2 Q q => ⟨x, y, (Rp.mono O.ex r1).dp (nd_shaped hx), (Rp.mono O.ex r2).dp (nd_shaped hy), hx, hy, q H0 H To.refl O⟩
theorem eqv_int (i j : Int) : PyData.eqv (.int i) (.int j) = decide (i = j) := by
  simp only [PyData.eqv]; exact Bool.beq_eq_decide_eq i j
theorem tj_eqI {i j : Int} (hu : X.A.units + 64 < cLine) (ha : EJ X Γ B a (.da (.int i)) B1) (hb : EJ X Γ B1 b (.da (.int j)) B2) : TJ X Γ B (.Compare a [.Eq] [b] pos) (decide (i = j)) B2 := by
  rw [← eqv_int]; exact tj_eq hu ha hb rfl rfl
theorem tj_neI {i j : Int} (hu : X.A.units + 64 < cLine) (ha : EJ X Γ B a (.da (.int i)) B1) (hb : EJ X Γ B1 b (.da (.int j)) B2) : TJ X Γ B (.Compare a [.NotEq] [b] pos) (!decide (i = j)) B2 := by
  rw [← eqv_int]; exact tj_ne hu ha hb rfl rfl
theorem tj_eqS {i j : Str} (ha : EJ X Γ B a (.da (.str i)) B1) (hb : EJ X Γ B1 b (.da (.str j)) B2) : TJ X Γ B (.Compare a [.Eq] [b] pos) (decide (i = j)) B2 :=
  tj_cmp ha hb op_eq (nomark _) fun g v w H0 H O r1 r2 Q q => by
    rw [rvS r1, rvS r2]
    have e : decide (V.str i = V.str j) = decide (i = j) := by
      by_cases h : i = j
      · subst h; simp
      · rw [decide_eq_false h, decide_eq_false fun z => h (V.str.inj z)]
    refine ⟨rfl, ?_⟩
    rw [e]; exact q H0 H To.refl O
theorem tj_is {x y : Bool} (h : TJ X Γ B e x B1) (hxy : x = y) : TJ X Γ B e y B1 := hxy ▸ h
theorem ej_is {x y : PyData} (h : EJ X Γ B e (.da x) B1) (hxy : x = y) : EJ X Γ B e (.da y) B1 := hxy ▸ h
theorem tj_not {x : Bool} (h : TJ X Γ B e x B1) : TJ X Γ B (.UnaryOp .Not e pos) (!x) B1 := fun g σ H0 H E O Q q =>
  ⟨_, pt_not (wt e), h g σ H0 H E O _ fun H1 H' t o => q H1 H' t o⟩
def WW (X : Cx) (e : Expr) : TT := fun σ H Q => ∃ t, PW X e t ∧ t σ H Q
theorem ww {X : Cx} (e : Expr) : PW X e (WW X e) := ⟨fun w p s σ H Q I ⟨_, ht, h⟩ => ht.run w p s σ H Q I h⟩
def WJ (X : Cx) (Γ : List VD) (B : Bag) (e : Expr) (b : Bool) (B' : Bag) : Prop :=
  ∀ g σ H0 H, EnvD X.K g H0 σ Γ → On X.K g B H0 H → ∀ Q : Bool → Hp → Prop, (∀ H0' H', To g H0 H H0' H' → On X.K g B' H0' H' → Q b H') → WW X e σ H Q
theorem tj_w {x : Bool} (h : WJ X Γ B e x B1) : TJ X Γ B e x B1 := fun g σ H0 H E O Q q => let ⟨t, h1, h2⟩ := h g σ H0 H E O Q q; ⟨t, h1.pt, h2⟩
theorem wj_and1 {x : Bool} (h : TJ X Γ B e x B1) : WJ X Γ B (.BoolOp .And [e] pos) x B1 := fun g σ H0 H E O Q q => ⟨_, pw_and1 (wt e), h g σ H0 H E O Q q⟩
theorem wj_or1 {x : Bool} (h : TJ X Γ B e x B1) : WJ X Γ B (.BoolOp .Or [e] pos) x B1 := fun g σ H0 H E O Q q => ⟨_, pw_or1 (wt e), h g σ H0 H E O Q q⟩
theorem wj_and {x y : Bool} (h : TJ X Γ B e x B) (hr : x = true → WJ X Γ B (.BoolOp .And (a :: es) pos) y B) : WJ X Γ B (.BoolOp .And (e :: a :: es) pos) (x && y) B := fun g σ H0 H E O Q q =>
  ⟨_, pw_and (wt e) (ww _), h g σ H0 H E O _ fun H1 H' t o => by
    cases x with
    | true => exact iteT (hr rfl g σ H1 H' (E.mono t.ex) o Q fun H2 H'' t2 o2 => q H2 H'' (t.trans t2) o2)
    | false => exact iteF (q H1 H' t o)⟩
theorem wj_or {x y : Bool} (h : TJ X Γ B e x B) (hr : x = false → WJ X Γ B (.BoolOp .Or (a :: es) pos) y B) : WJ X Γ B (.BoolOp .Or (e :: a :: es) pos) (x || y) B := fun g σ H0 H E O Q q =>
  ⟨_, pw_or (wt e) (ww _), h g σ H0 H E O _ fun H1 H' t o => by
    cases x with
    | true => exact iteT (q H1 H' t o)
    | false => exact iteF (hr rfl g σ H1 H' (E.mono t.ex) o Q fun H2 H'' t2 o2 => q H2 H'' (t.trans t2) o2)⟩
theorem ej_one {op} (h : EJ X Γ B e d B1) : EJ X Γ B (.BoolOp op [e] pos) d B1 := fun g σ H0 H E O Q q => ⟨_, pe_one (we e), h g σ H0 H E O Q q⟩
theorem ej_and {x y : Bool} (h : EJ X Γ B e (.da (.bool x)) B1) (hr : x = true → EJ X Γ B1 (.BoolOp .And (a :: es) pos) (.da (.bool y)) B1) : EJ X Γ B (.BoolOp .And (e :: a :: es) pos) (.da (.bool (x && y))) B1 := fun g σ H0 H E O Q q =>
  ⟨_, pe_and (we e) (we _), h g σ H0 H E O _ fun v H1 H' t o r => ⟨x, rvB r, by
    cases x with
    | true => exact iteT (hr rfl g σ H1 H' (E.mono t.ex) o Q fun z H2 H'' t2 o2 r2 => q z H2 H'' (t.trans t2) o2 r2)
    | false => exact iteF (q _ H1 H' t o (Rp.bl _))⟩⟩
theorem ej_or {x y : Bool} (h : EJ X Γ B e (.da (.bool x)) B1) (hr : x = false → EJ X Γ B1 (.BoolOp .Or (a :: es) pos) (.da (.bool y)) B1) : EJ X Γ B (.BoolOp .Or (e :: a :: es) pos) (.da (.bool (x || y))) B1 := fun g σ H0 H E O Q q =>
  ⟨_, pe_or (we e) (we _), h g σ H0 H E O _ fun v H1 H' t o r => ⟨x, rvB r, by
    cases x with
    | true => exact iteT (q _ H1 H' t o (Rp.bl _))
    | false => exact iteF (hr rfl g σ H1 H' (E.mono t.ex) o Q fun z H2 H'' t2 o2 r2 => q z H2 H'' (t.trans t2) o2 r2)⟩⟩
theorem ej_if {x : Bool} (h : TJ X Γ B c x B1) (h1 : x = true → EJ X Γ B1 a d B2) (h2 : x = false → EJ X Γ B1 b d B2) : EJ X Γ B (.IfExp c a b pos) d B2 := fun g σ H0 H E O Q q =>
  ⟨_, pe_ifExp (wt c) (we a) (we b), h g σ H0 H E O _ fun H1 H' t o => by
    cases x with
    | true => exact iteT (h1 rfl g σ H1 H' (E.mono t.ex) o Q fun z H2 H'' t2 o2 r2 => q z H2 H'' (t.trans t2) o2 r2)
    | false => exact iteF (h2 rfl g σ H1 H' (E.mono t.ex) o Q fun z H2 H'' t2 o2 r2 => q z H2 H'' (t.trans t2) o2 r2)⟩
theorem sj_nil (h : E.nx Γ B) : SJ X Γ B [] E := fun g σ H0 H Ev O D G => ⟨_, pss_nil, G.nx Γ B σ H0 H h To.refl Ev O⟩
theorem sj_ret (h : EJ X Γ B e (.da da') B1) (hr : E.rt da' B1) : SJ X Γ B (.Return (some e) pos :: rest) E := fun g σ H0 H Ev O D G =>
  ⟨_, pss_cons (ps_ret (we e)) (ws rest), h g σ H0 H Ev O _ fun v H1 H' t o r => G.rt _ B1 v H1 H' hr t o r⟩
theorem sj_set (i : Nat) {x : Str} (nd : X.N.Nodup) (h : EJ X Γ B e d B1) (k : SJ X (Γ.set i d) B1 rest E) (hi : X.N[i]? = some x := by rfl)
    (hx : Loc X.env.scope x := by first | exact Or.inl rfl | exact Or.inr rfl) (hs : swapsWith e (some (.Name x pos')) pos.line X.env = pure false := by rfl)
    (hf : X.fn x = true ∨ X.env.scope.names.lookup x = some .local := by first | exact Or.inl rfl | exact Or.inr rfl) : SJ X Γ B (.Assign [.Name x pos'] e pos :: rest) E := fun g σ H0 H Ev O D G =>
  ⟨_, pss_cons (ps_set nd hi hx (we e) hs hf) (ws rest), h g σ H0 H Ev O _ fun v H1 H' t o r => k g _ H1 H' ((Ev.mono t.ex).set i r) o D (G.on t)⟩
theorem sj_if {x : Bool} (h : TJ X Γ B c x B1) (h1 : x = true → SJ X Γ B1 s1 { E with nx := fun Γ' B' => SJ X Γ' B' rest E }) (h2 : x = false → SJ X Γ B1 s2 { E with nx := fun Γ' B' => SJ X Γ' B' rest E }) :
    SJ X Γ B (.If c s1 s2 pos :: rest) E := fun g σ H0 H Ev O D G =>
  ⟨_, pss_cons (ps_if (wt c) (ws s1) (ws s2)) (ws rest), h g σ H0 H Ev O _ fun H1 H' t o => by
    have G' : Gets X { E with nx := fun Γ' B' => SJ X Γ' B' rest E } g H1 H' { D with nx := WS X rest D } :=
      ⟨fun Γ2 B2 σ2 H2 H'' q t2 ev o2 => q g σ2 H2 H'' ev o2 D (G.on (t.trans t2)), (G.on t).rt, (G.on t).bk, (G.on t).ct⟩
    cases x with
    | true => exact iteT (h1 rfl g σ H1 H' (Ev.mono t.ex) o _ G')
    | false => exact iteF (h2 rfl g σ H1 H' (Ev.mono t.ex) o _ G')⟩
theorem sj_when {x : Bool} (h : TJ X Γ B c x B1) (h1 : x = true → SJ X Γ B1 s1 { E with nx := fun Γ' B' => SJ X Γ' B' rest E }) (h2 : x = false → SJ X Γ B1 rest E) :
    SJ X Γ B (.If c s1 [] pos :: rest) E := sj_if h h1 fun e => sj_nil (h2 e)
theorem sj_mono {E' : En} (h : SJ X Γ B ss E) (h1 : ∀ Γ B, E.nx Γ B → E'.nx Γ B) (h2 : ∀ r B, E.rt r B → E'.rt r B) (h3 : ∀ Γ B, E.bk Γ B → E'.bk Γ B) (h4 : ∀ Γ B, E.ct Γ B → E'.ct Γ B) : SJ X Γ B ss E' :=
  fun g σ H0 H Ev O D G => h g σ H0 H Ev O D ⟨fun Γ B σ a b q => G.nx Γ B σ a b (h1 _ _ q), fun r B v a b q => G.rt r B v a b (h2 _ _ q), fun Γ B σ a b q => G.bk Γ B σ a b (h3 _ _ q), fun Γ B σ a b q => G.ct Γ B σ a b (h4 _ _ q)⟩
end
end Gd
namespace Gd
open PySem PySem.Spec PyProof.Rows L2
def cutP (ds : List PyData) (lo hi : Option Int) : List PyData := (ds.drop (HT.sIx ds.length 0 lo)).take (HT.sIx ds.length ds.length hi - HT.sIx ds.length 0 lo)
theorem RpAll.cut {K : PySem.W.Frag} {H : Hp} {xs : List V} {ds : List PyData} (r : RpAll K H xs ds) (lo hi : Option Int) : RpAll K H (cutV xs lo hi) (cutP ds lo hi) := by
  unfold cutV cutP
  rw [r.length]
  exact (r.drop _).take _
theorem RpAll.ints {K : PySem.W.Frag} {H : Hp} : ∀ ns : List Int, RpAll K H (ns.map V.int) (ns.map PyData.int)
  | [] => .nil
  | n :: ns => .cons (.int n) (RpAll.ints ns)
theorem RpAll.ints_of {K : PySem.W.Frag} {H : Hp} : ∀ {xs : List V} {ns : List Int}, RpAll K H xs (ns.map PyData.int) → xs = ns.map V.int
  | [], [], _ => rfl
  | _ :: _, n :: ns, .cons h r => by
    cases h
    rw [RpAll.ints_of r]; rfl
section
variable {X : Cx} {Γ : List VD} {B B1 B2 B3 B' : Bag} {e a b c : Expr} {es : List Expr} {d da db dc : VD} {pos p pos' : Pos} {rest ss s1 s2 : List Stmt} {E : En}
def OJ (X : Cx) (Γ : List VD) (B : Bag) (o : Option Expr) (v : Option Int) (B' : Bag) : Prop :=
  ∀ g σ H0 H, EnvD X.K g H0 σ Γ → On X.K g B H0 H → ∀ Q : Option Int → Hp → Prop,
    (∀ H0' H', To g H0 H H0' H' → On X.K g B' H0' H' → Q v H') → ∃ t, PO X o t ∧ t σ H Q
theorem oj_none : OJ X Γ B none none B := fun g σ H0 H _ O Q q => ⟨_, po_none, q H0 H To.refl O⟩
theorem oj_some {i : Int} (h : EJ X Γ B e (.da (.int i)) B1) : OJ X Γ B (some e) (some i) B1 := fun g σ H0 H E O Q q =>
  ⟨_, po_some (we e), h g σ H0 H E O _ fun v H1 H' t o r => ⟨i, rvI r, q H1 H' t o⟩⟩
def WO (X : Cx) (o : Option Expr) : TO := fun σ H Q => ∃ t, PO X o t ∧ t σ H Q
theorem wo (o : Option Expr) : PO X o (WO X o) := ⟨fun p s σ H Q I ⟨_, ht, h⟩ => ht.run p s σ H Q I h⟩
theorem ej_slice {r : V → Option Int → Option Int → Hp → VK → Prop} {lo hi : Option Expr} {l u : Option Int} {p2 : Pos} (hr : SlR X r) (ha : EJ X Γ B a da B1) (hl : OJ X Γ B1 lo l B2) (hu : OJ X Γ B2 hi u B3)
    (k : ∀ g v H0 H, On X.K g B3 H0 H → Rv X.K g H0 v da → ∀ Q : VK, (∀ z H0' H', To g H0 H H0' H' → On X.K g B3 H0' H' → Rv X.K g H0' z d → Q z H') → r v l u H Q) :
    EJ X Γ B (.Subscript a (.Slice lo hi none p2) pos) d B3 := fun g σ H0 H E O Q q =>
  ⟨_, pe_slice hr (we a) (wo lo) (wo hi), ha g σ H0 H E O _ fun v H1 H' t o rv => hl g σ H1 H' (E.mono t.ex) o _ fun H2 H'' t2 o2 =>
    hu g σ H2 H'' (E.mono (t.trans t2).ex) o2 _ fun H3 H3' t3 o3 => k g v H3 H3' o3 (rv.mono (t2.trans t3).ex) Q fun z H4 H4' t4 o4 r4 => q z H4 H4' (((t.trans t2).trans t3).trans t4) o4 r4⟩
theorem ej_sliceL {lo hi : Option Expr} {l u : Option Int} {p2 : Pos} {ds : List PyData} (ha : EJ X Γ B a (.da (.list ds)) B1) (hl : OJ X Γ B1 lo l B2) (hu : OJ X Γ B2 hi u B3) :
    EJ X Γ B (.Subscript a (.Slice lo hi none p2) pos) (.da (.list (cutP ds l u))) B3 :=
  ej_slice sl_list ha hl hu fun g v H0 H O r Q q => by
    obtain ⟨p, xs, rfl, hx, rs⟩ := rvL r
    refine ⟨p, xs, rfl, SqL.of (O.ex _ _ hx), fun n hn => ?_⟩
    obtain ⟨t2, o2⟩ := laid (o := .lst (cutV xs l u)) O hn
    exact q _ _ _ t2 o2 (Rp.lst upd_same ((rs.cut l u).mono t2.ex))
theorem ej_sliceT {lo hi : Option Expr} {l u : Option Int} {p2 : Pos} {ds : List PyData} (ha : EJ X Γ B a (.da (.tuple ds)) B1) (hl : OJ X Γ B1 lo l B2) (hu : OJ X Γ B2 hi u B3) :
    EJ X Γ B (.Subscript a (.Slice lo hi none p2) pos) (.da (.tuple (cutP ds l u))) B3 :=
  ej_slice sl_tupA ha hl hu fun g v H0 H O r Q q => by
    obtain ⟨p, xs, rfl, hx, rs⟩ := rvT r
    refine ⟨p, xs, rfl, seqT O.ex hx, fun w => ?_, fun _ n hn => ?_⟩
    · have e : cutP ds l u = ds := by
        rw [rs.length] at w
        unfold cutP
        rw [w.1, w.2]
        simp
      have q := q (.ref p) H0 H To.refl O
      rw [e] at q
      exact q (Rp.tup hx rs)
    · obtain ⟨t2, o2⟩ := laid (o := .tup (cutV xs l u)) O hn
      exact q _ _ _ t2 o2 (Rp.tup (SqT.of upd_same) ((rs.cut l u).mono t2.ex))
theorem ej_sliceScr {lo hi : Option Expr} {l u : Option Int} {p2 : Pos} {ns : List Int} (ha : EJ X Γ B a (.scr ns) B1) (hl : OJ X Γ B1 lo l B2) (hu : OJ X Γ B2 hi u B3) :
    EJ X Γ B (.Subscript a (.Slice lo hi none p2) pos) (.da (.list (cutP (ns.map .int) l u))) B3 :=
  ej_slice sl_list ha hl hu fun g v H0 H O r Q q => by
    obtain ⟨p, rfl, hx⟩ := r
    refine ⟨p, _, rfl, O.ex.seq hx, fun n hn => ?_⟩
    obtain ⟨t2, o2⟩ := laid (o := .lst (cutV (ns.map V.int) l u)) O hn
    exact q _ _ _ t2 o2 (Rp.lst upd_same ((RpAll.ints ns).cut l u))
theorem ej_bagAt {i : Int} {y : PyData} {k : Nat} (ha : EJ X Γ B a .bag B1) (hb : EJ X Γ B1 b (.da (.int i)) B2) (hi : i = (k : Int)) (hk : k = 0 ∧ y = .int B2.x ∨ k = 1 ∧ y = .int B2.y ∨ k = 2 ∧ y = .int B2.z ∨ k = 3 ∧ y = .list (B2.cs.map .int)) (hs : PlainIx b) :
    EJ X Γ B (.Subscript a b pos) (.da y) B2 :=
  ej_bin ha hb (fun _ _ h1 h2 => pe_ix ix_list h1 h2 hs) fun g v w H0 H O r1 r2 Q q => by
    obtain ⟨p, l, hg, rfl⟩ := r1
    obtain ⟨_, h2, h3⟩ := O.bag p l hg
    subst hi
    rcases hk with ⟨rfl, rfl⟩ | ⟨rfl, rfl⟩ | ⟨rfl, rfl⟩ | ⟨rfl, rfl⟩
    · exact ⟨p, _, _, _, rfl, rvI r2, SqL.of h2, rfl, q _ _ _ To.refl O (Rp.int _)⟩
    · exact ⟨p, _, _, _, rfl, rvI r2, SqL.of h2, rfl, q _ _ _ To.refl O (Rp.int _)⟩
    · exact ⟨p, _, _, _, rfl, rvI r2, SqL.of h2, rfl, q _ _ _ To.refl O (Rp.int _)⟩
    · exact ⟨p, _, _, _, rfl, rvI r2, SqL.of h2, rfl, q _ _ _ To.refl O (Rp.lst h3 (RpAll.ints _))⟩
theorem bagged {K : PySem.W.Frag} {g : Gh} {B B' : Bag} {H0 H : Hp} {a l : Addr} (O : On K g B H0 H) (hg : g = some (a, l)) (hc : B'.cs = B.cs) :
    To g H0 H H0 (upd H a (.lst (bagCells B' l))) ∧ On K g B' H0 (upd H a (.lst (bagCells B' l))) := by
  obtain ⟨h1, h2, h3⟩ := O.bag a l hg
  refine ⟨⟨Same.refl _, fun q u f e1 e2 => ⟨e1, ?_⟩⟩, ⟨fun q u e => ?_, fun q m e => ?_⟩⟩
  · rw [upd_ne (fun z => f l (by rw [z]; exact hg))]; exact e2
  · rw [upd_ne (ne_of_none e h1)]; exact O.ex _ _ e
  · rw [hg] at e; cases e
    exact ⟨h1, upd_same, by rw [hc]; exact h3⟩
theorem sj_bagSet {i n : Int} {k : Nat} {px : Pos} (hv : EJ X Γ B e (.da (.int n)) B1) (ha : EJ X Γ B1 a .bag B2) (hb : EJ X Γ B2 b (.da (.int i)) B3) (hi : i = (k : Int))
    (hk : k = 0 ∧ B' = { B3 with x := n } ∨ k = 1 ∧ B' = { B3 with y := n } ∨ k = 2 ∧ B' = { B3 with z := n }) (q : SJ X Γ B' rest E)
    (h1 : swapsWithSole [.Subscript a b px] e pos.line X.env = pure false := by rfl) (h2 : swappedStores [.Subscript a b px] e X.env = pure none := by rfl)
    (h3 : (assignEach [.Subscript a b px] X.env).map (·.2) = [assign (.Subscript a b px) X.env] := by rfl)
    (h4 : ∀ v, assign (.Subscript a b px) X.env v = (do
      let ov ← holding [v] (eval a X.env)
      let iv ← holding [v, ov] (eval b X.env)
      standAt px; holding [v, ov, iv] (setItem ov iv v)
      release [v, ov, iv] []) := by intro _; rfl) :
    SJ X Γ B (.Assign [.Subscript a b px] e pos :: rest) E := fun g σ H0 H Ev O D G =>
  ⟨_, pss_cons (ps_asg (we e) (pg_sub (we a) (we b) set_list h4) h1 h2 h3) (ws rest), hv g σ H0 H Ev O _ fun v H1 H' t o rv => ha g σ H1 H' (Ev.mono t.ex) o _ fun w H2 H'' t2 o2 rw' =>
    hb g σ H2 H'' (Ev.mono (t.trans t2).ex) o2 _ fun u H3 H3' t3 o3 ru => by
      obtain ⟨p, l, hg, rfl⟩ := rw'
      rw [rvI ru, rvI rv]
      subst hi
      obtain ⟨_, e2, _⟩ := o3.bag p l hg
      have tt := (t.trans t2).trans t3
      have fin : ∀ (H4 : Hp), H4 = upd H3' p (.lst (bagCells B' l)) → B'.cs = B3.cs → WS X rest D σ H4 := by
        rintro H4 rfl hc
        obtain ⟨t4, o4⟩ := bagged o3 hg hc
        exact q g σ H3 _ (Ev.mono tt.ex) o4 D (G.on (tt.trans t4))
      rcases hk with ⟨rfl, rfl⟩ | ⟨rfl, rfl⟩ | ⟨rfl, rfl⟩
      · exact ⟨p, _, _, 0, rfl, rfl, e2, rfl, fin _ rfl rfl⟩
      · exact ⟨p, _, _, 1, rfl, rfl, e2, rfl, fin _ rfl rfl⟩
      · exact ⟨p, _, _, 2, rfl, rfl, e2, rfl, fin _ rfl rfl⟩⟩
def rGetL : V → V → Hp → VK → Prop := fun o i H Q => ∃ p xs k v, o = .ref p ∧ i = .int ((k : Nat) : Int) ∧ H p = some (.lst xs) ∧ xs[k]? = some v ∧ k < 1000 ∧ Q v H
theorem get_list : PGet X rGetL := by
  intro pins s σ H o i ov iv Q I r1 r2 h
  obtain ⟨p, xs, k, v, rfl, rfl, hp, hv, hk, q⟩ := h
  cases (show ov = Value.ref p from r1)
  obtain ⟨t, rfl⟩ := r2
  obtain ⟨its, r, pl, hz⟩ := I.list (SqL.of hp)
  obtain ⟨u, hu, ru⟩ := r.get hv
  refine wpAny_getItem_list pl.isList (Int.natCast_nonneg k) (by omega) ?_ ⟨v, H, I, ru, q⟩
  rw [Int.toNat_natCast]; simpa using hu
theorem sj_bagAug {n : Int} {px : Pos} (ha : EJ X Γ B a .bag B1) (hb : EJ X Γ B1 b (.da (.int 2)) B2) (hv : EJ X Γ B2 e (.da (.int n)) B3) (hz : B3.z = B2.z) (q : SJ X Γ { B3 with z := B3.z + n } rest E)
    (h1 : ∀ ov iv new, augStore b ov iv new = (do holding [new, ov, iv] (setItem ov iv new); release [new, ov, iv] []; pure .next) := by intros; rfl) :
    SJ X Γ B (.AugAssign (.Subscript a b px) .Add e pos :: rest) E := fun g σ H0 H Ev O D G =>
  ⟨_, pss_cons (ps_augS (we a) (we b) get_list (we e) ip_add set_list h1) (ws rest), ha g σ H0 H Ev O _ fun w H1 H' t o rw' => hb g σ H1 H' (Ev.mono t.ex) o _ fun u H2 H'' t2 o2 ru => by
    obtain ⟨p, l, hg, rfl⟩ := rw'
    rw [rvI ru]
    obtain ⟨_, e2, _⟩ := o2.bag p l hg
    refine ⟨p, _, 2, .int B2.z, rfl, rfl, e2, rfl, by omega, ?_⟩
    refine hv g σ H2 H'' (Ev.mono (t.trans t2).ex) o2 _ fun v H3 H3' t3 o3 rv => ?_
    rw [rvI rv]
    obtain ⟨_, e3, _⟩ := o3.bag p l hg
    have tt := (t.trans t2).trans t3
    refine ⟨B2.z, n, rfl, rfl, p, _, 2, 2, rfl, rfl, e3, rfl, ?_⟩
    obtain ⟨t4, o4⟩ := bagged (B' := { B3 with z := B3.z + n }) o3 hg rfl
    rw [← hz]
    exact q g σ H3 _ (Ev.mono tt.ex) o4 D (G.on (tt.trans t4))⟩
theorem sj_while (nd : X.N.Nodup) (P : List VD → Bag → Prop) (μ : List VD → Bag → Nat) (h0 : P Γ B)
    (hs : ∀ Γ B, P Γ B → ∃ x, TJ X Γ B c x B ∧
      (x = true → SJ X Γ B s1 { nx := fun Γ' B' => P Γ' B' ∧ μ Γ' B' < μ Γ B, ct := fun Γ' B' => P Γ' B' ∧ μ Γ' B' < μ Γ B, bk := fun Γ' B' => SJ X Γ' B' rest E, rt := E.rt }) ∧
      (x = false → SJ X Γ B rest E))
    (hp : PassesOwn (model X.prog X.w) X.A X.env X.xe := by exact PassesOwn.never) : SJ X Γ B (.While c s1 [] pos :: rest) E := fun g σ H0 H Ev O D G =>
  ⟨_, pss_cons (ps_while hp (wt c) (ws s1)) (ws rest), by
    refine ⟨fun m σ' H' => ∃ Γ' B' H1, P Γ' B' ∧ μ Γ' B' = m ∧ To g H0 H H1 H' ∧ EnvD X.K g H1 σ' Γ' ∧ On X.K g B' H1 H', ⟨_, Γ, B, H0, h0, rfl, To.refl, Ev, O⟩, ?_⟩
    rintro m σ' H' ⟨Γ', B', H1, hP, rfl, t, ev, o⟩
    obtain ⟨x, ht, hb, hd⟩ := hs Γ' B' hP
    refine ht g σ' H1 H' ev o _ fun H2 H'' t2 o2 => ?_
    have tt := t.trans t2
    cases x with
    | true =>
      refine iteT ⟨fun σ2 H3' => ∃ m', m' < μ Γ' B' ∧ ∃ Γ2 B2 H3, P Γ2 B2 ∧ μ Γ2 B2 = m' ∧ To g H0 H H3 H3' ∧ EnvD X.K g H3 σ2 Γ2 ∧ On X.K g B2 H3 H3', fun _ _ z => z, ?_⟩
      refine hb rfl g σ' H2 H'' (ev.mono t2.ex) o2 _ ⟨?_, ?_, ?_, ?_⟩
      · rintro Γ3 B3 σ3 H3 H3' ⟨q1, q2⟩ t3 e3 o3
        exact ⟨_, q2, Γ3, B3, H3, q1, rfl, tt.trans t3, e3, o3⟩
      · intro r B3 v H3 H3' q t3 o3 rv
        exact (G.on tt).rt r B3 v H3 H3' q t3 o3 rv
      · intro Γ3 B3 σ3 H3 H3' q t3 e3 o3
        exact q g σ3 H3 H3' e3 o3 D (G.on (tt.trans t3))
      · rintro Γ3 B3 σ3 H3 H3' ⟨q1, q2⟩ t3 e3 o3
        exact ⟨_, q2, Γ3, B3, H3, q1, rfl, tt.trans t3, e3, o3⟩
    | false => exact iteF (hd rfl g σ' H2 H'' (ev.mono t2.ex) o2 D (G.on tt))⟩
theorem sj_forL (j : Nat) {x : Str} {ds : List PyData} {px : Pos} (nd : X.N.Nodup) (hc : X.calm = true) (P : Nat → List VD → Bag → Prop) (hi : EJ X Γ B e (.da (.list ds)) B1) (h0 : P 0 Γ B1)
    (hs : ∀ i y Γ' B', ds[i]? = some y → P i Γ' B' → SJ X (Γ'.set j (.da y)) B' s1 { nx := P (i + 1), ct := P (i + 1), bk := fun Γ' B' => SJ X Γ' B' rest E, rt := E.rt })
    (hd : ∀ Γ' B', P ds.length Γ' B' → SJ X Γ' B' rest E) (hN : X.N[j]? = some x := by rfl) (hx : Loc X.env.scope x := by first | exact Or.inl rfl | exact Or.inr rfl)
    (hf : X.fn x = true ∨ X.env.scope.names.lookup x = some .local := by first | exact Or.inl rfl | exact Or.inr rfl)
    (hp : PassesOwn (model X.prog X.w) X.A X.env X.xe := by exact PassesOwn.never) (hq : ∀ x, foldedSetIterable e X.env x = pure x := by intro _; rfl) :
    SJ X Γ B (.For (.Name x px) e s1 [] pos :: rest) E := fun g σ H0 H Ev O D G =>
  ⟨_, pss_cons (ps_for hp hc (pi_list (we e)) (pg_name nd hN hx hf) (ws s1) hq) (ws rest), hi g σ H0 H Ev O _ fun v H1 H' t o r => by
    obtain ⟨p, xs, rfl, hxs, rs⟩ := rvL r
    refine ⟨p, rfl, ⟨xs, SqL.of (o.ex _ _ hxs)⟩, ?_⟩
    refine for_list (xs := xs) (fun i σ' H'' => ∃ Γ' B' H2, P i Γ' B' ∧ To g H1 H' H2 H'' ∧ EnvD X.K g H2 σ' Γ' ∧ On X.K g B' H2 H'') ⟨Γ, B1, H1, h0, To.refl, Ev.mono t.ex, o⟩ ?_ ?_ ?_
    · rintro i σ' H'' _ ⟨Γ', B', H2, _, t2, _, o2⟩
      exact SqL.of (o2.ex _ _ (t2.ex _ _ hxs))
    · rintro i y σ' H'' hy ⟨Γ', B', H2, hP, t2, e2, o2⟩
      obtain ⟨d, hdi, rd⟩ := rs.get hy
      refine hs i d Γ' B' hdi hP g _ H2 H'' (e2.set j (Rp.mono t2.ex rd)) o2 _ ⟨?_, ?_, ?_, ?_⟩
      · intro Γ3 B3 σ3 H3 H3' q t3 e3 o3
        exact ⟨Γ3, B3, H3, q, t2.trans t3, e3, o3⟩
      · intro r B3 v H3 H3' q t3 o3 rv
        exact (G.on (t.trans t2)).rt r B3 v H3 H3' q t3 o3 rv
      · intro Γ3 B3 σ3 H3 H3' q t3 e3 o3
        exact q g σ3 H3 H3' e3 o3 D (G.on ((t.trans t2).trans t3))
      · intro Γ3 B3 σ3 H3 H3' q t3 e3 o3
        exact ⟨Γ3, B3, H3, q, t2.trans t3, e3, o3⟩
    · rintro σ' H'' ⟨Γ', B', H2, hP, t2, e2, o2⟩
      rw [rs.length] at hP
      exact hd Γ' B' hP g σ' H2 H'' e2 o2 D (G.on (t.trans t2))⟩
theorem sj_forT (j : Nat) {x : Str} {ds : List PyData} {px : Pos} (nd : X.N.Nodup) (hc : X.calm = true) (P : Nat → List VD → Bag → Prop) (hi : EJ X Γ B e (.da (.tuple ds)) B1) (h0 : P 0 Γ B1)
    (hs : ∀ i y Γ' B', ds[i]? = some y → P i Γ' B' → SJ X (Γ'.set j (.da y)) B' s1 { nx := P (i + 1), ct := P (i + 1), bk := fun Γ' B' => SJ X Γ' B' rest E, rt := E.rt })
    (hd : ∀ Γ' B', P ds.length Γ' B' → SJ X Γ' B' rest E) (hN : X.N[j]? = some x := by rfl) (hx : Loc X.env.scope x := by first | exact Or.inl rfl | exact Or.inr rfl)
    (hf : X.fn x = true ∨ X.env.scope.names.lookup x = some .local := by first | exact Or.inl rfl | exact Or.inr rfl)
    (hp : PassesOwn (model X.prog X.w) X.A X.env X.xe := by exact PassesOwn.never) (hq : ∀ x, foldedSetIterable e X.env x = pure x := by intro _; rfl) :
    SJ X Γ B (.For (.Name x px) e s1 [] pos :: rest) E := fun g σ H0 H Ev O D G =>
  ⟨_, pss_cons (ps_for hp hc (pi_tup (we e)) (pg_name nd hN hx hf) (ws s1) hq) (ws rest), hi g σ H0 H Ev O _ fun v H1 H' t o r => by
    obtain ⟨p, xs, rfl, hxs, rs⟩ := rvT r
    refine ⟨p, rfl, ⟨xs, seqT o.ex hxs⟩, ?_⟩
    refine for_tup (xs := xs) (fun i σ' H'' => ∃ Γ' B' H2, P i Γ' B' ∧ To g H1 H' H2 H'' ∧ EnvD X.K g H2 σ' Γ' ∧ On X.K g B' H2 H'') ⟨Γ, B1, H1, h0, To.refl, Ev.mono t.ex, o⟩ ?_ ?_ ?_
    · rintro i σ' H'' _ ⟨Γ', B', H2, _, t2, _, o2⟩
      exact seqT o2.ex (seqT t2.ex hxs)
    · rintro i y σ' H'' hy ⟨Γ', B', H2, hP, t2, e2, o2⟩
      obtain ⟨d, hdi, rd⟩ := rs.get hy
      refine hs i d Γ' B' hdi hP g _ H2 H'' (e2.set j (Rp.mono t2.ex rd)) o2 _ ⟨?_, ?_, ?_, ?_⟩
      · intro Γ3 B3 σ3 H3 H3' q t3 e3 o3
        exact ⟨Γ3, B3, H3, q, t2.trans t3, e3, o3⟩
      · intro r B3 v H3 H3' q t3 o3 rv
        exact (G.on (t.trans t2)).rt r B3 v H3 H3' q t3 o3 rv
      · intro Γ3 B3 σ3 H3 H3' q t3 e3 o3
        exact q g σ3 H3 H3' e3 o3 D (G.on ((t.trans t2).trans t3))
      · intro Γ3 B3 σ3 H3 H3' q t3 e3 o3
        exact ⟨Γ3, B3, H3, q, t2.trans t3, e3, o3⟩
    · rintro σ' H'' ⟨Γ', B', H2, hP, t2, e2, o2⟩
      rw [rs.length] at hP
      exact hd Γ' B' hP g σ' H2 H'' e2 o2 D (G.on (t.trans t2))⟩
theorem sj_par (i j : Nat) {x y : Str} {px py pt : Pos} {kt k2 pt2} {d1 d2 : VD} (nd : X.N.Nodup) (hc : X.calm = true) (h : AJ X Γ B [a, b] [d1, d2] B1) (k : SJ X ((Γ.set i d1).set j d2) B1 rest E)
    (hij : i ≠ j) (hw : swappedStores [.Tuple [.Name x px, .Name y py] kt pt] (.Tuple [a, b] k2 pt2) X.env = pure (some [x, y])) (hi : X.N[i]? = some x := by rfl) (hj : X.N[j]? = some y := by rfl)
    (hx : X.env.scope.names.lookup x = some .local := by rfl) (hy : X.env.scope.names.lookup y = some .local := by rfl)
    (hsw : swapsWithSole [.Tuple [.Name x px, .Name y py] kt pt] (.Tuple [a, b] k2 pt2) pos.line X.env = pure false := by rfl) :
    SJ X Γ B (.Assign [.Tuple [.Name x px, .Name y py] kt pt] (.Tuple [a, b] k2 pt2) pos :: rest) E := fun g σ H0 H Ev O D G =>
  ⟨_, pss_cons (ps_par hc nd hi hj hij hx hy (wa [a, b]) hw hsw) (ws rest), h g σ H0 H Ev O _ fun vs H1 H' t o r => by
    obtain ⟨v, w, rfl, r1, r2⟩ := rv2 r
    exact ⟨v, w, rfl, k g _ H1 H' (((Ev.mono t.ex).set i r1).set j r2) o D (G.on t)⟩⟩
def gNames : List Nat → TGs
  | [] => gNil
  | i :: is => gCons (gName i) (gNames is)
def setAll (Γ : List VD) : List Nat → List PyData → List VD
  | i :: is, d :: ds => setAll (Γ.set i (.da d)) is ds
  | _, _ => Γ
theorem gNames_run {K : PySem.W.Frag} {g : Gh} {H0 H : Hp} {Q : L2.St → Hp → Prop} : ∀ (is : List Nat) (vs : List V) (ds : List PyData) (σ : L2.St) (Γ : List VD), RpAll K H0 vs ds → is.length = ds.length → EnvD K g H0 σ Γ →
    (∀ σ', EnvD K g H0 σ' (setAll Γ is ds) → Q σ' H) → gNames is vs σ H Q
  | [], _, _, σ, Γ, .nil, _, e, q => ⟨rfl, q σ e⟩
  | i :: is, _, _, σ, Γ, .cons h r, hl, e, q => ⟨_, _, rfl, gNames_run is _ _ _ _ r (Nat.succ.inj hl) (e.set (d := .da _) i h) q⟩
theorem sj_unpack (is : List Nat) {ts : List Expr} {k} {pt : Pos} {ds : List PyData} (hc : X.calm = true) (h : EJ X Γ B e (.da (.tuple ds)) B1) (hg : PGs X ts (gNames is)) (hl : is.length = ds.length)
    (q : SJ X (setAll Γ is ds) B1 rest E) (hn : (assignEach ts X.env).length = ds.length := by rfl) (hst : (assignEach ts X.env).findIdx? (·.1) = none := by rfl)
    (h1 : swapsWithSole [.Tuple ts k pt] e pos.line X.env = pure false := by rfl) (h2 : swappedStores [.Tuple ts k pt] e X.env = pure none := by rfl)
    (h3 : (assignEach [.Tuple ts k pt] X.env).map (·.2) = [assign (.Tuple ts k pt) X.env] := by rfl) : SJ X Γ B (.Assign [.Tuple ts k pt] e pos :: rest) E := fun g σ H0 H Ev O D G =>
  ⟨_, pss_cons (ps_asg (we e) (pg_tup hc hg hn hst) h1 h2 h3) (ws rest), h g σ H0 H Ev O _ fun v H1 H' t o r => by
    obtain ⟨p, xs, rfl, hxs, rs⟩ := rvT r
    exact ⟨p, xs, rfl, seqT o.ex hxs, rs.length, gNames_run is xs ds σ Γ rs hl (Ev.mono t.ex) fun σ' e' => q g σ' H1 H' e' o D (G.on t)⟩⟩
def Blk (X : Cx) (scope : Scope) (J : Cx → Prop) : Prop := ∀ (s : Shared) (H : Hp) (C : Addr) (cl : List (Str × Addr)) (fp : List Addr), J (X.blk s H scope (compEnvC scope cl C X.env) fp)
def WB (X : Cx) (scope : Scope) (e : Expr) : TE := fun σ H Q => ∀ (s : Shared) (H' : Hp) (C : Addr) (cl : List (Str × Addr)) (fp : List Addr), WE (X.blk s H' scope (compEnvC scope cl C X.env) fp) e σ H Q
theorem wb (scope : Scope) (e : Expr) (s : Shared) (H : Hp) (C : Addr) (cl : List (Str × Addr)) (fp : List Addr) : PE (X.blk s H scope (compEnvC scope cl C X.env) fp) e (WB X scope e) :=
  ⟨fun pins s' σ H' Q I h => (we e).run pins s' σ H' Q I (h s H C cl fp)⟩
def WTB (X : Cx) (scope : Scope) (e : Expr) : TT := fun σ H Q => ∀ (s : Shared) (H' : Hp) (C : Addr) (cl : List (Str × Addr)) (fp : List Addr), WT (X.blk s H' scope (compEnvC scope cl C X.env) fp) e σ H Q
theorem wtb (scope : Scope) (e : Expr) (s : Shared) (H : Hp) (C : Addr) (cl : List (Str × Addr)) (fp : List Addr) : PT (X.blk s H scope (compEnvC scope cl C X.env) fp) e (WTB X scope e) :=
  ⟨fun pins s' σ H' Q I h => (wt e).run pins s' σ H' Q I (h s H C cl fp)⟩
structure LcI (K : PySem.W.Frag) (g : Gh) (H1 H' : Hp) (A : Addr) (acc : List PyData) (B : Bag) (H2 H'' : Hp) : Prop where
  to : To g H1 H' H2 H''
  new : H' A = none
  no : H2 A = none
  at' : ∃ zs, H'' A = some (.lst zs) ∧ RpAll K H2 zs acc
  on : On K g B H2 H''
theorem lcI_start {K : PySem.W.Frag} {g : Gh} {H1 H' : Hp} {A : Addr} (o : On K g B H1 H') (h : H' A = none) : Off g A ∧ LcI K g H1 H' A [] B H1 (upd H' A (.lst [])) := by
  have h1 : H1 A = none := o.ex.free h
  have off : Off g A := fun l e => by
    obtain ⟨_, q, _⟩ := o.bag A l e
    rw [h] at q; cases q
  refine ⟨off, ⟨⟨Same.refl _, fun q u f e1 e2 => ⟨e1, ?_⟩⟩, h, h1, ⟨[], upd_same, .nil⟩, ⟨fun q u e => ?_, fun q l e => ?_⟩⟩⟩
  · rw [upd_ne (ne_of_none e2 h)]; exact e2
  · rw [upd_ne (ne_of_none e h1)]; exact o.ex _ _ e
  · obtain ⟨q1, q2, q3⟩ := o.bag q l e
    exact ⟨q1, by rw [upd_ne (ne_of_none q2 h)]; exact q2, q3⟩
theorem lcI_app {K : PySem.W.Frag} {g : Gh} {H1 H' : Hp} {A : Addr} {acc : List PyData} {H2 H'' H3 H3' : Hp} {v : V} {y : PyData} (off : Off g A) (I : LcI K g H1 H' A acc B1 H2 H'') (t : To g H2 H'' H3 H3') (o : On K g B2 H3 H3') (r : Rp K H3 v y) :
    ∃ zs, H3' A = some (.lst zs) ∧ zs.length = acc.length ∧ LcI K g H1 H' A (acc ++ [y]) B2 H3 (upd H3' A (.lst (zs ++ [v]))) := by
  obtain ⟨zs, h1, h2⟩ := I.at'
  obtain ⟨h3, h4⟩ := t.un A _ off I.no h1
  refine ⟨zs, h4, h2.length, ⟨⟨I.to.ex.trans t.ex, fun q u f e1 e2 => ?_⟩, I.new, h3, ⟨_, upd_same, (h2.mono t.ex).app (.cons r .nil)⟩, ⟨fun q u e => ?_, fun q l e => ?_⟩⟩⟩
  · by_cases hq : q = A
    · subst hq
      have z := I.new
      rw [e2] at z; cases z
    · obtain ⟨q1, q2⟩ := I.to.un q u f e1 e2
      obtain ⟨q3, q4⟩ := t.un q u f q1 q2
      exact ⟨q3, by rw [upd_ne hq]; exact q4⟩
  · rw [upd_ne (ne_of_none e h3)]; exact o.ex _ _ e
  · obtain ⟨q1, q2, q3⟩ := o.bag q l e
    have hq : q ≠ A := fun z => off l (by rw [← z]; exact e)
    exact ⟨q1, by rw [upd_ne hq]; exact q2, q3⟩
theorem lcI_end {K : PySem.W.Frag} {g : Gh} {H0 H H1 H' : Hp} {A : Addr} {acc : List PyData} {H2 H'' : Hp} (off : Off g A) (t : To g H0 H H1 H') (I : LcI K g H1 H' A acc B H2 H'') :
    ∃ H3, To g H0 H H3 H'' ∧ On K g B H3 H'' ∧ Rp K H3 (.ref A) (.list acc) := by
  obtain ⟨zs, h1, h2⟩ := I.at'
  have tt := t.trans I.to
  have up : Same H2 (upd H2 A (.lst zs)) := fun q u e => by rw [upd_ne (ne_of_none e I.no)]; exact e
  refine ⟨upd H2 A (.lst zs), ⟨tt.ex.trans up, fun q u f e1 e2 => ?_⟩, ⟨fun q u e => ?_, fun q l e => ?_⟩, Rp.lst upd_same (h2.mono up)⟩
  · obtain ⟨q1, q2⟩ := tt.un q u f e1 e2
    have hq : q ≠ A := fun z => by
      subst z
      obtain ⟨_, q3⟩ := t.un q u f e1 e2
      rw [I.new] at q3; cases q3
    exact ⟨by rw [upd_ne hq]; exact q1, q2⟩
  · by_cases hq : q = A
    · subst hq; rw [upd_same] at e; cases e; exact h1
    · rw [upd_ne hq] at e; exact I.on.ex _ _ e
  · obtain ⟨q1, q2, q3⟩ := I.on.bag q l e
    have hq : q ≠ A := fun z => off l (by rw [← z]; exact e)
    have hl : l ≠ A := fun z => by rw [z, I.no] at q3; cases q3
    exact ⟨by rw [upd_ne hq]; exact q1, q2, by rw [upd_ne hl]; exact q3⟩
theorem wipe1 {σ : L2.St} {j : Nat} {v : Option V} : wipe ((wipe σ [j]).set j v) [j] = wipe σ [j] := by
  show (((σ.set j none).set j v).set j none) = σ.set j none
  rw [List.set_set, List.set_set]
theorem wipe_env {K : PySem.W.Frag} {g : Gh} {H0 : Hp} {σ : L2.St} {j : Nat} {v : V} {d : PyData} (Ev : EnvD K g H0 σ Γ) (r : Rp K H0 v d) : EnvD K g H0 ((wipe σ [j]).set j (some v)) (Γ.set j (.da d)) := by
  show EnvD K g H0 ((σ.set j none).set j (some v)) (Γ.set j (.da d))
  rw [List.set_set]
  exact Ev.set (d := .da d) j r
def RJ (X : Cx) (Γ : List VD) (B : Bag) (t : TE) (d : VD) (B' : Bag) : Prop :=
  ∀ g σ H0 H, EnvD X.K g H0 σ Γ → On X.K g B H0 H → ∀ Q : VK,
    (∀ v H0' H', To g H0 H H0' H' → On X.K g B' H0' H' → Rv X.K g H0' v d → Q v H') → t σ H Q
theorem ej_of {t : TE} (h : PE X e t) (r : RJ X Γ B t d B1) : EJ X Γ B e d B1 := fun g σ H0 H E O Q q => ⟨t, h, r g σ H0 H E O Q q⟩
section
variable {elt : Expr} {scope : Scope} {j : Nat} {x : Str} {px : Pos} {ds ys : List PyData}
theorem lc_turn {g : Gh} {H1 H' : Hp} {A : Addr} {acc : List PyData} {H'' H2 : Hp} {σ : L2.St} {v : V} {y z : PyData} {Nx : Hp → Prop} (off : Off g A) (Ev : EnvD X.K g H1 σ Γ) (I : LcI X.K g H1 H' A acc B1 H2 H'') (r : Rp X.K H2 v y)
    (hz : acc.length < 1000) (he : Blk X scope fun Y => EJ Y (Γ.set j (.da y)) B1 elt (.da z) B2) (k : ∀ H3 H3', LcI X.K g H1 H' A (acc ++ [z]) B2 H3 H3' → Nx H3') :
    gName j v (wipe σ [j]) H'' fun σ2 H2 => wipe σ2 [j] = wipe σ [j] ∧ tYes σ2 H2 fun b H3 => if b = true then WB X scope elt σ2 H3 fun y H4 => ∃ acc, H4 A = some (.lst acc) ∧ acc.length < sizeLine ∧ Nx (upd H4 A (.lst (acc ++ [y]))) else Nx H3 := by
  refine ⟨wipe1, ?_⟩
  unfold tYes
  refine iteT ?_
  intro s hH C cl fp
  refine he s hH C cl fp g _ H2 H'' (wipe_env (Ev.mono I.to.ex) r) I.on _ fun w H3 H3' t o rw' => ?_
  obtain ⟨zs, h1, h2, J⟩ := lcI_app off I t o rw'
  exact ⟨zs, h1, by rw [h2]; exact small1000 (Nat.le_of_lt hz), k _ _ J⟩
theorem rj_lc (Bs : Nat → Bag) (hi : EJ X Γ B e (.da (.list ds)) (Bs 0)) (hl : ys.length = ds.length) (hz : ds.length ≤ 1000)
    (hs : ∀ i y z, ds[i]? = some y → ys[i]? = some z → Blk X scope fun Y => EJ Y (Γ.set j (.da y)) (Bs i) elt (.da z) (Bs (i + 1))) :
    RJ X Γ B (tLc (iList X.K (WE X e)) (gName j) tYes (WB X scope elt) [j]) (.da (.list ys)) (Bs ds.length) := fun g σ H0 H Ev O Q q =>
  hi g σ H0 H Ev O _ fun v H1 H' t o r => by
    obtain ⟨p, xs, rfl, hxs, rs⟩ := rvL r
    refine ⟨p, rfl, ⟨xs, SqL.of (o.ex _ _ hxs)⟩, fun A hA => ?_⟩
    obtain ⟨off, I0⟩ := lcI_start o hA
    refine lc_list (xs := xs) (fun i H'' => ∃ H2, LcI X.K g H1 H' A (ys.take i) (Bs i) H2 H'') ⟨_, I0⟩ ?_ ?_ ?_
    · rintro i H'' _ ⟨H2, I⟩
      exact SqL.of (I.on.ex _ _ (I.to.ex _ _ hxs))
    · rintro i w H'' hw ⟨H2, I⟩
      obtain ⟨y, hy, ry⟩ := rs.get hw
      have hi2 : i < ys.length := by rw [hl]; exact (List.getElem?_eq_some_iff.mp hy).1
      have hyz : ys[i]? = some ys[i] := List.getElem?_eq_getElem hi2
      refine lc_turn off (Ev.mono t.ex) I (ry.mono I.to.ex) (by rw [List.length_take]; omega) (hs i y _ hy hyz) fun H3 H3' J => ⟨H3, ?_⟩
      rw [List.take_add_one, hyz]; exact J
    · rintro H'' ⟨H2, I⟩
      rw [rs.length, ← hl, List.take_length] at I
      obtain ⟨H3, t3, o3, r3⟩ := lcI_end off t I
      rw [hl] at o3
      exact q _ H3 H'' t3 o3 r3
theorem rj_lcT (Bs : Nat → Bag) (hi : EJ X Γ B e (.da (.tuple ds)) (Bs 0)) (hl : ys.length = ds.length) (hz : ds.length ≤ 1000)
    (hs : ∀ i y z, ds[i]? = some y → ys[i]? = some z → Blk X scope fun Y => EJ Y (Γ.set j (.da y)) (Bs i) elt (.da z) (Bs (i + 1))) :
    RJ X Γ B (tLc (iTup X.K (WE X e)) (gName j) tYes (WB X scope elt) [j]) (.da (.list ys)) (Bs ds.length) := fun g σ H0 H Ev O Q q =>
  hi g σ H0 H Ev O _ fun v H1 H' t o r => by
    obtain ⟨p, xs, rfl, hxs, rs⟩ := rvT r
    refine ⟨p, rfl, ⟨xs, seqT o.ex hxs⟩, fun A hA => ?_⟩
    obtain ⟨off, I0⟩ := lcI_start o hA
    refine lc_tup (xs := xs) (fun i H'' => ∃ H2, LcI X.K g H1 H' A (ys.take i) (Bs i) H2 H'') ⟨_, I0⟩ ?_ ?_ ?_
    · rintro i H'' _ ⟨H2, I⟩
      exact seqT I.on.ex (seqT I.to.ex hxs)
    · rintro i w H'' hw ⟨H2, I⟩
      obtain ⟨y, hy, ry⟩ := rs.get hw
      have hi2 : i < ys.length := by rw [hl]; exact (List.getElem?_eq_some_iff.mp hy).1
      have hyz : ys[i]? = some ys[i] := List.getElem?_eq_getElem hi2
      refine lc_turn off (Ev.mono t.ex) I (ry.mono I.to.ex) (by rw [List.length_take]; omega) (hs i y _ hy hyz) fun H3 H3' J => ⟨H3, ?_⟩
      rw [List.take_add_one, hyz]; exact J
    · rintro H'' ⟨H2, I⟩
      rw [rs.length, ← hl, List.take_length] at I
      obtain ⟨H3, t3, o3, r3⟩ := lcI_end off t I
      rw [hl] at o3
      exact q _ H3 H'' t3 o3 r3
theorem ej_lc (nd : X.N.Nodup) (hc : X.calm = true) (ok : BlkOk X.N X.env.scope scope [(x, j)])
    (hg : ∀ (s : Shared) (H : Hp) (C : Addr) (cl : List (Str × Addr)) (fp : List Addr), PG (X.blk s H scope (compEnvC scope cl C X.env) fp) (.Name x px) (gName j))
    (r : RJ X Γ B (tLc (iList X.K (WE X e)) (gName j) tYes (WB X scope elt) [j]) d B1) (hq : ∀ x, foldedSetIterable e X.env x = pure x := by intro _; rfl) :
    EJ X Γ B (.ListComp elt [⟨.Name x px, e, [], 0⟩] scope pos) d B1 := ej_of (pe_lc (own := [(x, j)]) hc nd (pi_list (we e)) ok hg (fun _ _ _ _ _ => pts_nil) (wb scope elt) hq) r
theorem ej_lcT (nd : X.N.Nodup) (hc : X.calm = true) (ok : BlkOk X.N X.env.scope scope [(x, j)])
    (hg : ∀ (s : Shared) (H : Hp) (C : Addr) (cl : List (Str × Addr)) (fp : List Addr), PG (X.blk s H scope (compEnvC scope cl C X.env) fp) (.Name x px) (gName j))
    (r : RJ X Γ B (tLc (iTup X.K (WE X e)) (gName j) tYes (WB X scope elt) [j]) d B1) (hq : ∀ x, foldedSetIterable e X.env x = pure x := by intro _; rfl) :
    EJ X Γ B (.ListComp elt [⟨.Name x px, e, [], 0⟩] scope pos) d B1 := ej_of (pe_lc (own := [(x, j)]) hc nd (pi_tup (we e)) ok hg (fun _ _ _ _ _ => pts_nil) (wb scope elt) hq) r
end
end
end Gd
namespace Gd
open PySem PySem.Spec PyProof.Rows L2
section
variable {X : Cx} {Γ : List VD} {B B1 B2 B3 B' : Bag} {e a b c : Expr} {es : List Expr} {d da db dc : VD} {pos p pos' : Pos} {rest ss s1 s2 : List Stmt} {E : En}
def CDivX (_ j : Int) : Prop := j ≠ 0 ∧ j.natAbs.log2 < 9000
theorem op_fdivX : OpR X (binaryOp .FloorDiv) (rI CDivX fun i j => .int (i.fdiv j)) :=
  opI fun i j _ _ _ _ _ hc q => PyProof.Rows.floordiv_int hc.1 q (.inl (PyProof.noPylong_of_log2 hc.2))
theorem ej_fdivX {i j : Int} (ha : EJ X Γ B a (.da (.int i)) B1) (hb : EJ X Γ B1 b (.da (.int j)) B2) (hc : CDivX i j) : EJ X Γ B (.BinOp a .FloorDiv b pos) (.da (.int (i.fdiv j))) B2 :=
  ej_iic ha hb op_fdivX hc fun _ => .int _
theorem ej_gcd {i j : Int} (hm : X.mg "gcd" = some (.builtin "math.gcd")) (ha : EJ X Γ B a (.da (.int i)) B1) (hb : EJ X Γ B1 b (.da (.int j)) B2) (hg : Gl X "gcd" := by rfl)
    (h1 : starEach [a, b] X.env = (false, eval a X.env) :: starEach [b] X.env := by rfl) (h2 : starEach [b] X.env = (false, eval b X.env) :: starEach [] X.env := by rfl)
    (hpl : (backTo pos (starEach [b] X.env)).any (·.1) = false := by rfl) :
    EJ X Γ B (.Call (.Name "gcd" p) [a, b] [] pos) (.da (.int (Nat.gcd i.natAbs j.natAbs : Nat))) B2 := fun g σ H0 H E O Q q =>
  ⟨_, pe_callBfun cr_gcd hg hm (wa [a, b]) (by decide) h1 hpl, (aj_cons ha (aj_cons hb aj_nil h2) h1) g σ H0 H E O _ fun vs H1 H' t o r => by
    obtain ⟨v, w, rfl, r1, r2⟩ := rv2 r
    exact ⟨i, j, by rw [rvI r1, rvI r2], q _ _ _ t o (Rp.int _)⟩⟩
theorem ej_tupleL {ds : List PyData} (hm : X.mg "tuple" = none) (ha : EJ X Γ B a (.da (.list ds)) B1) (hs : starEach [a] X.env = [(false, eval a X.env)] := by rfl) (hg : Gl X "tuple" := by rfl) :
    EJ X Γ B (.Call (.Name "tuple" p) [a] [] pos) (.da (.tuple ds)) B1 :=
  ej_callTy call_tuple_of hm (aj_cons ha aj_nil hs) (fun g vs H0 H O r Q q => by
    obtain ⟨v, rfl, h⟩ := rv1 r
    obtain ⟨p, xs, rfl, hx, rs⟩ := rvL h
    refine ⟨p, xs, rfl, .inl ⟨SqL.of (O.ex _ _ hx), fun n hn => ?_⟩⟩
    obtain ⟨t2, o2⟩ := laid (o := .tup xs) O hn
    exact q _ _ _ t2 o2 (Rp.tup (SqT.of upd_same) (rs.mono t2.ex))) (hg := hg) (he := hs)
theorem RpAll.strs_of {K : PySem.W.Frag} {H : Hp} : ∀ {xs : List V} {ns : List Str}, RpAll K H xs (ns.map PyData.str) → xs = ns.map V.str
  | [], [], _ => rfl
  | _ :: _, n :: ns, .cons h r => by
    cases h
    rw [RpAll.strs_of r]; rfl
end
theorem sj_law {X : Cx} {Γ : List VD} {B B1 : Bag} {e : Expr} {x : Str} {pos pos' : Pos} {rest : List Stmt} {ns : List Int} {y : Int} (i : Nat) (nd : X.N.Nodup)
    (h : EJ X Γ B e (.da (.list [.int 0, .int y, .int 0, .list (ns.map .int)])) B1)
    (k : SJ X ((List.replicate Γ.length VD.no).set i .bag) ⟨0, y, 0, ns⟩ rest { nx := fun _ _ => False, rt := fun r _ => r = .bool true })
    (hi : X.N[i]? = some x := by rfl) (hx : Loc X.env.scope x := by first | exact Or.inl rfl | exact Or.inr rfl) (hs : swapsWith e (some (.Name x pos')) pos.line X.env = pure false := by rfl)
    (hf : X.fn x = true ∨ X.env.scope.names.lookup x = some .local := by first | exact Or.inl rfl | exact Or.inr rfl)
    {σ : L2.St} {H0 H : Hp} (Ev : EnvD X.K none H0 σ Γ) (O : On X.K none B H0 H) {Q : VK} (q : ∀ H', Q (.bl true) H') :
    WS X (.Assign [.Name x pos'] e pos :: rest) { nx := fun _ H' => Q .non H', rt := Q } σ H :=
  ⟨_, pss_cons (ps_set nd hi hx (we e) hs hf) (ws rest), h none σ H0 H Ev O _ fun v H1 H' t o r => by
    obtain ⟨p, xs, rfl, hp, rs⟩ := rvL r
    cases rs with
    | cons r0 rs =>
    cases rs with
    | cons r1 rs =>
    cases rs with
    | cons r2 rs =>
    cases rs with
    | cons r3 rs =>
    cases rs
    cases r0; cases r1; cases r2
    cases r3 with
    | lst hl rl =>
    rename_i l zs
    have ez := rl.ints_of
    subst ez
    have hlp : l ≠ p := by
      intro z
      rw [z, hp] at hl
      have e1 := HO.lst.inj (Option.some.inj hl)
      cases ns with
      | nil => cases e1
      | cons n ns =>
        cases ns with
        | nil => cases e1
        | cons m ns =>
          cases ns with
          | nil => cases e1
          | cons m2 ns =>
            cases ns with
            | nil => cases e1
            | cons m3 ns => cases e1
    refine k (some (p, l)) _ (fun b => if b = p then none else H1 b) H' ⟨?_, ?_⟩ ⟨fun b u hb => ?_, fun b m hb => ?_⟩ _ ⟨?_, ?_, ?_, ?_⟩
    · rw [List.length_set, List.length_set, List.length_replicate]; exact Ev.len
    · intro j dd hj hne
      by_cases hij : i = j
      · subst hij
        have hlt : i < Γ.length := by
          have := (List.getElem?_eq_some_iff.mp hj).1
          rwa [List.length_set, List.length_replicate] at this
        rw [List.getElem?_set_self (by rw [List.length_replicate]; exact hlt)] at hj
        cases hj
        exact ⟨.ref p, List.getElem?_set_self (by rw [Ev.len]; exact hlt), p, l, rfl, rfl⟩
      · rw [List.getElem?_set_ne hij, List.getElem?_replicate] at hj
        split at hj
        · cases hj; exact absurd rfl hne
        · cases hj
    · by_cases hb2 : b = p
      · rw [if_pos hb2] at hb; cases hb
      · rw [if_neg hb2] at hb; exact o.ex _ _ hb
    · cases hb
      refine ⟨if_pos rfl, o.ex _ _ hp, ?_⟩
      rw [if_neg hlp]; exact hl
    · intro _ _ _ _ _ z; exact z.elim
    · rintro r2 B2 v H2 H2' rfl _ _ rv
      cases rv; exact q _
    · intro _ _ _ _ _ z; exact z.elim
    · intro _ _ _ _ _ z; exact z.elim⟩
def spLaw (K : PySem.W.Frag) : Sp := fun vs H Q _ => ∃ (a : Addr) (ns : List Int), vs = [.ref a] ∧ SqL K H a (ns.map V.int) ∧ ns.length ≤ 63 ∧ ∀ H', Q (.bl true) H'
theorem law_callG {P : Program} {w : World} {K : PySem.W.Frag} {mg mb : Str → Option Value} {k : Nat} {fa a : Addr} {fd : FuncData} {x : Str} {sp : Sp} {sx : Shared} {vs : List Value} {ns : List Int}
    (KI : K.In sx.heap) (hn1 : sx.heap.Ns mainGlobals mg) (hb : sx.heap.Ns builtinsNs mb) (hbb : ∀ x : Str, x ≠ "__name__" → mb x = bootBuiltins x) (hl0 : sx.heap.NoLimit) (hg : sx.gens = #[])
    (ha : sx.heap.get? a = some { cls := .type "list", data := .seq vs.toArray }) (hi : IntsAre vs ns) (hl : ns.length ≤ sizeLine) (hr : Room k callerA)
    (F : ∀ base : Heap, K.In base → base.Ns mainGlobals mg → FnG P w K mg base k fa fd [x] sp) (hbind : ∀ (s : Shared) (u : Value), BindsTo s fd ⟨[u], []⟩ [(x, u)])
    (hsp : ∀ H : Hp, SqL K H a (ns.map V.int) → sp [.ref a] H (fun v _ => v = .bl true) fun _ _ _ => False) :
    codeAny (model P w) callerA (.call (.ref fa) ⟨[.ref a], []⟩) (fun r s' => r = Except.ok (.ret (.bool true)) ∧ OldK sx.heap s'.heap ∧ s'.os = sx.os ∧ AllBare s'.gens) sx := by
  have rv := vals_ints hi
  have lenV := hi.length
  have main : ∀ H : Hp, Only H → SqL K H a (ns.map V.int) → HOk P w H sx.heap → (∀ b, H b ≠ none → b = a) → (H a ≠ none → K.lookup a = none) →
      codeAny (model P w) callerA (.call (.ref fa) ⟨[.ref a], []⟩) (fun r s' => r = Except.ok (.ret (.bool true)) ∧ OldK sx.heap s'.heap ∧ s'.os = sx.os ∧ AllBare s'.gens) sx := by
    intro H hO hS hok hA hK
    have free : ∀ b, (∃ o, sx.heap.get? b = some o ∧ ∃ es ep, o.data = .dict es ep) → H b = none := by
      rintro b ⟨o, e, es, ep, d⟩
      cases q : H b with
      | none => rfl
      | some u =>
        have eb : b = a := hA b (by simp [q])
        rw [eb, ha] at e
        cases e
        have dd : Data.seq vs.toArray _ = Data.dict es ep := d
        cases dd
    have nsK : ∀ {b : Addr} {m : Str → Option Value}, sx.heap.Ns b m → (hidT sx.heap H).Ns b m := by
      rintro b m ⟨o, es, ep, e, dd, r⟩
      exact ⟨o, es, ep, hidT_get e (free b ⟨o, e, es, ep, dd⟩), dd, r⟩
    have hKb : K.In (hidT sx.heap H) := by
      intro b o e
      refine hidT_get (KI b o e) ?_
      cases q : H b with
      | none => rfl
      | some u =>
        have eb : b = a := hA b (by simp [q])
        rw [eb, hK (by rw [← eb]; simp [q])] at e
        cases e
    obtain ⟨mc, l1, l2⟩ := hl0
    have hM : Mod K mg (hidT sx.heap H) := ⟨hKb, nsK hn1, ⟨mb, nsK hb, hbb⟩, mc, nsK l1, l2⟩
    have e0 : Env0 P w K mg (hidT sx.heap H) callerA [] sx H :=
      ⟨rfl, hM, fun b o e => of_hidT e, Nat.le_of_eq (hidT_size _ _), trivial, fun b z => absurd (show b ∈ ([] : List Addr) from z) (by simp), hok, .of_eq hg⟩
    have cc := (F _ hKb (nsK hn1)).run callerA [] sx H ⟨[.ref a], []⟩ [.ref a] [.ref a] _ _ rfl hr e0 (hbind sx (.ref a)) (.cons rfl .nil) (hsp H hS)
    refine codeAny_mono cc fun res s2 h => ?_
    match res, h with
    | .error _, h => exact h.elim
    | .ok .next, h => exact h.elim
    | .ok .brk, h => exact h.elim
    | .ok .cont, h => exact h.elim
    | .ok (.ret u), ⟨v, H', os, bare, un, hok', r', q⟩ =>
      have q' : v = .bl true := q
      subst q'
      obtain rfl : u = .bool true := r'
      refine ⟨rfl, .of_keep fun b o e => ?_, os, bare⟩
      cases q : H b with
      | none => exact un.keep b o e q (fun z => absurd (show b ∈ ([] : List Addr) from z) (by simp)) (by simp)
      | some u =>
        cases hO b with
        | inl z => rw [q] at z; cases z
        | inr z =>
          obtain ⟨ob, xs, z⟩ := z
          obtain ⟨e1, _⟩ := hok b _ z
          obtain ⟨e2, _⟩ := hok' b _ (un.frzs b ob _ z)
          rw [e] at e1; cases e1; exact e2
  cases hk : K.lookup a with
  | some o =>
    have e := KI a o hk
    rw [ha] at e
    cases e
    refine main (fun _ => none) (fun _ => .inl rfl) (.inr ⟨_, vs.toArray, _, hk, rfl, rfl, rfl, by rw [List.size_toArray, lenV]; exact hl, by simpa using rv⟩) ?_ (fun b z => absurd rfl z) fun z => absurd rfl z
    intro b u z
    have z' : (none : Option HO) = some u := z
    cases z'
  | none =>
    have at1 : ∀ b, b ≠ a → (if b = a then some (HO.frz { cls := .type "list", data := .seq vs.toArray } (.lst (ns.map V.int))) else none) = none := fun b h => if_neg h
    refine main (fun b => if b = a then some (.frz { cls := .type "list", data := .seq vs.toArray } (.lst (ns.map V.int))) else none) (fun b => ?_) (.inl (.inr ⟨_, if_pos rfl⟩)) (fun b u z => ?_) (fun b z => ?_) fun _ => hk
    · by_cases hb : b = a
      · exact Or.inr ⟨_, _, if_pos hb⟩
      · exact .inl (if_neg hb)
    · by_cases hb : b = a
      · have zz := (if_pos hb).symm.trans z
        cases zz
        subst hb
        exact ⟨ha, by simpa using hl, vs, _, rv, ha⟩
      · have z' := (at1 b hb).symm.trans z
        cases z'
    · by_cases hb : b = a
      · exact hb
      · exact absurd (at1 b hb) z
end Gd
namespace Gd
open PySem PySem.Spec PyProof.Rows L2
def Bd (n : Nat) (i : Int) : Prop := i.natAbs < 2 ^ n
theorem Bd.le {n m : Nat} {i : Int} (h : Bd n i) (e : n ≤ m) : Bd m i := Nat.lt_of_lt_of_le h (Nat.pow_le_pow_right (by decide) e)
theorem Bd.mul {n m : Nat} {i j : Int} (h : Bd n i) (k : Bd m j) : Bd (n + m) (i * j) := wide_lt h k
theorem Bd.add {n m : Nat} {i j : Int} (h : Bd n i) (k : Bd m j) : Bd (n + m + 1) (i + j) := by
  have h1 := h.le (Nat.le_add_right n m)
  have h2 := k.le (Nat.le_add_left m n)
  have := Int.natAbs_add_le i j
  unfold Bd at *
  rw [Nat.pow_succ]; omega
theorem Bd.neg {n : Nat} {i : Int} (h : Bd n i) : Bd n (-i) := by unfold Bd; rw [Int.natAbs_neg]; exact h
theorem Bd.abs {n : Nat} {i : Int} (h : Bd n i) : Bd n (if i < 0 then -i else i) := by
  split
  · exact h.neg
  · exact h
theorem Bd.mod {n : Nat} {i j : Int} (k : Bd n j) (h : 0 < j) : Bd n (i % j) := by
  have h1 := Int.emod_nonneg i (Int.ne_of_gt h)
  have h2 := Int.emod_lt_of_pos i h
  unfold Bd at *; omega
theorem Bd.nat {n a : Nat} (h : a < 2 ^ n) : Bd n (a : Int) := h
theorem cm {n m : Nat} {i j : Int} (h : Bd n i) (k : Bd m j) (e : n + m + 2 ≤ 1000000 := by decide) : CMulW i j :=
  wide_mul (h.le (Nat.le_succ n)) (k.le (Nat.le_succ m)) (Nat.succ_pos _) (Nat.succ_pos _) (by omega)
theorem cdv {n : Nat} {i j : Int} (k : Bd n j) (h : 0 < j) (e : n + 1 ≤ 9000 := by decide) : CDivW i j := wide_div h (k.le (Nat.le_succ n)) (Nat.succ_pos _) e
theorem cdx {n : Nat} {i j : Int} (k : Bd n j) (h : j ≠ 0) (e : n + 1 ≤ 9000 := by decide) : CDivX i j := ⟨h, (wide_div (i := i) (j := ((j.natAbs : Nat) : Int)) (by omega) (by rw [Int.natAbs_natCast]; exact k.le (Nat.le_succ n)) (Nat.succ_pos _) e).2⟩
section
variable {X : Cx} {Γ : List VD} {B B1 B2 B3 B' : Bag} {e a b c : Expr} {es : List Expr} {d da db dc : VD} {pos p pos' : Pos} {rest ss s1 s2 : List Stmt} {E : En}
def AD (X : Cx) (Γ : List VD) (B : Bag) (es : List Expr) (ds : List PyData) (B' : Bag) : Prop := AJ X Γ B es (ds.map .da) B'
theorem ad_nil : AD X Γ B [] [] B := aj_nil
theorem ad_cons {y : PyData} {ds : List PyData} (h : EJ X Γ B e (.da y) B1) (r : AD X Γ B1 es ds B2) (hs : starEach (e :: es) X.env = (false, eval e X.env) :: starEach es X.env := by rfl) : AD X Γ B (e :: es) (y :: ds) B2 := aj_cons h r hs
theorem ej_tupD {ds : List PyData} {k} (h : AD X Γ B es ds B1) (hl : ds.length ≤ 1000 := by decide) : EJ X Γ B (.Tuple es k pos) (.da (.tuple ds)) B1 := ej_tup h hl
theorem ej_lstD {ds : List PyData} (h : AD X Γ B es ds B1) (hl : ds.length ≤ 1000 := by decide) : EJ X Γ B (.List es pos) (.da (.list ds)) B1 := ej_lst h hl
theorem ej_at {ds : List PyData} {i : Int} {y : PyData} {j} (ha : EJ X Γ B a (.da (.tuple ds)) B1) (h : atI ds i = some y := by rfl) : EJ X Γ B (.Subscript a (.Constant (.int i) j p) pos) (.da y) B1 :=
  ej_ixT ha ej_int h fun _ _ => rfl
theorem ej_ifI {x : Bool} {u v : Int} (h : TJ X Γ B c x B1) (h1 : x = true → EJ X Γ B1 a (.da (.int u)) B2) (h2 : x = false → EJ X Γ B1 b (.da (.int v)) B2) : EJ X Γ B (.IfExp c a b pos) (.da (.int (bif x then u else v))) B2 :=
  ej_if h (fun e => by subst e; exact h1 rfl) fun e => by subst e; exact h2 rfl
theorem sj_ifM {x : Bool} (M : List VD → Bag → Prop) (h : TJ X Γ B c x B1) (h1 : x = true → SJ X Γ B1 s1 { E with nx := M }) (h2 : x = false → SJ X Γ B1 s2 { E with nx := M }) (k : ∀ Γ' B', M Γ' B' → SJ X Γ' B' rest E) :
    SJ X Γ B (.If c s1 s2 pos :: rest) E :=
  sj_if h (fun e => sj_mono (h1 e) (fun Γ' B' q => k Γ' B' q) (fun _ _ q => q) (fun _ _ q => q) (fun _ _ q => q)) (fun e => sj_mono (h2 e) (fun Γ' B' q => k Γ' B' q) (fun _ _ q => q) (fun _ _ q => q) (fun _ _ q => q))
theorem tj_neS {i j : Str} (ha : EJ X Γ B a (.da (.str i)) B1) (hb : EJ X Γ B1 b (.da (.str j)) B2) : TJ X Γ B (.Compare a [.NotEq] [b] pos) (!decide (i = j)) B2 :=
  tj_cmp ha hb op_ne (nomark _) fun g v w H0 H O r1 r2 Q q => by
    rw [rvS r1, rvS r2]
    have e : decide (V.str i = V.str j) = decide (i = j) := by
      by_cases h : i = j
      · subst h; simp
      · rw [decide_eq_false h, decide_eq_false fun z => h (V.str.inj z)]
    refine ⟨rfl, ?_⟩
    rw [e]; exact q H0 H To.refl O
theorem ej_mulC {i j : Int} (ha : EJ X Γ B a (.da (.int i)) B1) (hb : EJ X Γ B1 b (.da (.int j)) B2) (hc : CMul i j) : EJ X Γ B (.BinOp a .Mult b pos) (.da (.int (i * j))) B2 :=
  ej_iic ha hb op_mul hc fun _ => .int _
theorem ej_atL {ds : List PyData} {i : Int} {y : PyData} {j} (ha : EJ X Γ B a (.da (.list ds)) B1) (h : atI ds i = some y) : EJ X Γ B (.Subscript a (.Constant (.int i) j p) pos) (.da y) B1 :=
  ej_ixL ha ej_int h fun _ _ => rfl
theorem eqv_refl_of {y : PyData} (h : SeqAt.shaped y = true) : PyData.eqv y y = true := SeqAt.eqv_refl y (SeqAt.canLay_of_shaped h)
end
def At (K : PySem.W.Frag) (mg : Str → Option Value) (x : Str) (st : Stmt) (ps : List Str) : Prop :=
  ∃ f fd, Fun K x x st f fd ∧ mg x = some (.ref f) ∧ Binds K fd ps []
theorem cal_at {P : Program} {w : World} {K : PySem.W.Frag} {mg : Str → Option Value} {base : Heap} {x : Str} {st : Stmt}
    {N ps : List Str} {k : Nat} {R : Rel} (T : At K mg x st ps) (S : FnScope N ps (defScope st))
    (len : ∀ Γ B r B', R Γ B r B' → Γ.length = ps.length)
    (body : ∀ (f : Addr) (cdv : Value) (A : Around) (out : List Env) (s : Shared) (H : Hp) (E : XK),
      Gx k (cxOf CX0 P w K mg base N x (defScope st) f cdv A out s H E).nox → ∀ Γ B r B', R Γ B r B' →
      SJ (cxOf CX0 P w K mg base N x (defScope st) f cdv A out s H E).nox (Γ ++ List.replicate (N.length - ps.length) .no) B (defBody st)
        { nx := fun _ B2 => r = .none ∧ B2 = B', rt := fun d B2 => d = r ∧ B2 = B' }) :
    Cal P w K mg base x (k + 1) R := by
  obtain ⟨f, fd, F, hm, hb⟩ := T
  exact cal_of F hm hb S len fun cdv A out s H E G => body f cdv A out s H E G
end Gd
namespace Fr
open Gd PySem
open scoped Rat
def fq (q : Rat) : PyData := .tuple [.int q.num, .int (q.den : Int)]
def com (n d : Int) : Int := if d < 0 then -((Nat.gcd n.natAbs d.natAbs : Nat) : Int) else ((Nat.gcd n.natAbs d.natAbs : Nat) : Int)
theorem com_ne {n d : Int} (h : d ≠ 0) : com n d ≠ 0 := by
  have : 0 < Nat.gcd n.natAbs d.natAbs := Nat.gcd_pos_of_pos_right _ (by omega)
  unfold com; split <;> omega
theorem com_bd {n d : Int} {k : Nat} (h : d ≠ 0) (b : Bd k d) : Bd k (com n d) := by
  have h1 : Nat.gcd n.natAbs d.natAbs ≤ d.natAbs := Nat.gcd_le_right _ (by omega)
  unfold Bd com at *; split <;> omega
theorem red_num {n d : Int} (h : d ≠ 0) : n.fdiv (com n d) = (n /. d).num := by
  rw [Rat.num_divInt]
  have hg : (d.gcd n : Int) = (Nat.gcd n.natAbs d.natAbs : Nat) := by rw [Int.gcd_comm]; rfl
  rw [hg]
  unfold com
  by_cases hd : d < 0
  · rw [if_pos hd, Int.sign_eq_neg_one_of_neg hd, Int.neg_one_mul]
    have := Int.neg_fdiv_neg (-n) ((Nat.gcd n.natAbs d.natAbs : Nat) : Int)
    rw [Int.neg_neg] at this
    rw [this, Int.fdiv_eq_ediv_of_nonneg _ (Int.natCast_nonneg _)]
  · rw [if_neg hd, Int.sign_eq_one_of_pos (by omega), Int.one_mul, Int.fdiv_eq_ediv_of_nonneg _ (Int.natCast_nonneg _)]
theorem red_den {n d : Int} (h : d ≠ 0) : d.fdiv (com n d) = ((n /. d).den : Int) := by
  rw [Rat.den_divInt, if_neg h]
  have hg : d.gcd n = Nat.gcd n.natAbs d.natAbs := by rw [Int.gcd_comm]; rfl
  rw [hg]
  unfold com
  by_cases hd : d < 0
  · rw [if_pos hd]
    have := Int.neg_fdiv_neg (-d) ((Nat.gcd n.natAbs d.natAbs : Nat) : Int)
    rw [Int.neg_neg] at this
    rw [this, Int.fdiv_eq_ediv_of_nonneg _ (Int.natCast_nonneg _)]
    rw [Int.natCast_ediv]
    have : -d = (d.natAbs : Int) := by omega
    rw [this]
  · rw [if_neg hd, Int.fdiv_eq_ediv_of_nonneg _ (Int.natCast_nonneg _), Int.natCast_ediv]
    have : d = (d.natAbs : Int) := by omega
    conv => lhs; lhs; rw [this]
theorem divInt_bd {n d : Int} {a b : Nat} (h : d ≠ 0) (ha : Bd a n) (hb : Bd b d) : Bd a (n /. d).num ∧ Bd b ((n /. d).den : Int) := by
  constructor
  · rw [← red_num h]
    unfold Bd at *
    refine Nat.lt_of_le_of_lt ?_ ha
    rw [red_num h, Rat.num_divInt]
    refine Nat.le_trans (Int.natAbs_ediv_le_natAbs _ _) ?_
    rw [Int.natAbs_mul, Int.natAbs_sign_of_ne_zero h, Nat.one_mul]
    exact Nat.le_refl _
  · unfold Bd at *
    rw [Int.natAbs_natCast, Rat.den_divInt, if_neg h]
    exact Nat.lt_of_le_of_lt (Nat.div_le_self _ _) hb
theorem den_pos (q : Rat) : (0 : Int) < (q.den : Int) := Int.natCast_pos.mpr q.den_pos
theorem den_ne (q : Rat) : (q.den : Int) ≠ 0 := Int.ne_of_gt (den_pos q)
theorem self_div (q : Rat) : q.num /. (q.den : Int) = q := Rat.num_divInt_den q
theorem add_div (x y : Rat) : (x.num * (y.den : Int) + y.num * (x.den : Int)) /. ((x.den : Int) * (y.den : Int)) = x + y := by
  rw [← Rat.divInt_add_divInt _ _ (den_ne x) (den_ne y), self_div, self_div]
theorem mul_div (x y : Rat) : (x.num * y.num) /. ((x.den : Int) * (y.den : Int)) = x * y := by
  rw [← Rat.divInt_mul_divInt, self_div, self_div]
end Fr
namespace Gd
open PySem PySem.Spec PyProof.Rows L2
mutual
def nice : PyData → Bool
  | .none => true
  | .bool _ => true
  | .int i => decide (Nat.log2 i.natAbs < 1920)
  | .str x => x.cps.all fun c => c < 0x110000
  | .list xs => niceAll xs
  | .tuple xs => niceAll xs
  | .dict _ => false
def niceAll : List PyData → Bool
  | [] => true
  | x :: xs => nice x && niceAll xs
end
mutual
theorem nice_sh : ∀ d : PyData, nice d = true → d.showable = true
  | .none, _ => by simp only [PyData.showable]
  | .bool _, _ => by simp only [PyData.showable]
  | .int i, h => by simp only [nice] at h; simp only [PyData.showable]; exact h
  | .str _, _ => by simp only [PyData.showable]
  | .list xs, h => by simp only [nice] at h; simp only [PyData.showable]; exact nice_shA xs h
  | .tuple xs, h => by simp only [nice] at h; simp only [PyData.showable]; exact nice_shA xs h
  | .dict _, h => by simp only [nice] at h; cases h
theorem nice_shA : ∀ ds : List PyData, niceAll ds = true → PyData.showableAll ds = true
  | [], _ => by
    simp only [PyData.showableAll]
  | x :: xs, h => by
    simp only [niceAll, Bool.and_eq_true] at h
    simp only [PyData.showableAll, Bool.and_eq_true]; exact ⟨nice_sh x h.1, nice_shA xs h.2⟩
end
mutual
theorem nice_nd : ∀ d : PyData, nice d = true → d.hasDict = false
  | .none, _ => by simp only [PyData.hasDict]
  | .bool _, _ => by simp only [PyData.hasDict]
  | .int i, h => by simp only [PyData.hasDict]
  | .str _, _ => by simp only [PyData.hasDict]
  | .list xs, h => by simp only [nice] at h; simp only [PyData.hasDict]; exact nice_ndA xs h
  | .tuple xs, h => by simp only [nice] at h; simp only [PyData.hasDict]; exact nice_ndA xs h
  | .dict _, h => by simp only [nice] at h; cases h
theorem nice_ndA : ∀ ds : List PyData, niceAll ds = true → PyData.hasDictAll ds = false
  | [], _ => by simp only [PyData.hasDictAll]
  | x :: xs, h => by
    simp only [niceAll, Bool.and_eq_true] at h
    simp only [PyData.hasDictAll, Bool.or_eq_false_iff]; exact ⟨nice_nd x h.1, nice_ndA xs h.2⟩
end
mutual
theorem nice_lay : ∀ d : PyData, nice d = true → d.canLay0 = true
  | .none, _ => by simp only [PyData.canLay0]
  | .bool _, _ => by simp only [PyData.canLay0]
  | .int i, h => by simp only [PyData.canLay0]
  | .str _, h => by simp only [nice] at h; simp only [PyData.canLay0]; exact h
  | .list xs, h => by simp only [nice] at h; simp only [PyData.canLay0]; exact nice_layA xs h
  | .tuple xs, h => by simp only [nice] at h; simp only [PyData.canLay0]; exact nice_layA xs h
  | .dict _, h => by simp only [nice] at h; cases h
theorem nice_layA : ∀ ds : List PyData, niceAll ds = true → PyData.canLayAll0 ds = true
  | [], _ => by simp only [PyData.canLayAll0]
  | x :: xs, h => by
    simp only [niceAll, Bool.and_eq_true] at h
    simp only [PyData.canLayAll0, Bool.and_eq_true]; exact ⟨nice_lay x h.1, nice_layA xs h.2⟩
end
mutual
theorem nice_short : ∀ d : PyData, nice d = true → d.leavesShort 1921 = true
  | .none, _ => by simp only [PyData.leavesShort]
  | .bool _, _ => by simp only [PyData.leavesShort]
  | .int i, h => by
    simp only [nice, decide_eq_true_eq] at h
    simp only [PyData.leavesShort, decide_eq_true_eq, PyData.shown_int]
    exact int_text_len_1921 h
  | .str x, h => by
    simp only [nice] at h
    simp only [PyData.leavesShort, List.all_eq_true, decide_eq_true_eq]
    intro c hc
    have h2 := Array.all_eq_true'.mp h c (by simpa using hc)
    have h3 : c < 0x110000 := of_decide_eq_true h2
    omega
  | .list xs, h => by simp only [nice] at h; simp only [PyData.leavesShort]; exact nice_shortA xs h
  | .tuple xs, h => by simp only [nice] at h; simp only [PyData.leavesShort]; exact nice_shortA xs h
  | .dict _, h => by simp only [nice] at h; cases h
theorem nice_shortA : ∀ ds : List PyData, niceAll ds = true → PyData.leavesShortAll 1921 ds = true
  | [], _ => by simp only [PyData.leavesShortAll]
  | x :: xs, h => by
    simp only [niceAll, Bool.and_eq_true] at h
    simp only [PyData.leavesShortAll, Bool.and_eq_true]; exact ⟨nice_short x h.1, nice_shortA xs h.2⟩
end
structure Okd (d : PyData) : Prop where
  nice : Gd.nice d = true
  dp : d.depth ≤ 60
  bulk : d.bulk ≤ 5000
theorem Okd.shows {d : PyData} (h : Okd d) : Shows d := ⟨nice_sh d h.nice, nice_nd d h.nice, h.dp, by
  have h1 := PyData.shown_le_bulk 1921 (by decide) d (nice_short d h.nice)
  have h2 := h.bulk
  rw [show sizeLine = 16777216 from by decide]
  omega⟩
theorem Okd.shaped {d : PyData} (h : Okd d) : SeqAt.shaped d = true := by
  unfold SeqAt.shaped
  rw [nice_lay d h.nice, Bool.true_and, decide_eq_true_eq]
  have := h.dp; omega
theorem nice_int {n : Nat} {i : Int} (h : Bd n i) (e : n ≤ 1920 := by decide) : nice (.int i) = true := by
  simp only [nice, decide_eq_true_eq]
  by_cases h0 : 0 < n
  · exact Nat.lt_of_lt_of_le (PySem.Flt.log2_lt_of h0 h) e
  · have : n = 0 := by omega
    subst this
    have : i.natAbs = 0 := by unfold Bd at h; omega
    rw [this]; decide
theorem niceAll_cons {d : PyData} {ds : List PyData} (h : nice d = true) (r : niceAll ds = true) : niceAll (d :: ds) = true := by simp only [niceAll, h, r, Bool.and_self]
theorem niceAll_nil : niceAll [] = true := by simp only [niceAll]
theorem nice_list {ds : List PyData} (r : niceAll ds = true) : nice (.list ds) = true := by simp only [nice]; exact r
theorem nice_tuple {ds : List PyData} (r : niceAll ds = true) : nice (.tuple ds) = true := by simp only [nice]; exact r
end Gd
namespace Gd
open PySem PySem.Spec PyProof.Rows L2
theorem at_mk {K : PySem.W.Frag} {h : Heap} {mg : Str → Option Value} {x : Str} {st : Stmt} (ps : List Str) {f : Addr} {oc : Value} {od an : Option Addr} {osl : Array (Option Value)} {kV doc pm cdv ct : Value}
    (X : K.In h) (G : h.Ns mainGlobals mg) (a : PySem.W.nsIn K mainGlobals x = some (some (.ref f)))
    (l : K.lookup f = some ⟨oc, od, .func (PySem.W.fnOf x x (defArgs st) (defBody st) (defScope st) .none kV doc pm an cdv ct), osl⟩) (c : PySem.W.codeIn K cdv x = true) (k : PySem.W.keepIn K (.ref f) = true)
    (b : ∀ (kV doc pm : Value) (an : Option Addr) (cdv ct : Value) (us : List Value), us.length = ps.length → bindArgs (PySem.W.fnOf x x (defArgs st) (defBody st) (defScope st) .none kV doc pm an cdv ct) ⟨us, []⟩ = pure (ps.zip us)) :
    At K mg x st ps := ⟨f, _, fun_mk l c k, PySem.W.mg_of X G a, (fun_mk (st := st) l c k).binds b⟩
theorem law_mk {P : Program} {w : World} {K : PySem.W.Frag} {h : Heap} {mg : Str → Option Value} {st : Stmt} {fa f : Addr} {oc : Value} {od an : Option Addr} {osl : Array (Option Value)} {kV doc pm cdv ct : Value} {n : Nat}
    (X : K.In h) (G : h.Ns mainGlobals mg) (hfa : mg "law" = some (.ref fa)) (a : PySem.W.nsIn K mainGlobals "law" = some (some (.ref f)))
    (l : K.lookup f = some ⟨oc, od, .func (PySem.W.fnOf "law" "law" (defArgs st) (defBody st) (defScope st) .none kV doc pm an cdv ct), osl⟩) (c : PySem.W.codeIn K cdv "law" = true) (k : PySem.W.keepIn K (.ref f) = true)
    (b : ∀ (s : Shared) (v : Value), BindsTo s (PySem.W.fnOf "law" "law" (defArgs st) (defBody st) (defScope st) .none kV doc pm an cdv ct) ⟨[v], []⟩ [("_law_script", v)])
    (H : ∀ (base : Heap) (f : Addr) (fd : FuncData), Fun K "law" "law" st f fd → FnG P w K mg base n f fd ["_law_script"] (spLaw K)) :
    ∃ fd : FuncData, (∀ (s : Shared) (v : Value), BindsTo s fd ⟨[v], []⟩ [("_law_script", v)]) ∧ ∀ base : Heap, K.In base → base.Ns mainGlobals mg → FnG P w K mg base n fa fd ["_law_script"] (spLaw K) := by
  have e := hfa.symm.trans (PySem.W.mg_of X G a)
  cases e
  exact ⟨_, b, fun base _ _ => H base _ _ (fun_mk l c k)⟩
end Gd
namespace Gd
open PySem PySem.Spec PyProof.Rows L2
def keyT (e : Int × Value) : Str := match e.2 with | .str k _ => k | _ => Str.empty
def TxE (w : World) (e : Int × Value) : Prop := ∃ k tk, e.2 = Value.str k tk ∧ e.1 = hashStr w k
structure TxAt (w : World) (l : List Str) (o : Obj) (es : Array (Int × Value)) (t : SetTable) : Prop where
  ex : o.ExactSet
  el : ∀ e ∈ es.toList, TxE w e
  nd : (es.toList.map keyT).Nodup
  me : ∀ k, k ∈ es.toList.map keyT ↔ k ∈ l
  sz : es.size ≤ l.length
  ft : t.fits es.size = true
  ri : Ris t.place.toList
  ld : w.params.followText "set-order" = true ∨ t.led = true
def TxSet (w : World) (h : Heap) (a : Addr) (l : List Str) : Prop := ∃ o es ep t, h.get? a = some o ∧ o.data = .set es ep t ∧ TxAt w l o es t
theorem TxSet.at {w : World} {h h' : Heap} {a : Addr} {l : List Str} (R : TxSet w h a l) (k : ∀ o, h.get? a = some o → h'.get? a = some o) : TxSet w h' a l :=
  let ⟨o, es, ep, t, ho, r⟩ := R; ⟨o, es, ep, t, k o ho, r⟩
section
variable {P : Program} {w : World} {A : Around} {E : Value → Shared → Prop} {s : Shared} {a : Addr} {l : List Str}
end
end Gd
namespace Gd
open PySem PySem.Spec PyProof.Rows L2
section
variable {P : Program} {w : World} {A : Around} {s : Shared} {E : Value → Shared → Prop}
end
end Gd
namespace Gd
open PySem PySem.Spec PyProof.Rows L2
section
variable {P : Program} {w : World} {A : Around} {E : Value → Shared → Prop} {s : Shared} {a : Addr} {l : List Str}
end
section
variable {X : Cx}
end
end Gd
namespace Gd
open PySem PySem.Spec PyProof.Rows L2
structure Own (K : PySem.W.Frag) (i : Nat) (g : Gh) (A0 A1 : Hp) (a : Addr) (B : Bag) (Γ : List VD) (acc : List PyData) (σ : L2.St) (H0 H : Hp) : Prop where
  to : To g A0 A1 H0 H
  fr : A1 a = none
  off : Off g a
  ev : EnvD K g H0 σ Γ
  at' : σ[i]? = some (some (.ref a))
  no : H0 a = none
  ls : ∃ zs, H a = some (.lst zs) ∧ RpAll K H0 zs acc
  on : On K g B H0 H
theorem Own.freeze {K : PySem.W.Frag} {i : Nat} {g : Gh} {A0 A1 : Hp} {a : Addr} {B : Bag} {Γ : List VD} {acc : List PyData} {σ : L2.St} {H0 H : Hp} (O : Own K i g A0 A1 a B Γ acc σ H0 H) :
    ∃ H1, To g A0 A1 H1 H ∧ EnvD K g H1 σ (Γ.set i (.da (.list acc))) ∧ On K g B H1 H := by
  obtain ⟨zs, hz, rz⟩ := O.ls
  have sm : Same H0 (upd H0 a (.lst zs)) := fun b o e => by
    rw [upd_ne fun z : b = a => by rw [z, O.no] at e; cases e]; exact e
  refine ⟨upd H0 a (.lst zs), ⟨O.to.ex.trans sm, fun b o f h1 h2 => ?_⟩, ?_, ⟨fun b o e => ?_, fun b l e => ?_⟩⟩
  · have hb : b ≠ a := fun z => by rw [z, O.fr] at h2; cases h2
    obtain ⟨p, q⟩ := O.to.un b o f h1 h2
    exact ⟨by rw [upd_ne hb]; exact p, q⟩
  · have e := (O.ev.mono sm).set (v := .ref a) (d := .da (.list acc)) i (Rp.lst upd_same (rz.mono sm))
    have es : σ.set i (some (.ref a)) = σ := by
      apply List.ext_getElem?
      intro j
      by_cases hj : i = j
      · subst hj
        rw [List.getElem?_set_self (List.getElem?_eq_some_iff.mp O.at').1, O.at']
      · rw [List.getElem?_set_ne hj]
    rw [es] at e; exact e
  · by_cases hb : b = a
    · subst hb; rw [upd_same] at e; rw [hz]; exact e
    · rw [upd_ne hb] at e; exact O.on.ex b o e
  · obtain ⟨p, q, r⟩ := O.on.bag b l e
    have hb : b ≠ a := fun z => O.off l (z ▸ e)
    have hl : l ≠ a := fun z => by rw [z, O.no] at r; cases r
    exact ⟨by rw [upd_ne hb]; exact p, q, by rw [upd_ne hl]; exact r⟩
structure EnO where
  nx : List VD → Bag → List PyData → Prop
  fx : List VD → Bag → Prop
  rt : PyData → Bag → Prop
  bk : List VD → Bag → List PyData → Prop := fun _ _ _ => False
  ct : List VD → Bag → List PyData → Prop := fun _ _ _ => False
  ro : List PyData → Bag → Prop := fun _ _ => False
structure GetsO (X : Cx) (i : Nat) (E : EnO) (g : Gh) (A0 A1 : Hp) (a : Addr) (S : Hp) (D : Ends) : Prop where
  nx : ∀ Γ B acc σ H0 H, E.nx Γ B acc → Own X.K i g A0 A1 a B Γ acc σ H0 H → Same S H0 → D.nx σ H
  fx : ∀ Γ B σ H0 H, E.fx Γ B → To g A0 A1 H0 H → EnvD X.K g H0 σ Γ → On X.K g B H0 H → D.nx σ H
  rt : ∀ r B v H0 H, E.rt r B → To g A0 A1 H0 H → On X.K g B H0 H → Rp X.K H0 v r → D.rt v H
  bk : ∀ Γ B acc σ H0 H, E.bk Γ B acc → Own X.K i g A0 A1 a B Γ acc σ H0 H → Same S H0 → D.bk σ H
  ct : ∀ Γ B acc σ H0 H, E.ct Γ B acc → Own X.K i g A0 A1 a B Γ acc σ H0 H → Same S H0 → D.ct σ H
  ro : ∀ Γ B acc σ H0 H, E.ro acc B → Own X.K i g A0 A1 a B Γ acc σ H0 H → Same S H0 → D.rt (.ref a) H
theorem GetsO.on {X : Cx} {i : Nat} {E : EnO} {g : Gh} {A0 A1 : Hp} {a : Addr} {S S' : Hp} {D : Ends} (G : GetsO X i E g A0 A1 a S D) (e : Same S S') : GetsO X i E g A0 A1 a S' D :=
  ⟨fun Γ B acc σ H0 H q w m => G.nx Γ B acc σ H0 H q w (e.trans m), G.fx, G.rt, fun Γ B acc σ H0 H q w m => G.bk Γ B acc σ H0 H q w (e.trans m), fun Γ B acc σ H0 H q w m => G.ct Γ B acc σ H0 H q w (e.trans m), fun Γ B acc σ H0 H q w m => G.ro Γ B acc σ H0 H q w (e.trans m)⟩
def OwJ (X : Cx) (i : Nat) (Γ : List VD) (B : Bag) (acc : List PyData) (ss : List Stmt) (E : EnO) : Prop :=
  ∀ g σ A0 A1 a H0 H, Own X.K i g A0 A1 a B Γ acc σ H0 H → ∀ D : Ends, GetsO X i E g A0 A1 a H0 D → WS X ss D σ H
def FJ (X : Cx) (Γ : List VD) (B : Bag) (e : Expr) (ds : List PyData) (B' : Bag) : Prop :=
  ∀ g σ H0 H, EnvD X.K g H0 σ Γ → On X.K g B H0 H → ∀ Q : VK,
    (∀ a zs H0' H', To g H0 H H0' H' → On X.K g B' H0' H' → RpAll X.K H0' zs ds → H' a = none → Q (.ref a) (upd H' a (.lst zs))) → WE X e σ H Q
section
variable {X : Cx} {i : Nat} {Γ : List VD} {B B1 B2 B' : Bag} {acc ds : List PyData} {e a b c : Expr} {es : List Expr} {d da db : VD} {y : PyData} {pos p p1 p2 p3 pos' : Pos} {rest ss s1 s2 : List Stmt} {E : EnO}
theorem fj_lst (h : AJ X Γ B es (ds.map .da) B1) (hl : ds.length ≤ 1000) : FJ X Γ B (.List es pos) ds B1 := fun g σ H0 H E O Q q =>
  ⟨_, pe_lst (wa es), h g σ H0 H E O _ fun vs H1 H' t o rs => by
    have rs := RvAll.dat rs
    exact ⟨by rw [rs.length]; exact Nat.le_of_lt (small1000 hl), fun p n => q p vs H1 H' t o rs n⟩⟩
theorem sj_own {x : Str} {Es : En} (i : Nat) (nd : X.N.Nodup) (h : FJ X Γ B e ds B1) (hΓ : i < Γ.length)
    (k : OwJ X i (Γ.set i .no) B1 ds rest { nx := fun Γ' B' acc => Es.nx (Γ'.set i (.da (.list acc))) B', fx := Es.nx, rt := Es.rt, bk := fun Γ' B' acc => Es.bk (Γ'.set i (.da (.list acc))) B', ct := fun Γ' B' acc => Es.ct (Γ'.set i (.da (.list acc))) B' })
    (hi : X.N[i]? = some x := by rfl) (hx : Loc X.env.scope x := by first | exact Or.inl rfl | exact Or.inr rfl) (hs : swapsWith e (some (.Name x pos')) pos.line X.env = pure false := by rfl)
    (hf : X.fn x = true ∨ X.env.scope.names.lookup x = some .local := by first | exact Or.inl rfl | exact Or.inr rfl) : SJ X Γ B (.Assign [.Name x pos'] e pos :: rest) Es := fun g σ H0 H Ev O D G =>
  ⟨_, pss_cons (ps_set nd hi hx (we e) hs hf) (ws rest), h g σ H0 H Ev O _ fun a zs H1 H' t o r n => by
    have n1 : H1 a = none := o.ex.free n
    have off : Off g a := fun l z => by
      obtain ⟨_, q, _⟩ := o.bag a l z
      rw [n] at q; cases q
    have on : On X.K g B1 H1 (upd H' a (.lst zs)) := ⟨fun b u q => by
      rw [upd_ne (ne_of_none q n1)]; exact o.ex b u q, fun b l q => by
      obtain ⟨p1, p2, p3⟩ := o.bag b l q
      exact ⟨p1, by rw [upd_ne (ne_of_none p2 n)]; exact p2, p3⟩⟩
    have hi' : i < σ.length := by rw [Ev.len]; exact hΓ
    have ev : EnvD X.K g H1 (σ.set i (some (.ref a))) (Γ.set i .no) := (Ev.mono t.ex).set i (show Rv X.K g H1 (.ref a) .no from trivial)
    refine k g _ H1 H' a H1 _ ⟨⟨Same.refl _, fun b u f h1 h2 => ⟨h1, by rw [upd_ne (ne_of_none h2 n)]; exact h2⟩⟩, n, off, ev, List.getElem?_set_self hi', n1, ⟨zs, upd_same, r⟩, on⟩ D ⟨?_, ?_, ?_, ?_, ?_, ?_⟩
    · intro Γ' B' acc σ' H2 H2' q w _
      obtain ⟨H3, t3, e3, o3⟩ := w.freeze
      exact G.nx _ _ _ _ _ q (t.trans t3) e3 o3
    · intro Γ' B' σ' H2 H2' q t2 e2 o2
      exact G.nx _ _ _ _ _ q (t.trans t2) e2 o2
    · intro r B' v H2 H2' q t2 o2 rv
      exact G.rt _ _ _ _ _ q (t.trans t2) o2 rv
    · intro Γ' B' acc σ' H2 H2' q w _
      obtain ⟨H3, t3, e3, o3⟩ := w.freeze
      exact G.bk _ _ _ _ _ q (t.trans t3) e3 o3
    · intro Γ' B' acc σ' H2 H2' q w _
      obtain ⟨H3, t3, e3, o3⟩ := w.freeze
      exact G.ct _ _ _ _ _ q (t.trans t3) e3 o3
    · intro _ _ _ _ _ _ q; exact q.elim⟩
theorem ow_end (h : SJ X (Γ.set i (.da (.list acc))) B ss { nx := E.fx, rt := E.rt }) : OwJ X i Γ B acc ss E := fun g σ A0 A1 a H0 H w D G => by
  obtain ⟨H1, t, ev, o⟩ := w.freeze
  exact h g σ H1 H ev o D ⟨fun Γ' B' σ' H2 H2' q t2 e2 o2 => G.fx _ _ _ _ _ q (t.trans t2) e2 o2, fun r B' v H2 H2' q t2 o2 rv => G.rt _ _ _ _ _ q (t.trans t2) o2 rv, fun _ _ _ _ _ q => q.elim, fun _ _ _ _ _ q => q.elim⟩
theorem ow_nil (h : E.nx Γ B acc) : OwJ X i Γ B acc [] E := fun g σ A0 A1 a H0 H w D G => ⟨_, pss_nil, G.nx _ _ _ _ _ _ h w (Same.refl _)⟩
theorem Own.step {K : PySem.W.Frag} {g : Gh} {A0 A1 : Hp} {a : Addr} {σ : L2.St} {H0 H H0' H' : Hp} (w : Own K i g A0 A1 a B Γ acc σ H0 H) (t : To g H0 H H0' H') (o : On K g B1 H0' H') : Own K i g A0 A1 a B1 Γ acc σ H0' H' := by
  obtain ⟨zs, hz, rz⟩ := w.ls
  obtain ⟨p, q⟩ := t.un a _ w.off w.no hz
  exact ⟨w.to.trans t, w.fr, w.off, w.ev.mono t.ex, w.at', p, ⟨zs, q, rz.mono t.ex⟩, o⟩
theorem ow_app {x : Str} (nd : X.N.Nodup) (h : EJ X Γ B e (.da y) B1) (hl : acc.length < 1000) (k : OwJ X i Γ B1 (acc ++ [y]) rest E) (hi : X.N[i]? = some x := by rfl)
    (hv : Vis X.env.scope x := by first | exact Or.inl rfl | exact Or.inr (Or.inl rfl) | exact Or.inr (Or.inr rfl))
    (h1 : (x == ("__debug__" : Str)) = false := by decide) (h2 : (x == ("__classdict__" : Str)) = false := by decide)
    (hbase : attributeBase (.Name x p1) "append" X.env (eval (.Name x p1) X.env) = eval (.Name x p1) X.env := by rfl)
    (hfew : ((backTo p3 (starEach [e] X.env)).all (fun x => !x.1) && (backToKw p3 (keywordEach [] X.env)).all (fun x => x.1.isSome)
      && decide ([e].length + ([] : List Keyword).length + (if ([] : List Keyword).isEmpty then 0 else 1) < 30)) = true := by rfl)
    (hline : (p2.endLine == p3.line) = true := by rfl) (hst : starEach [e] X.env = [(false, eval e X.env)] := by rfl)
    (hs : swapsWith (.Call (.Attribute (.Name x p1) "append" p2) [e] [] p3) none pos.line X.env = pure false := by rfl) :
    OwJ X i Γ B acc (.Expr (.Call (.Attribute (.Name x p1) "append" p2) [e] [] p3) pos :: rest) E := fun g σ A0 A1 a H0 H w D G =>
  ⟨_, pss_cons (ps_expr (pe_bm PySem.F.plainAttrs_list PySem.F.slot_list_append PySem.F.type_list_append mt_append (pe_var hi hv h1 h2) (wa [e]) hbase hfew hline hst rfl) hs) (ws rest), by
    obtain ⟨zs, hz, rz⟩ := w.ls
    refine ⟨_, w.at', .inl ⟨rfl, _, SqL.of hz⟩, ?_⟩
    refine (aj_cons (ds := []) h aj_nil hst) g σ H0 H w.ev w.on _ fun vs H1 H' t o rs => ?_
    obtain ⟨v, rfl, rv⟩ := rv1 rs
    have w2 := w.step t o
    obtain ⟨zs2, hz2, rz2⟩ := w2.ls
    refine ⟨a, zs2, v, rfl, rfl, hz2, by rw [rz2.length]; exact small1000 (Nat.le_of_lt hl), ?_⟩
    refine k g σ A0 A1 a H1 _ ⟨⟨w2.to.ex, fun b u f q1 q2 => ?_⟩, w2.fr, w2.off, w2.ev, w2.at', w2.no, ⟨zs2 ++ [v], upd_same, rz2.app (.cons rv .nil)⟩, ⟨fun b u q => ?_, fun b l q => ?_⟩⟩ D (G.on t.ex)
    · obtain ⟨p, q⟩ := w2.to.un b u f q1 q2
      exact ⟨p, by rw [upd_ne (ne_of_none q2 w2.fr)]; exact q⟩
    · rw [upd_ne (ne_of_none q w2.no)]; exact w2.on.ex b u q
    · obtain ⟨p1, p2, p3⟩ := w2.on.bag b l q
      exact ⟨p1, by rw [upd_ne fun z : b = a => w2.off l (z ▸ q)]; exact p2, p3⟩⟩
end
end Gd
namespace Gd
open PySem PySem.Spec PyProof.Rows L2
section
variable {X : Cx} {Γ : List VD} {B B1 B2 B' : Bag} {e a b c : Expr} {es : List Expr} {d da db dc : VD} {pos p p' pos' : Pos} {rest ss s1 s2 : List Stmt} {E : En}
theorem ej_max {i j : Int} (hc : X.calm = true) (hm : X.mg "max" = none) (ha : EJ X Γ B a (.da (.int i)) B1) (hb : EJ X Γ B1 b (.da (.int j)) B2) (hg : Gl X "max" := by rfl)
    (h1 : starEach [a, b] X.env = (false, eval a X.env) :: starEach [b] X.env := by rfl) (h2 : starEach [b] X.env = (false, eval b X.env) :: starEach [] X.env := by rfl)
    (hpl : (backTo pos (starEach [b] X.env)).any (·.1) = false := by rfl) : EJ X Γ B (.Call (.Name "max" p) [a, b] [] pos) (.da (.int (max i j))) B2 :=
  ej_callB (call_max2 hc) hm (aj_cons ha (aj_cons hb aj_nil h2) h1) (fun g vs H0 H O r Q q => by
    obtain ⟨v, w, rfl, h, h'⟩ := rv2 r
    refine ⟨i, j, by rw [rvI h, rvI h'], ?_⟩
    have e : (if j > i then j else i) = max i j := by split <;> omega
    rw [e]; exact q _ _ _ To.refl O (Rp.int _)) (hg := hg) (hpl := hpl) (he := h1)
theorem ej_min {i j : Int} (hc : X.calm = true) (hm : X.mg "min" = none) (ha : EJ X Γ B a (.da (.int i)) B1) (hb : EJ X Γ B1 b (.da (.int j)) B2) (hg : Gl X "min" := by rfl)
    (h1 : starEach [a, b] X.env = (false, eval a X.env) :: starEach [b] X.env := by rfl) (h2 : starEach [b] X.env = (false, eval b X.env) :: starEach [] X.env := by rfl)
    (hpl : (backTo pos (starEach [b] X.env)).any (·.1) = false := by rfl) : EJ X Γ B (.Call (.Name "min" p) [a, b] [] pos) (.da (.int (min i j))) B2 :=
  ej_callB (call_min2 hc) hm (aj_cons ha (aj_cons hb aj_nil h2) h1) (fun g vs H0 H O r Q q => by
    obtain ⟨v, w, rfl, h, h'⟩ := rv2 r
    refine ⟨i, j, by rw [rvI h, rvI h'], ?_⟩
    have e : (if j < i then j else i) = min i j := by split <;> omega
    rw [e]; exact q _ _ _ To.refl O (Rp.int _)) (hg := hg) (hpl := hpl) (he := h1)
theorem RpAll.strs {K : PySem.W.Frag} {H : Hp} : ∀ ns : List Str, RpAll K H (ns.map V.str) (ns.map PyData.str)
  | [] => .nil
  | n :: ns => .cons (.str n) (RpAll.strs ns)
end
end Gd
namespace Gd
open PySem PySem.Spec PyProof.Rows L2
section
variable {X : Cx} {Γ : List VD} {B B1 B2 B' : Bag} {e a b c : Expr} {es : List Expr} {d da db dc : VD} {pos p p' pos' : Pos} {rest ss s1 s2 : List Stmt} {E : En}
theorem rv3 {K : PySem.W.Frag} {g : Gh} {H0 : Hp} {vs : List V} {d d' d'' : VD} (h : RvAll K g H0 vs [d, d', d'']) : ∃ v v' v'', vs = [v, v', v''] ∧ Rv K g H0 v d ∧ Rv K g H0 v' d' ∧ Rv K g H0 v'' d'' := by
  match vs, h with
  | [v, v', v''], h => exact ⟨v, v', v'', rfl, h.1, h.2.1, h.2.2.1⟩
theorem sj_par3 (i j l : Nat) {x y z : Str} {px py pz pt : Pos} {kt k2 pt2} {d1 d2 d3 : VD} (nd : X.N.Nodup) (hc : X.calm = true) (h : AJ X Γ B [a, b, c] [d1, d2, d3] B1) (k : SJ X (((Γ.set i d1).set j d2).set l d3) B1 rest E)
    (hij : i ≠ j) (hil : i ≠ l) (hjl : j ≠ l) (hw : swappedStores [.Tuple [.Name x px, .Name y py, .Name z pz] kt pt] (.Tuple [a, b, c] k2 pt2) X.env = pure (some [x, y, z])) (hi : X.N[i]? = some x := by rfl) (hj : X.N[j]? = some y := by rfl) (hl : X.N[l]? = some z := by rfl)
    (hx : X.env.scope.names.lookup x = some .local := by rfl) (hy : X.env.scope.names.lookup y = some .local := by rfl) (hz : X.env.scope.names.lookup z = some .local := by rfl)
    (hsw : swapsWithSole [.Tuple [.Name x px, .Name y py, .Name z pz] kt pt] (.Tuple [a, b, c] k2 pt2) pos.line X.env = pure false := by rfl) :
    SJ X Γ B (.Assign [.Tuple [.Name x px, .Name y py, .Name z pz] kt pt] (.Tuple [a, b, c] k2 pt2) pos :: rest) E := fun g σ H0 H Ev O D G =>
  ⟨_, pss_cons (ps_par3 hc nd hi hj hl hij hil hjl hx hy hz (wa [a, b, c]) hw hsw) (ws rest), h g σ H0 H Ev O _ fun vs H1 H' t o r => by
    obtain ⟨u, v, w, rfl, r1, r2, r3⟩ := rv3 r
    exact ⟨u, v, w, rfl, k g _ H1 H' ((((Ev.mono t.ex).set i r1).set j r2).set l r3) o D (G.on t)⟩⟩
theorem shaped_ii (a b : Int) : SeqAt.shaped (.tuple [.int a, .int b]) = true := by
  unfold SeqAt.shaped
  have h1 : (PyData.tuple [.int a, .int b]).canLay0 = true := by simp only [PyData.canLay0, PyData.canLayAll0, Bool.and_self]
  rw [h1]; rfl
theorem eqv_ii (a b c d : Int) : PyData.eqv (.tuple [.int a, .int b]) (.tuple [.int c, .int d]) = (decide (a = c) && decide (b = d)) := by
  simp only [PyData.eqv, PyData.eqvAll, Bool.and_true]
  rw [← eqv_int, ← eqv_int]
  simp only [PyData.eqv]
end
end Gd
namespace Gd
open PySem PySem.Spec PyProof.Rows L2
section
variable {X : Cx} {Γ : List VD} {B B1 B2 B' : Bag} {a b : Expr} {pos : Pos}
end
end Gd
namespace Gd
open PySem PySem.Spec PyProof.Rows L2
theorem Cal.name {P : Program} {w : World} {K : PySem.W.Frag} {mg : Str → Option Value} {base : Heap} {x y : Str} {k : Nat} {R : Rel} {mg' : Str → Option Value} (e : mg x = mg y) (c : Cal P w K mg base x k R) : Cal P w K mg base y k R := by
  obtain ⟨f, fd, ps, F, hm, h⟩ := c
  exact ⟨f, fd, ps, F, e ▸ hm, h⟩
end Gd
namespace Lw
open PySem PySem.Spec PyProof.Rows L2 Gd Fr
open scoped Rat
structure Qz (n d : Nat) (q : Rat) : Prop where
  nu : Bd n q.num
  de : Bd d (q.den : Int)
theorem Qz.le {n d n' d' : Nat} {q : Rat} (h : Qz n d q) (e : n ≤ n') (f : d ≤ d') : Qz n' d' q := ⟨h.nu.le e, h.de.le f⟩
theorem bd_sum {a n : Nat} {i j : Int} (h : Bd a i) (k : Bd n j) (N : Nat) (h1 : a < N) (h2 : n < N) : Bd N (i + j) := by
  have := Int.natAbs_add_le i j
  have e1 : 2 ^ a ≤ 2 ^ (N - 1) := Nat.pow_le_pow_right (by decide) (by omega)
  have e2 : 2 ^ n ≤ 2 ^ (N - 1) := Nat.pow_le_pow_right (by decide) (by omega)
  have e3 : 2 ^ N = 2 ^ (N - 1) * 2 := by rw [← Nat.pow_succ]; congr 1; omega
  unfold Bd at *
  omega
theorem Qz.add {n d m c : Nat} {x y : Rat} (h : Qz n d x) (k : Qz m c y) (N : Nat) (h1 : n + c < N) (h2 : m + d < N) : Qz N (d + c) (x + y) := by
  rw [← add_div]
  have hne : (x.den : Int) * (y.den : Int) ≠ 0 := Int.mul_ne_zero (den_ne x) (den_ne y)
  have hb := bd_sum (h.nu.mul k.de) (k.nu.mul h.de) N h1 h2
  exact ⟨(divInt_bd hne hb (h.de.mul k.de)).1, (divInt_bd hne hb (h.de.mul k.de)).2⟩
theorem Qz.neg {n d : Nat} {x : Rat} (h : Qz n d x) : Qz n d (-x) := ⟨by rw [Rat.neg_num]; exact h.nu.neg, by rw [Rat.neg_den]; exact h.de⟩
theorem Qz.mul {n d m c : Nat} {x y : Rat} (h : Qz n d x) (k : Qz m c y) : Qz (n + m) (d + c) (x * y) := by
  rw [← mul_div]
  have hne : (x.den : Int) * (y.den : Int) ≠ 0 := Int.mul_ne_zero (den_ne x) (den_ne y)
  exact ⟨(divInt_bd hne (h.nu.mul k.nu) (h.de.mul k.de)).1, (divInt_bd hne (h.nu.mul k.nu) (h.de.mul k.de)).2⟩
theorem cmz {n m : Nat} {i j : Int} (h : Bd n i) (k : Bd m j) (e : n ≤ 100000 := by omega) (e' : m ≤ 100000 := by omega) : CMulW i j := cm h k (by omega)
theorem Qz.nat {a n : Nat} (h : a < 2 ^ n) : Qz n 1 (a : Rat) := ⟨by rw [Rat.num_natCast]; exact Bd.nat h, by rw [Rat.den_natCast]; unfold Bd; decide⟩
inductive R_reduced : Rel
  | mk (n d : Int) (B : Bag) (h : d ≠ 0) (hn : Bd 8900 d) : R_reduced [.da (.int n), .da (.int d)] B (fq (n /. d)) B
inductive R_two (f : Rat → Rat → Rat) : Rel
  | mk (n d m c : Nat) (x y : Rat) (B : Bag) (hx : Qz n d x) (hy : Qz m c y) (h1 : n ≤ 90000) (h2 : m ≤ 90000) (h3 : d + c ≤ 8900) : R_two f [.da (fq x), .da (fq y)] B (fq (f x y)) B
def cmp (x y : Rat) : Int := if x < y then -1 else if y < x then 1 else 0
inductive R_cmp : Rel
  | mk (n d m c : Nat) (x y : Rat) (B : Bag) (hx : Qz n d x) (hy : Qz m c y) (h1 : n + d ≤ 90000) (h2 : m + c ≤ 90000) : R_cmp [.da (fq x), .da (fq y)] B (.int (cmp x y)) B
inductive R_below : Rel
  | mk (n d m c : Nat) (x y : Rat) (B : Bag) (hx : Qz n d x) (hy : Qz m c y) (h1 : n + d ≤ 90000) (h2 : m + c ≤ 90000) : R_below [.da (fq x), .da (fq y)] B (.bool (decide (x < y))) B
def absQ (x : Rat) : Rat := if x < 0 then -x else x
theorem num_neg_iff (x : Rat) : x.num < 0 ↔ x < 0 := by
  rw [Rat.lt_iff]
  show x.num < 0 ↔ x.num * 1 < 0 * _
  rw [Int.mul_one, Int.zero_mul]
theorem absQ_num (x : Rat) : (absQ x).num = (if x.num < 0 then -x.num else x.num) ∧ (absQ x).den = x.den := by
  unfold absQ
  by_cases h : x < 0
  · rw [if_pos h, if_pos ((num_neg_iff x).mpr h), Rat.neg_num, Rat.neg_den]; exact ⟨rfl, rfl⟩
  · rw [if_neg h, if_neg (fun z => h ((num_neg_iff x).mp z))]; exact ⟨rfl, rfl⟩
theorem Qz.abs {n d : Nat} {x : Rat} (h : Qz n d x) : Qz n d (absQ x) := by
  unfold absQ; split
  · exact h.neg
  · exact h
theorem absQ_nonneg (x : Rat) : 0 ≤ absQ x := by unfold absQ; split <;> grind
inductive R_one (v : Rat → PyData) : Rel
  | mk (x : Rat) (B : Bag) : R_one v [.da (fq x)] B (v x) B
def sgn (x : Rat) : Int := if x.num < 0 then 1 else 0
def pt (l m : Int) : Int := if l = 0 then 0 else if 2 * l < m then 1 else if 2 * l = m then 2 else 3
def absI (i : Int) : Int := if i < 0 then -i else i
theorem bd_pow {b : Nat} (k : Nat) (h : b < 2 ^ 6) : Bd (6 * k + 1) (((b ^ k : Nat) : Int)) := by
  unfold Bd
  rw [Int.natAbs_natCast, Nat.pow_succ, Nat.pow_mul]
  have := Nat.pow_le_pow_left (Nat.le_of_lt h) k
  have p : 0 < (2 ^ 6) ^ k := Nat.pow_pos (by decide)
  omega
def intAt (Γ : List VD) (i : Nat) : Int := match Γ[i]? with
  | some (.da (.int m)) => m
  | _ => 0
theorem pow_sq (b k : Nat) : ((b ^ k : Nat) : Int) * ((b ^ k : Nat) : Int) = ((b ^ (k + k) : Nat) : Int) := by rw [← Int.natCast_mul, ← Nat.pow_add]
theorem pow_up (b j k : Nat) : ((b ^ j : Nat) : Int) * ((b ^ k : Nat) : Int) = ((b ^ (j + k) : Nat) : Int) := by rw [← Int.natCast_mul, ← Nat.pow_add]
theorem half (m : Nat) : (m : Int) / 2 = ((m / 2 : Nat) : Int) := by omega
theorem turn_odd {j k m e : Nat} (h : j + k * m = e) (h1 : m % 2 = 1) : (j + k) + (k + k) * (m / 2) = e := by
  have : m = 2 * (m / 2) + 1 := by omega
  rw [this] at h
  generalize m / 2 = t at *
  grind
theorem turn_even {j k m e : Nat} (h : j + k * m = e) (h1 : ¬ m % 2 = 1) : j + (k + k) * (m / 2) = e := by
  have : m = 2 * (m / 2) := by omega
  rw [this] at h
  generalize m / 2 = t at *
  grind
theorem k_le {j k m e : Nat} (h : j + k * m = e) (h1 : 0 < m) : k ≤ e ∧ j ≤ e := by
  have : k * 1 ≤ k * m := Nat.mul_le_mul_left k h1
  omega
theorem j_end {j k m e : Nat} (h : j + k * m = e) (h1 : ¬ 0 < m) : j = e := by
  have : m = 0 := by omega
  subst this; omega
inductive R_pow : Rel
  | mk (b e : Nat) (B : Bag) (hb : b < 2 ^ 6) (he : e ≤ 20000) : R_pow [.da (.int b), .da (.int e)] B (.int ((b ^ e : Nat) : Int)) B
def pw (b : Nat) (e : Int) : Rat := if e < 0 then ((b ^ (-e).toNat : Nat) : Rat)⁻¹ else ((b ^ e.toNat : Nat) : Rat)
theorem fq_nat (n : Nat) : fq (n : Rat) = .tuple [.int n, .int 1] := by unfold fq; rw [Rat.num_natCast, Rat.den_natCast]; rfl
theorem fq_inv {n : Nat} (h : 0 < n) : fq ((n : Rat)⁻¹) = .tuple [.int 1, .int n] := by
  unfold fq
  rw [Rat.num_inv, Rat.den_inv, Rat.num_natCast, Rat.den_natCast, if_neg (by omega), Int.sign_eq_one_of_pos (by omega)]
  rfl
inductive R_power_of : Rel
  | mk (b : Nat) (e : Int) (B : Bag) (h0 : 0 < b) (hb : b < 2 ^ 6) (h1 : -20000 ≤ e) (h2 : e ≤ 20000) : R_power_of [.da (.int b), .da (.int e)] B (fq (pw b e)) B
inductive R_bag : Rel
  | mk (ns : List Int) (B : Bag) (hl : ns.length ≤ 63) : R_bag [.scr ns] B (.list [.int 0, .int 1234567891, .int 0, .list (((ns.take 63).map absI).map .int)]) B
theorem cut_head (ns : List Int) (n : Nat) : cutP (ns.map PyData.int) none (some (n : Int)) = (ns.take n).map PyData.int := by
  unfold cutP
  rw [HT.sIx_none, HT.sIx_nat, List.drop_zero, List.length_map, Nat.sub_zero, ← List.map_take]
  congr 1
  by_cases h : n ≤ ns.length
  · rw [Nat.min_eq_left h]
  · rw [Nat.min_eq_right (by omega), List.take_length, List.take_of_length_le (by omega)]
def cell (B : Bag) : Int := ((B.cs.drop (HT.sIx B.cs.length 0 (some B.z))) ++ [0]).headD 0
def stir (B : Bag) : Bag :=
  if B.x = 0 then ⟨if 10 ^ 18 ≤ cell B then cell B else B.x, (B.y * 48271 + cell B % 2147483647 + 7919 * (B.z + 1)) % 2147483647, B.z + 1, B.cs⟩ else B
def low (B : Bag) : Int := (((B.y + 1) * 39373) % 1000000007 * (((B.y + 1) * 39373) % 1000000007) % 998244353 * 30011) % 998244353 / 7
def tkV (B : Bag) (m : Int) : Int := if 0 < (stir B).x then (stir B).x % m else low (stir B) % m
def tkB (B : Bag) (m : Int) : Bag := if 0 < (stir B).x then { stir B with x := (stir B).x / m } else stir B
theorem tkV_ge (B : Bag) {m : Int} (h : 0 < m) : 0 ≤ tkV B m := by
  unfold tkV; split <;> exact Int.emod_nonneg _ (Int.ne_of_gt h)
theorem tkV_lt (B : Bag) {m : Int} (h : 0 < m) : tkV B m < m := by
  unfold tkV; split <;> exact Int.emod_lt_of_pos _ h
def Bok (B : Bag) : Prop := B.cs.length ≤ 63
theorem stir_ok {B : Bag} (h : Bok B) : Bok (stir B) := by
  unfold stir; split <;> exact h
theorem tkB_ok {B : Bag} (h : Bok B) (m : Int) : Bok (tkB B m) := by
  unfold tkB; split <;> exact stir_ok h
inductive R_take : Rel
  | mk (B : Bag) (m : Int) (h : 0 < m) (hb : Bd 8000 m) (hc : Bok B) : R_take [.bag, .da (.int m)] B (.int (tkV B m)) (tkB B m)
theorem drop_cell (B : Bag) : atI (cutP (B.cs.map PyData.int) (some B.z) none ++ [PyData.int 0]) 0 = some (.int (cell B)) := by
  have e : cutP (B.cs.map PyData.int) (some B.z) none = (B.cs.drop (HT.sIx B.cs.length 0 (some B.z))).map PyData.int := by
    unfold cutP
    rw [HT.sIx_none, List.length_map, ← List.map_drop, List.take_of_length_le]
    rw [List.length_map, List.length_drop]; omega
  rw [e]
  unfold cell
  cases B.cs.drop (HT.sIx B.cs.length 0 (some B.z)) with
  | nil => rfl
  | cons c cs =>
    show atI (PyData.int c :: _) ((0 : Nat) : Int) = some (.int c)
    exact atI_nat rfl
def pick (ds : List PyData) (B : Bag) : PyData := ds.getD (tkV B ds.length).toNat .none
inductive R_some : Rel
  | mk (B : Bag) (ds : List PyData) (h : 0 < ds.length) (hl : ds.length ≤ 1000) (hc : Bok B) : R_some [.bag, .da (.list ds)] B (pick ds B) (tkB B ds.length)
theorem pick_at (ds : List PyData) (B : Bag) (h : 0 < ds.length) : atI ds (tkV B ds.length) = some (pick ds B) := by
  have h0 := tkV_ge B (m := ds.length) (by omega)
  have h1 := tkV_lt B (m := ds.length) (by omega)
  have e : tkV B ds.length = ((tkV B ds.length).toNat : Int) := by omega
  have hlt : (tkV B ds.length).toNat < ds.length := by omega
  conv => lhs; rw [e]
  refine atI_nat ?_
  unfold pick
  rw [List.getD_eq_getElem?_getD, List.getElem?_eq_getElem hlt]; rfl
inductive R_alike : Rel
  | mk (d : PyData) (B : Bag) (h : Okd d) (hb : boxed d = true) : R_alike [.da d, .da d] B (.bool true) B
inductive R_common : Rel
  | mk (n d : Int) (B : Bag) : R_common [.da (.int n), .da (.int d)] B (.int (Nat.gcd n.natAbs d.natAbs : Nat)) B
theorem absI_nat (n : Int) : (if n < 0 then -n else n) = (n.natAbs : Int) := by split <;> omega
theorem com_if {n d : Int} (h : d ≠ 0) : (bif decide (0 < d) then ((Nat.gcd n.natAbs d.natAbs : Nat) : Int) else -((Nat.gcd n.natAbs d.natAbs : Nat) : Int)) = com n d := by
  unfold com
  by_cases h1 : 0 < d
  · rw [decide_eq_true h1, if_neg (by omega)]; rfl
  · rw [decide_eq_false h1, if_pos (by omega)]; rfl
end Lw
namespace Lw
open PySem PySem.Spec PyProof.Rows L2 Gd Fr
open scoped Rat
theorem ltle {a b c : Rat} (h : a < b) (k : b ≤ c) : a < c := by grind
theorem lelt {a b c : Rat} (h : a ≤ b) (k : b < c) : a < c := by grind
theorem pw_eq (b : Nat) (e : Int) : pw b e = (b : Rat) ^ e := by
  unfold pw
  by_cases h : e < 0
  · rw [if_pos h]
    have e1 : e = -((-e).toNat : Int) := by omega
    conv => rhs; rw [e1]
    rw [Rat.zpow_neg, Rat.zpow_natCast, Rat.natCast_pow]
  · rw [if_neg h]
    have e1 : e = (e.toNat : Int) := by omega
    conv => rhs; rw [e1]
    rw [Rat.zpow_natCast, Rat.natCast_pow]
section
variable {b p : Nat} (h2 : 2 ≤ b)
include h2
theorem b_pos : (0 : Rat) < (b : Rat) := Rat.natCast_pos.mpr (by omega)
theorem pw_pos (e : Int) : 0 < pw b e := by rw [pw_eq]; exact Rat.zpow_pos (b_pos h2)
theorem pw_ne (e : Int) : pw b e ≠ 0 := fun z => by have := pw_pos h2 e; rw [z] at this; exact absurd this (by decide)
theorem pw_add (x y : Int) : pw b (x + y) = pw b x * pw b y := by
  rw [pw_eq, pw_eq, pw_eq]
  exact Rat.zpow_add (fun z => by have := b_pos h2; rw [z] at this; exact absurd this (by decide)) x y
omit h2 in
theorem pw_nat (n : Nat) : pw b (n : Int) = ((b ^ n : Nat) : Rat) := by
  unfold pw; rw [if_neg (by omega), Int.toNat_natCast]
omit h2 in
theorem pw_of {e : Int} (h : 0 ≤ e) : pw b e = ((b ^ e.toNat : Nat) : Rat) := by
  unfold pw; rw [if_neg (by omega)]
theorem pw_ge1 {e : Int} (h : 0 ≤ e) : 1 ≤ pw b e := by
  rw [pw_of h]
  have : 1 ≤ b ^ e.toNat := Nat.pow_pos (by omega)
  exact Rat.natCast_le_natCast.mpr this
theorem pw_mono {x y : Int} (h : x ≤ y) : pw b x ≤ pw b y := by
  have e : y = (y - x) + x := by omega
  rw [e, pw_add h2]
  have h1 := pw_ge1 h2 (e := y - x) (by omega)
  have := Rat.mul_le_mul_of_nonneg_right h1 (Rat.le_of_lt (pw_pos h2 x))
  rw [Rat.one_mul] at this; exact this
def IsE (b p : Nat) (low : Int) (q : Rat) (e : Int) : Prop := low ≤ e ∧ q < pw b (p + e) ∧ (e = low ∨ pw b (p + e - 1) ≤ q)
theorem isE_uniq {low e e' : Int} {q : Rat} (h : IsE b p low q e) (h' : IsE b p low q e') : e = e' := by
  have key : ∀ {e e' : Int}, IsE b p low q e → IsE b p low q e' → ¬ e < e' := by
    rintro e e' ⟨a1, a2, a3⟩ ⟨b1, b2, b3⟩ hlt
    rcases b3 with b3 | b3
    · omega
    · have := pw_mono h2 (x := p + e) (y := p + e' - 1) (by omega)
      exact absurd (ltle a2 (Rat.le_trans this b3)) (Rat.lt_irrefl)
  have k1 := key h h'
  have k2 := key h' h
  omega
end
def Nq (b : Nat) (e : Int) (q : Rat) : Int := q.num * ((b ^ (-e).toNat : Nat) : Int)
def Dq (b : Nat) (e : Int) (q : Rat) : Int := (q.den : Int) * ((b ^ e.toNat : Nat) : Int)
def cQ (b : Nat) (e : Int) (q : Rat) : Int := Nq b e q / Dq b e q
def rQ (b : Nat) (e : Int) (q : Rat) : Int := Nq b e q % Dq b e q
def tQ (b : Nat) (e : Int) (q : Rat) : Rat := (rQ b e q : Rat) / (Dq b e q : Rat)
section
variable {b p : Nat} (h2 : 2 ≤ b)
include h2
theorem Dq_pos (e : Int) (q : Rat) : 0 < Dq b e q := Int.mul_pos (den_pos q) (Int.natCast_pos.mpr (Nat.pow_pos (by omega)))
theorem Dq_ne (e : Int) (q : Rat) : ((Dq b e q : Int) : Rat) ≠ 0 := fun z => by
  have := Dq_pos h2 e q
  have e0 : Dq b e q = 0 := Rat.intCast_inj.mp (z.trans (by rfl))
  omega
theorem unit_ND (e : Int) : pw b e * ((b ^ (-e).toNat : Nat) : Rat) = ((b ^ e.toNat : Nat) : Rat) := by
  by_cases h : e < 0
  · have h1 : e.toNat = 0 := by omega
    rw [h1, Nat.pow_zero]
    unfold pw; rw [if_pos h]
    have : ((b ^ (-e).toNat : Nat) : Rat) ≠ 0 := fun z => by
      have h3 : 0 < b ^ (-e).toNat := Nat.pow_pos (by omega)
      have := Rat.natCast_pos.mpr h3
      rw [z] at this; exact absurd this (by decide)
    rw [Rat.mul_comm, Rat.mul_inv_cancel _ this]; rfl
  · have h1 : (-e).toNat = 0 := by omega
    rw [h1, Nat.pow_zero, pw_of (by omega)]
    exact Rat.mul_one _
omit h2 in
theorem num_den (q : Rat) : q * ((q.den : Int) : Rat) = (q.num : Rat) := by
  have h := Rat.num_divInt_den q
  rw [Rat.divInt_eq_div] at h
  have hd : ((q.den : Int) : Rat) ≠ 0 := fun z => by
    have e0 : (q.den : Int) = 0 := Rat.intCast_inj.mp (z.trans (by rfl))
    exact den_ne q e0
  conv => lhs; lhs; rw [← h]
  exact Rat.div_mul_cancel hd
theorem ND (e : Int) (q : Rat) : q * (Dq b e q : Rat) = (Nq b e q : Rat) * pw b e := by
  unfold Dq Nq
  rw [Rat.intCast_mul, Rat.intCast_mul, ← num_den q, Rat.intCast_natCast, Rat.intCast_natCast, Rat.intCast_natCast, ← unit_ND h2 e]
  grind
theorem q_val (e : Int) (q : Rat) : q = ((cQ b e q : Rat) + tQ b e q) * pw b e := by
  have hne := Dq_ne h2 e q
  have h := ND h2 e q
  have hd := Int.emod_add_mul_ediv (Nq b e q) (Dq b e q)
  have hd' : (Nq b e q : Rat) = (rQ b e q : Rat) + (Dq b e q : Rat) * (cQ b e q : Rat) := by
    rw [← Rat.intCast_mul, ← Rat.intCast_add]
    exact congrArg _ hd.symm
  have ht : tQ b e q * (Dq b e q : Rat) = (rQ b e q : Rat) := Rat.div_mul_cancel hne
  have : q * (Dq b e q : Rat) = (((cQ b e q : Rat) + tQ b e q) * pw b e) * (Dq b e q : Rat) := by
    rw [h, hd', ← ht]; grind
  have h3 := congrArg (· / (Dq b e q : Rat)) this
  simp only [Rat.mul_div_cancel hne] at h3
  exact h3
theorem r_ge (e : Int) (q : Rat) : 0 ≤ rQ b e q := Int.emod_nonneg _ (Int.ne_of_gt (Dq_pos h2 e q))
theorem r_lt (e : Int) (q : Rat) : rQ b e q < Dq b e q := Int.emod_lt_of_pos _ (Dq_pos h2 e q)
theorem Dq_posQ (e : Int) (q : Rat) : (0 : Rat) < (Dq b e q : Rat) := Rat.intCast_lt_intCast.mpr (Dq_pos h2 e q)
theorem t_mul (e : Int) (q : Rat) : tQ b e q * (Dq b e q : Rat) = (rQ b e q : Rat) := Rat.div_mul_cancel (Dq_ne h2 e q)
theorem t_lt_iff (e : Int) (q : Rat) (m : Int) (k : Nat) (hk : 0 < k) : (k : Rat) * tQ b e q < (m : Rat) ↔ k * rQ b e q < m * Dq b e q := by
  rw [← Rat.mul_lt_mul_right (Dq_posQ h2 e q), Rat.mul_assoc, t_mul h2, ← Rat.intCast_natCast, ← Rat.intCast_mul, ← Rat.intCast_mul, Rat.intCast_lt_intCast]
theorem t_eq_iff (e : Int) (q : Rat) (m : Int) (k : Nat) : (k : Rat) * tQ b e q = (m : Rat) ↔ k * rQ b e q = m * Dq b e q := by
  rw [← Rat.intCast_inj, Rat.intCast_mul, Rat.intCast_mul, ← t_mul h2, Rat.intCast_natCast, ← Rat.mul_assoc]
  constructor
  · intro h; rw [h]
  · intro h
    have h3 := congrArg (· / (Dq b e q : Rat)) h
    simp only [Rat.mul_div_cancel (Dq_ne h2 e q)] at h3
    exact h3
theorem t_ge (e : Int) (q : Rat) : 0 ≤ tQ b e q := by
  rw [← Rat.not_lt]
  intro h
  have := (t_lt_iff h2 e q 0 1 (by decide)).mp (by rw [show ((1 : Nat) : Rat) = 1 from rfl, Rat.one_mul]; exact h)
  have := r_ge h2 e q
  omega
theorem t_lt1 (e : Int) (q : Rat) : tQ b e q < 1 := by
  have := (t_lt_iff h2 e q 1 1 (by decide)).mpr (by have := r_lt h2 e q; omega)
  rw [show ((1 : Nat) : Rat) = 1 from rfl, Rat.one_mul] at this; exact this
theorem t_zero (e : Int) (q : Rat) : tQ b e q = 0 ↔ rQ b e q = 0 := by
  have := t_eq_iff h2 e q 0 1
  rw [show ((1 : Nat) : Rat) = 1 from rfl, Rat.one_mul] at this
  rw [show ((0 : Int) : Rat) = 0 from rfl] at this
  rw [this]; constructor <;> intro <;> omega
end
end Lw
namespace Lw
open PySem PySem.Spec PyProof.Rows L2 Gd Fr
open scoped Rat
theorem cast_lt {a c : Int} : (a : Rat) < (c : Rat) ↔ a < c := Rat.intCast_lt_intCast
theorem cast_le {a c : Int} : (a : Rat) ≤ (c : Rat) ↔ a ≤ c := Rat.intCast_le_intCast
theorem cast_s (a : Int) : ((a + 1 : Int) : Rat) = (a : Rat) + 1 := by rw [Rat.intCast_add]; rfl
section
variable {b p : Nat} (h2 : 2 ≤ b)
include h2
theorem c_ge {q : Rat} (h : 0 ≤ q) (e : Int) : 0 ≤ cQ b e q :=
  Int.ediv_nonneg (Int.mul_nonneg (Rat.num_nonneg.mpr h) (Int.natCast_nonneg _)) (Int.le_of_lt (Dq_pos h2 e q))
theorem c_le (e : Int) (q : Rat) : (cQ b e q : Rat) * pw b e ≤ q := by
  have hv := q_val h2 e q
  have := Rat.mul_le_mul_of_nonneg_right (show (cQ b e q : Rat) ≤ (cQ b e q : Rat) + tQ b e q by have := t_ge h2 e q; grind) (Rat.le_of_lt (pw_pos h2 e))
  rw [← hv] at this; exact this
theorem c_up (e : Int) (q : Rat) : q < ((cQ b e q : Rat) + 1) * pw b e := by
  have hv := q_val h2 e q
  have := Rat.mul_lt_mul_of_pos_right (show (cQ b e q : Rat) + tQ b e q < (cQ b e q : Rat) + 1 by have := t_lt1 h2 e q; grind) (pw_pos h2 e)
  rw [← hv] at this; exact this
theorem pw_p (n : Nat) (e : Int) : pw b (n + e) = (((b ^ n : Nat) : Int) : Rat) * pw b e := by rw [pw_add h2, pw_nat, Rat.intCast_natCast]
theorem c_lt {low e : Int} {q : Rat} (h : IsE b p low q e) : cQ b e q < ((b ^ p : Nat) : Int) := by
  have h1 := lelt (c_le h2 e q) h.2.1
  rw [pw_p h2, Rat.mul_lt_mul_right (pw_pos h2 e)] at h1
  exact cast_lt.mp h1
theorem c_big {low e : Int} {q : Rat} (hp : 1 ≤ p) (h : IsE b p low q e) : e = low ∨ ((b ^ (p - 1) : Nat) : Int) ≤ cQ b e q := by
  rcases h.2.2 with h | h
  · exact .inl h
  · refine .inr ?_
    have e1 : (p : Int) + e - 1 = ((p - 1 : Nat) : Int) + e := by omega
    rw [e1, pw_p h2] at h
    have h1 := lelt h (c_up h2 e q)
    rw [Rat.mul_lt_mul_right (pw_pos h2 e), ← cast_s] at h1
    have := cast_lt.mp h1
    omega
def Can (b p : Nat) (low C e : Int) : Prop := 0 ≤ C ∧ C < ((b ^ p : Nat) : Int) ∧ low ≤ e ∧ (e = low ∨ ((b ^ (p - 1) : Nat) : Int) ≤ C)
theorem spot_can {low e : Int} {q : Rat} (hp : 1 ≤ p) (h0 : 0 ≤ q) (h : IsE b p low q e) : Can b p low (cQ b e q) e := ⟨c_ge h2 h0 e, c_lt h2 h, h.1, c_big h2 hp h⟩
theorem isE_ex (low : Int) (q : Rat) : ∃ e, IsE b p low q e := by
  have step : ∀ n : Nat, q < pw b (p + (low + n)) → ∃ e, IsE b p low q e := by
    intro n
    induction n with
    | zero => intro h; exact ⟨low, Int.le_refl _, by rw [show (low + (0 : Nat) : Int) = low by omega] at h; exact h, .inl rfl⟩
    | succ n ih =>
      intro h
      by_cases h1 : q < pw b (p + (low + n))
      · exact ih h1
      · refine ⟨low + (n + 1 : Nat), by omega, h, .inr ?_⟩
        rw [show (p : Int) + (low + (n + 1 : Nat)) - 1 = p + (low + n) by omega]
        exact Rat.not_lt.mp h1
  refine step (q.num.natAbs + (-(p + low)).toNat) ?_
  have h1 : pw b (q.num.natAbs : Int) ≤ pw b (p + (low + (q.num.natAbs + (-(p + low)).toNat : Nat))) := pw_mono h2 (by omega)
  refine ltle ?_ h1
  rw [pw_nat]
  have h3 : q.num.natAbs < b ^ q.num.natAbs := Nat.lt_pow_self (by omega)
  by_cases hq : 0 ≤ q
  · have h4 : q ≤ (q.num : Rat) := by
      have hd := num_den q
      have h5 : (1 : Rat) ≤ ((q.den : Int) : Rat) := cast_le.mpr (show 1 ≤ (q.den : Int) by have := den_pos q; omega)
      have := Rat.mul_le_mul_of_nonneg_left h5 hq
      rw [hd, Rat.mul_one] at this; exact this
    refine lelt h4 ?_
    rw [← Rat.intCast_natCast]
    exact cast_lt.mpr (by omega)
  · rw [Rat.not_le] at hq
    have := Rat.natCast_pos.mpr (show 0 < b ^ q.num.natAbs by omega)
    exact ltle hq (Rat.le_of_lt this)
end
open Classical in
noncomputable def eQ (b p : Nat) (low : Int) (q : Rat) : Int := if h : ∃ e, IsE b p low q e then h.choose else low
theorem eQ_is {b p : Nat} (h2 : 2 ≤ b) (low : Int) (q : Rat) : IsE b p low q (eQ b p low q) := by
  have h := isE_ex (p := p) h2 low q
  unfold eQ; rw [dif_pos h]; exact h.choose_spec
theorem eQ_of {b p : Nat} (h2 : 2 ≤ b) {low e : Int} {q : Rat} (h : IsE b p low q e) : eQ b p low q = e := isE_uniq h2 (eQ_is h2 low q) h
def words (l : List Str) : PyData := .tuple (l.map .str)
def nm (s c e : Int) : PyData := .tuple [.str "num", .int s, .int c, .int e]
def isInf (way : Str) (s : Int) : Bool := decide (way = "even" ∨ way = "away") || (decide (way = "up") && decide (s = 0)) || (decide (way = "down") && decide (s = 1))
end Lw
set_option exponentiation.threshold 4000
namespace Lw
open PySem PySem.Spec PyProof.Rows L2 Gd Fr
open scoped Rat
structure Fm (b p : Nat) (low high : Int) : Prop where
  b2 : 2 ≤ b
  b6 : b < 2 ^ 6
  p2 : 2 ≤ p
  p7 : p ≤ 120
  lo : -1200 ≤ low
  lh : low ≤ high
  hi : high ≤ 1200
  bp : b ^ p < 2 ^ 700
  bl : b ^ (-low).toNat < 2 ^ 2340
  bh : b ^ high.toNat < 2 ^ 2340
def fmP (b p : Nat) (low high : Int) : PyData := .tuple [.int b, .int p, .int low, .int high]
theorem pw_bd {b : Nat} (h2 : 2 ≤ b) {e : Int} {n d : Nat} (hn : b ^ e.toNat < 2 ^ n) (hd : b ^ (-e).toNat < 2 ^ d) (h1 : 1 ≤ n) (h1' : 1 ≤ d) : Qz n d (pw b e) := by
  unfold pw
  by_cases h : e < 0
  · rw [if_pos h]
    have hp : 0 < b ^ (-e).toNat := Nat.pow_pos (by omega)
    refine ⟨?_, ?_⟩
    · rw [Rat.num_inv, Rat.num_natCast, Rat.den_natCast]
      have : (((b ^ (-e).toNat : Nat) : Int)).sign = 1 := Int.sign_eq_one_of_pos (by omega)
      rw [this]
      exact (show Bd 1 (1 * ((1 : Nat) : Int)) by unfold Bd; decide).le h1
    · rw [Rat.den_inv, Rat.num_natCast, if_neg (by omega), Int.natAbs_natCast]
      exact Bd.nat hd
  · rw [if_neg h]
    exact ⟨by rw [Rat.num_natCast]; exact Bd.nat hn, by rw [Rat.den_natCast]; exact (show Bd 1 ((1 : Nat) : Int) by unfold Bd; decide).le h1'⟩
section
variable {b p : Nat} {low high : Int} (F : Fm b p low high)
include F
theorem Fm.pow_lo {e : Int} (h : low ≤ e) : b ^ (-e).toNat < 2 ^ 2340 := Nat.lt_of_le_of_lt (Nat.pow_le_pow_right (by have := F.b2; omega) (by omega)) F.bl
theorem Fm.pow_hi {e : Int} (h : e ≤ high) : b ^ e.toNat < 2 ^ 2340 := Nat.lt_of_le_of_lt (Nat.pow_le_pow_right (by have := F.b2; omega) (by omega)) F.bh
theorem Fm.qz {e : Int} (h : low ≤ e) (h' : e ≤ high) : Qz 2340 2340 (pw b e) := pw_bd F.b2 (F.pow_hi h') (F.pow_lo h) (by decide) (by decide)
theorem Fm.e_bd {q : Rat} {e : Int} {n d : Nat} (hq : Qz n d q) (h0 : 0 ≤ q) (hE : IsE b p low q e) : (q.den * b ^ e.toNat < 2 ^ n ∧ 0 < e ∧ low < e) ∨ (e ≤ 0 ∨ e = low) := by
  by_cases h : 0 < e ∧ low < e
  · refine .inl ⟨?_, h⟩
    have h3 := hE.2.2
    have h4 : pw b (p + e - 1) ≤ q := by
      rcases h3 with z | z
      · omega
      · exact z
    have h5 : pw b (e : Int) ≤ q := Rat.le_trans (pw_mono F.b2 (by have := F.p2; omega)) h4
    have hd0 : (0 : Rat) ≤ ((q.den : Int) : Rat) := cast_le.mpr (Int.le_of_lt (den_pos q))
    have h6 := Rat.mul_le_mul_of_nonneg_right h5 hd0
    rw [num_den, pw_of (by omega), ← Rat.intCast_natCast, ← Rat.intCast_mul] at h6
    have h7 := cast_le.mp h6
    have h8 := hq.nu
    unfold Bd at h8
    have h9 : (q.den : Int) * ((b ^ e.toNat : Nat) : Int) ≤ q.num := by rw [Int.mul_comm]; exact h7
    have h10 : ((q.den * b ^ e.toNat : Nat) : Int) ≤ q.num := by rw [Int.natCast_mul]; exact h9
    omega
  · exact .inr (by have := hE.1; omega)
theorem Fm.D_bd {q : Rat} {e : Int} {n d : Nat} (hq : Qz n d q) (h0 : 0 ≤ q) (hE : IsE b p low q e) (hn : n ≤ 8900) (hd : d ≤ 6500) : Bd 8900 (Dq b e q) := by
  unfold Dq
  rw [← Int.natCast_mul]
  rcases F.e_bd hq h0 hE with ⟨h, _, _⟩ | h
  · exact (Bd.nat h).le hn
  · have h1 : b ^ e.toNat < 2 ^ 2340 := by
      rcases h with h | h
      · have : e.toNat = 0 := by omega
        rw [this, Nat.pow_zero]; exact Nat.one_lt_two_pow (by decide)
      · rw [h]; exact F.pow_hi F.lh
    rw [Int.natCast_mul]
    exact (hq.de.mul (Bd.nat h1)).le (by omega)
theorem Fm.e_hi {q : Rat} {e : Int} {n d : Nat} (hq : Qz n d q) (h0 : 0 ≤ q) (hE : IsE b p low q e) (hn : n ≤ 8900) : e ≤ 9000 := by
  rcases F.e_bd hq h0 hE with ⟨h, _, _⟩ | h
  · have hd1 : 1 ≤ q.den := q.den_pos
    have h1 : b ^ e.toNat < 2 ^ n := Nat.lt_of_le_of_lt (Nat.le_mul_of_pos_left _ hd1) h
    have h2 : 2 ^ e.toNat ≤ b ^ e.toNat := Nat.pow_le_pow_left F.b2 _
    have h3 : e.toNat < n := (Nat.pow_lt_pow_iff_right (by decide)).mp (Nat.lt_of_le_of_lt h2 h1)
    omega
  · have := F.hi; have := F.lh
    rcases h with h | h <;> omega
end
section
variable {b p : Nat} (h2 : 2 ≤ b)
include h2
theorem mul_lt_u {x y : Rat} (e : Int) : x * pw b e < y * pw b e ↔ x < y := Rat.mul_lt_mul_right (pw_pos h2 e)
theorem mul_eq_u {x y : Rat} (e : Int) : x * pw b e = y * pw b e ↔ x = y := by
  constructor
  · intro h
    have := congrArg (· / pw b e) h
    simp only [Rat.mul_div_cancel (pw_ne h2 e)] at this
    exact this
  · intro h; rw [h]
def loQ (b : Nat) (e : Int) (q : Rat) : Rat := (cQ b e q : Rat) * pw b e
theorem lo_eq (e : Int) (q : Rat) : loQ b e q = q ↔ rQ b e q = 0 := by
  rw [← t_zero h2 e q]
  conv => lhs; rhs; rw [q_val h2 e q]
  unfold loQ
  rw [mul_eq_u h2]
  constructor <;> intro h <;> grind
end
end Lw
set_option exponentiation.threshold 4000
namespace Lw
open PySem PySem.Spec PyProof.Rows L2 Gd Fr
open scoped Rat
section
variable {b p : Nat} {low e : Int} {q : Rat} (h2 : 2 ≤ b) (hp : 2 ≤ p)
include h2
include hp
theorem over_iff {high C E : Int} (hl : low ≤ high) (hC : Can b p low C E) : (((((b ^ p : Nat) : Int) - 1 : Int) : Rat) * pw b high < (C : Rat) * pw b E) ↔ high < E := by
  obtain ⟨a1, a2, a3, a4⟩ := hC
  have e1 : b ^ p = b ^ (p - 1) * b := by rw [← Nat.pow_succ]; congr 1; omega
  constructor
  · intro h
    refine Decidable.byContradiction fun hn => ?_
    have hn : E ≤ high := by omega
    have h1 : (C : Rat) * pw b E ≤ ((((b ^ p : Nat) : Int) - 1 : Int) : Rat) * pw b E := Rat.mul_le_mul_of_nonneg_right (cast_le.mpr (by omega)) (Rat.le_of_lt (pw_pos h2 E))
    have e0 : 0 < b ^ p := Nat.pow_pos (by omega)
    have h3 : (0 : Rat) ≤ ((((b ^ p : Nat) : Int) - 1 : Int) : Rat) := cast_le.mpr (show (0 : Int) ≤ ((b ^ p : Nat) : Int) - 1 by omega)
    have h4 := Rat.mul_le_mul_of_nonneg_left (pw_mono h2 hn) h3
    exact absurd (ltle h (Rat.le_trans h1 h4)) Rat.lt_irrefl
  · intro h
    have z : ((b ^ (p - 1) : Nat) : Int) ≤ C := by rcases a4 with z | z <;> omega
    have h1 : pw b (p + high) ≤ (C : Rat) * pw b E := by
      have h3 := Rat.mul_le_mul_of_nonneg_right (cast_le.mpr z) (Rat.le_of_lt (pw_pos h2 E))
      rw [← pw_p h2] at h3
      exact Rat.le_trans (pw_mono h2 (by omega)) h3
    refine ltle ?_ h1
    rw [pw_p h2, Rat.mul_lt_mul_right (pw_pos h2 high)]
    exact cast_lt.mpr (by omega)
end
end Lw
set_option exponentiation.threshold 20000
namespace Lw
open PySem PySem.Spec PyProof.Rows L2 Gd Fr
open scoped Rat
section
variable {b : Nat} (h2 : 2 ≤ b)
include h2
theorem pw_sub (i j : Nat) : pw b ((j : Int) - i) * ((b ^ i : Nat) : Rat) = ((b ^ j : Nat) : Rat) := by
  rw [← pw_nat, ← pw_add h2, ← pw_nat]; congr 1; omega
theorem lt_pw_iff (q : Rat) (i j : Nat) : q < pw b ((j : Int) - i) ↔ q.num * ((b ^ i : Nat) : Int) < (q.den : Int) * ((b ^ j : Nat) : Int) := by
  have hd : (0 : Rat) < ((q.den : Int) : Rat) := cast_lt.mpr (den_pos q)
  have hi : (0 : Rat) < ((b ^ i : Nat) : Rat) := Rat.natCast_pos.mpr (Nat.pow_pos (by omega))
  rw [← Rat.mul_lt_mul_right hi, ← Rat.mul_lt_mul_right hd, pw_sub h2, ← cast_lt, Rat.intCast_mul, Rat.intCast_mul, ← num_den q, Rat.intCast_natCast, Rat.intCast_natCast, Rat.intCast_natCast]
  constructor <;> intro h <;> grind
end
theorem fq_int (n : Int) : fq (n : Rat) = .tuple [.int n, .int 1] := by unfold fq; rw [Rat.num_intCast, Rat.den_intCast]; rfl
inductive Va where
  | nan
  | inf (s : Int)
  | num (s c e : Int)
def Va.tag : Va → Str
  | .nan => "nan"
  | .inf _ => "inf"
  | .num _ _ _ => "num"
def Va.l : Va → List PyData
  | .nan => [.str "nan"]
  | .inf s => [.str "inf", .int s]
  | .num s c e => [.str "num", .int s, .int c, .int e]
def Va.d (v : Va) : PyData := .tuple v.l
theorem Va.at0 (v : Va) : atI v.l 0 = some (.str v.tag) := by cases v <;> rfl
def Va.isNan : Va → Bool
  | .nan => true
  | _ => false
def Va.isInf : Va → Bool
  | .inf _ => true
  | _ => false
def Va.sg : Va → Int
  | .nan => 0
  | .inf s => s
  | .num s _ _ => s
def Va.opp : Va → Va
  | .nan => .nan
  | .inf s => .inf (1 - s)
  | .num s c e => .num (1 - s) c e
def Va.wQ (b : Nat) : Va → Rat
  | .num s c e => ((if s = 1 then -c else c : Int) : Rat) * pw b e
  | _ => 0
theorem tag_nan (v : Va) : decide (v.tag = "nan") = v.isNan := by
  cases v
  · rfl
  · exact decide_eq_false (show ¬ ("inf" : Str) = "nan" by decide)
  · exact decide_eq_false (show ¬ ("num" : Str) = "nan" by decide)
theorem tag_inf (v : Va) : decide (v.tag = "inf") = v.isInf := by
  cases v
  · exact decide_eq_false (show ¬ ("nan" : Str) = "inf" by decide)
  · rfl
  · exact decide_eq_false (show ¬ ("num" : Str) = "inf" by decide)
def Vok (b p : Nat) (low high : Int) : Va → Prop
  | .nan => True
  | .inf s => s = 0 ∨ s = 1
  | .num s c e => (s = 0 ∨ s = 1) ∧ 0 ≤ c ∧ c < ((b ^ p : Nat) : Int) ∧ low ≤ e ∧ e ≤ high
theorem Vok.opp {b p : Nat} {low high : Int} {v : Va} (h : Vok b p low high v) : Vok b p low high v.opp := by
  cases v with
  | nan => trivial
  | inf s => show (1 - s = 0 ∨ 1 - s = 1); have h : s = 0 ∨ s = 1 := h; omega
  | num s c e => obtain ⟨h1, h3⟩ := h; exact ⟨by omega, h3⟩
theorem Fm.wz {b p : Nat} {low high : Int} (F : Fm b p low high) {v : Va} (h : Vok b p low high v) : Qz 3040 2341 (v.wQ b) := by
  have z : Qz 3040 2341 0 := ⟨by unfold Bd; exact Nat.pow_pos (by decide), (show Bd 1 (((0 : Rat).den : Nat) : Int) by unfold Bd; decide).le (by decide)⟩
  cases v with
  | nan => exact z
  | inf s => exact z
  | num s c e =>
    obtain ⟨h1, h3, h4, h5, h6⟩ := h
    have hc : Qz 700 1 (((if s = 1 then -c else c : Int)) : Rat) := by
      refine ⟨?_, by rw [Rat.den_intCast]; unfold Bd; decide⟩
      rw [Rat.num_intCast]
      have := F.bp
      unfold Bd
      split <;> omega
    exact hc.mul (F.qz h5 h6)
inductive R_worth : Rel
  | mk (b p : Nat) (low high : Int) (s c e : Int) (B : Bag) (F : Fm b p low high) (h : Vok b p low high (.num s c e)) : R_worth [.da (fmP b p low high), .da (Va.d (.num s c e))] B (fq (Va.wQ b (.num s c e))) B
inductive R_val (f : Va → PyData) (ok : Va → Prop) : Rel
  | mk (v : Va) (B : Bag) (h : ok v) : R_val f ok [.da v.d] B (f v) B
end Lw
set_option exponentiation.threshold 20000
namespace Lw
open PySem PySem.Spec PyProof.Rows L2 Gd Fr
open scoped Rat
theorem isE_zero {b p : Nat} (h2 : 2 ≤ b) (low : Int) : IsE b p low 0 low := ⟨Int.le_refl _, pw_pos h2 _, .inl rfl⟩
theorem cQ_zero (b : Nat) (e : Int) : cQ b e 0 = 0 ∧ rQ b e 0 = 0 := by
  unfold cQ rQ Nq
  rw [show ((0 : Rat).num) = 0 from rfl, Int.zero_mul, Int.zero_ediv, Int.zero_emod]
  exact ⟨rfl, rfl⟩
theorem absQ_zero {x : Rat} : absQ x = 0 ↔ x = 0 := by unfold absQ; split <;> grind
theorem cut2 (ds : List PyData) (n : Nat) : cutP ds (some (n : Int)) none = ds.drop n := by
  unfold cutP
  rw [HT.sIx_none, HT.sIx_nat]
  by_cases h : n ≤ ds.length
  · rw [Nat.min_eq_left h, List.take_of_length_le (by rw [List.length_drop]; omega)]
  · rw [Nat.min_eq_right (by omega), List.drop_length, List.take_nil, List.drop_of_length_le (by omega)]
theorem at1 {v : Va} (h : v.isNan = false) : atI v.l 1 = some (.int v.sg) := by cases v <;> first | rfl | cases h
end Lw
namespace Lw
open PySem PySem.Spec PyProof.Rows L2 Gd Fr
end Lw
namespace Lw
open PySem PySem.Spec PyProof.Rows L2 Gd Fr
end Lw
namespace Lw
open PySem PySem.Spec PyProof.Rows L2 Gd Fr
theorem nice_word {x : Str} (h : (x.cps.all fun c => c < 0x110000) = true) : nice (.str x) = true := by
  simp only [nice]; exact h
theorem sg_01 {b p : Nat} {low high : Int} {v : Va} (h : v.isNan = false) (hv : Vok b p low high v) : v.sg = 0 ∨ v.sg = 1 := by
  cases v with
  | nan => cases h
  | inf s => exact hv
  | num s c e => exact hv.1
end Lw
set_option exponentiation.threshold 20000
namespace Lw
open PySem PySem.Spec PyProof.Rows L2 Gd Fr
open scoped Rat
theorem shaped_fq (x : Rat) : SeqAt.shaped (fq x) = true := shaped_ii _ _
theorem eqv_fq (x y : Rat) : PyData.eqv (fq x) (fq y) = decide (x = y) := by
  unfold fq
  rw [eqv_ii]
  by_cases h : x = y
  · subst h; simp
  · rw [decide_eq_false h, Bool.and_eq_false_iff]
    by_cases h1 : x.num = y.num
    · refine .inr (decide_eq_false fun h3 => h ?_)
      exact Rat.ext h1 (by omega)
    · exact .inl (decide_eq_false h1)
def pickI (ns : List Int) (B : Bag) : Int := ns.getD (tkV B ns.length).toNat 0
theorem pick_int (ns : List Int) (B : Bag) (h : 0 < ns.length) : pick (ns.map .int) B = .int (pickI ns B) := by
  have h0 := tkV_ge B (m := ns.length) (by omega)
  have h1 := tkV_lt B (m := ns.length) (by omega)
  have hlt : (tkV B ns.length).toNat < ns.length := by omega
  unfold pick pickI
  rw [List.length_map, List.getD_eq_getElem?_getD, List.getD_eq_getElem?_getD, List.getElem?_map, List.getElem?_eq_getElem hlt]; rfl
theorem pickI_mem (ns : List Int) (B : Bag) (h : 0 < ns.length) : pickI ns B ∈ ns := by
  have h0 := tkV_ge B (m := ns.length) (by omega)
  have h1 := tkV_lt B (m := ns.length) (by omega)
  have hlt : (tkV B ns.length).toNat < ns.length := by omega
  unfold pickI
  rw [List.getD_eq_getElem?_getD, List.getElem?_eq_getElem hlt]
  exact List.getElem_mem hlt
theorem some_int {X : Cx} {Γ : List VD} {B B1 : Bag} {a b : Expr} {p pos : Pos} {k : Nat} (ns : List Int) (G : Gx k X) (h2 : 5 ≤ k) (c : Cal X.prog X.w X.K X.mg X.base "_law_some" 5 R_some)
    (ha : AJ X Γ B [a, b] [.bag, .da (.list (ns.map .int))] B1) (h : 0 < ns.length) (hl : ns.length ≤ 1000) (hc : Bok B1) (hg : Gl X "_law_some" := by rfl)
    (he : starEach [a, b] X.env = (false, eval a X.env) :: starEach [b] X.env := by rfl) (hpl : (backTo pos (starEach [b] X.env)).any (·.1) = false := by rfl) :
    EJ X Γ B (.Call (.Name "_law_some" p) [a, b] [] pos) (.da (.int (pickI ns B1))) (tkB B1 ns.length) := by
  have r := R_some.mk B1 (ns.map .int) (by rw [List.length_map]; exact h) (by rw [List.length_map]; exact hl) hc
  rw [pick_int ns B1 h, List.length_map] at r
  exact ej_call c (G.le h2) ha r hg (by decide) he hpl
def pickV (vs : List Va) (B : Bag) : Va := vs.getD (tkV B vs.length).toNat .nan
theorem pick_va (vs : List Va) (B : Bag) (h : 0 < vs.length) : pick (vs.map Va.d) B = (pickV vs B).d := by
  have h0 := tkV_ge B (m := vs.length) (by omega)
  have h1 := tkV_lt B (m := vs.length) (by omega)
  have hlt : (tkV B vs.length).toNat < vs.length := by omega
  unfold pick pickV
  rw [List.length_map, List.getD_eq_getElem?_getD, List.getD_eq_getElem?_getD, List.getElem?_map, List.getElem?_eq_getElem hlt]; rfl
theorem pickV_mem (vs : List Va) (B : Bag) (h : 0 < vs.length) : pickV vs B ∈ vs := by
  have h0 := tkV_ge B (m := vs.length) (by omega)
  have h1 := tkV_lt B (m := vs.length) (by omega)
  have hlt : (tkV B vs.length).toNat < vs.length := by omega
  unfold pickV
  rw [List.getD_eq_getElem?_getD, List.getElem?_eq_getElem hlt]
  exact List.getElem_mem hlt
abbrev F4 := Nat × Nat × Int × Int
def F4.d (t : F4) : PyData := fmP t.1 t.2.1 t.2.2.1 t.2.2.2
def F4.ok (t : F4) : Prop := Fm t.1 t.2.1 t.2.2.1 t.2.2.2
def fmB (t : F4) : Bool :=
  decide (2 ≤ t.1) && decide (t.1 < 2 ^ 6) && decide (2 ≤ t.2.1) && decide (t.2.1 ≤ 120) && decide (-1200 ≤ t.2.2.1) && decide (t.2.2.1 ≤ t.2.2.2) && decide (t.2.2.2 ≤ 1200) &&
    decide (t.1 ^ t.2.1 < 2 ^ 700) && decide (t.1 ^ (-t.2.2.1).toNat < 2 ^ 2340) && decide (t.1 ^ t.2.2.2.toNat < 2 ^ 2340)
theorem fm_of {t : F4} (h : fmB t = true) : t.ok := by
  unfold fmB at h
  simp only [Bool.and_eq_true, decide_eq_true_eq] at h
  obtain ⟨⟨⟨⟨⟨⟨⟨⟨⟨a1, a2⟩, a3⟩, a4⟩, a5⟩, a6⟩, a7⟩, a8⟩, a9⟩, a10⟩ := h
  exact ⟨a1, a2, a3, a4, a5, a6, a7, a8, a9, a10⟩
def pickF (ts : List F4) (B : Bag) : F4 := ts.getD (tkV B ts.length).toNat (2, 2, 0, 0)
theorem pick_fm (ts : List F4) (B : Bag) (h : 0 < ts.length) : pick (ts.map F4.d) B = (pickF ts B).d := by
  have h0 := tkV_ge B (m := ts.length) (by omega)
  have h1 := tkV_lt B (m := ts.length) (by omega)
  have hlt : (tkV B ts.length).toNat < ts.length := by omega
  unfold pick pickF
  rw [List.length_map, List.getD_eq_getElem?_getD, List.getD_eq_getElem?_getD, List.getElem?_map, List.getElem?_eq_getElem hlt]; rfl
theorem pickF_ok (ts : List F4) (B : Bag) (h : 0 < ts.length) (hok : ts.all fmB = true) : (pickF ts B).ok := by
  have h0 := tkV_ge B (m := ts.length) (by omega)
  have h1 := tkV_lt B (m := ts.length) (by omega)
  have hlt : (tkV B ts.length).toNat < ts.length := by omega
  unfold pickF
  rw [List.getD_eq_getElem?_getD, List.getElem?_eq_getElem hlt]
  exact fm_of (List.all_eq_true.mp hok _ (List.getElem_mem hlt))
def smallF : List F4 := [(2, 2, 0, 0), (2, 2, -3, 2), (2, 3, -4, 3), (4, 2, -2, 1), (10, 2, -2, 1), (6, 2, -1, 2), (2, 4, -2, 2)] ++ [(4, 2, 1, 3), (2, 3, 2, 5), (10, 2, -6, -5)]
def worldF : List F4 := ([(2, 24, -149, 104), (2, 11, -24, 5), (10, 7, -101, 90), (36, 3, -5, 4), (16, 6, -70, 57), (10, 34, -60, 40)] ++ [(2, 8, -133, 120), (20, 2, 0, 3), (10, 16, -98, 69), (2, 53, -120, 60), (10, 20, 5, 60)]) ++ [(2, 30, -90, -40), (14, 5, -9, 9), (22, 4, 1, 8)]
def farF : List F4 := [(2, 53, -1074, 971), (10, 16, -398, 369), (36, 120, -200, 200), (2, 120, -1200, 1080), (10, 100, -700, 700)] ++ [(2, 24, -1200, 1200), (2, 40, -300, 300), (10, 16, -300, 300)]
theorem small_ok : smallF.all fmB = true := by decide +kernel
theorem world_ok : worldF.all fmB = true := by decide +kernel
theorem far_ok : farF.all fmB = true := by decide +kernel
inductive R_fmt (f : Bag → F4) (g : Bag → Bag) : Rel
  | mk (B : Bag) (hc : Bok B) : R_fmt f g [.bag] B (f B).d (g B)
def wideV (B : Bag) : F4 := if 0 < tkV B 4 then pickF worldF (tkB B 4) else pickF farF (tkB B 4)
def wideB (B : Bag) : Bag := if 0 < tkV B 4 then tkB (tkB B 4) 14 else tkB (tkB B 4) 8
def smallV (B : Bag) : F4 := pickF smallF B
def smallB (B : Bag) : Bag := tkB B 10
def afV (B : Bag) : F4 := if 0 < tkV B 3 then smallV (tkB B 3) else wideV (tkB B 3)
def afB (B : Bag) : Bag := if 0 < tkV B 3 then smallB (tkB B 3) else wideB (tkB B 3)
theorem wideV_ok (B : Bag) : (wideV B).ok := by
  unfold wideV; split
  · exact pickF_ok _ _ (by decide) world_ok
  · exact pickF_ok _ _ (by decide) far_ok
theorem smallV_ok (B : Bag) : (smallV B).ok := pickF_ok _ _ (by decide) small_ok
theorem afV_ok (B : Bag) : (afV B).ok := by
  unfold afV; split
  · exact smallV_ok _
  · exact wideV_ok _
theorem wideB_ok {B : Bag} (h : Bok B) : Bok (wideB B) := by unfold wideB; split <;> exact tkB_ok (tkB_ok h _) _
theorem smallB_ok {B : Bag} (h : Bok B) : Bok (smallB B) := tkB_ok h _
theorem afB_ok {B : Bag} (h : Bok B) : Bok (afB B) := by
  unfold afB; split
  · exact smallB_ok (tkB_ok h _)
  · exact wideB_ok (tkB_ok h _)
def edgesV (b p : Nat) (low high : Int) : List Va :=
  [.num 0 0 low, .num 0 1 low, .num 0 ((b ^ (p - 1) : Nat) - 1) low, .num 0 (b ^ (p - 1) : Nat) low, .num 0 ((b ^ (p - 1) : Nat) + 1) low, .num 0 ((b ^ p : Nat) - 1) low, .num 0 (b ^ (p - 1) : Nat) high, .num 0 ((b ^ p : Nat) - 1) high,
    .num 0 ((b ^ p : Nat) - 1 - 1) high, .num 0 ((b ^ (p - 1) : Nat) + (b ^ (p - 1) : Nat) / 2) high]
structure Pows (b p : Nat) : Prop where
  l2 : 2 ≤ b ^ (p - 1)
  eq : b ^ p = b ^ (p - 1) * b
  ge : b ^ (p - 1) * 2 ≤ b ^ p
theorem Fm.pows {b p : Nat} {low high : Int} (F : Fm b p low high) : Pows b p := by
  have h2 := F.b2; have hp := F.p2
  have e1 : b ^ p = b ^ (p - 1) * b := by rw [← Nat.pow_succ]; congr 1; omega
  refine ⟨?_, e1, by rw [e1]; exact Nat.mul_le_mul_left _ h2⟩
  have h1 : b ^ 1 ≤ b ^ (p - 1) := Nat.pow_le_pow_right (by omega) (by omega)
  rw [Nat.pow_one] at h1; omega
theorem edges_ok {b p : Nat} {low high : Int} (F : Fm b p low high) : ∀ v ∈ edgesV b p low high, ∃ c e, v = .num 0 c e ∧ Vok b p low high (.num 0 c e) := by
  have P := F.pows; have l2 := P.l2; have ge := P.ge; have lh := F.lh
  intro v hv
  unfold edgesV at hv
  simp only [List.mem_cons, List.not_mem_nil, or_false] at hv
  rcases hv with rfl | rfl | rfl | rfl | rfl | rfl | rfl | rfl | rfl | rfl <;> exact ⟨_, _, rfl, .inl rfl, by omega, by omega, by omega, by omega⟩
inductive R_edges : Rel
  | mk (b p : Nat) (low high : Int) (B : Bag) (F : Fm b p low high) : R_edges [.da (fmP b p low high)] B (.list ((edgesV b p low high).map Va.d)) B
def Va.c : Va → Int
  | .num _ c _ => c
  | _ => 0
def Va.e : Va → Int
  | .num _ _ e => e
  | _ => 0
section
variable (b p : Nat) (low high : Int)
def lead : Int := (b ^ (p - 1) : Nat)
def full : Int := (b ^ p : Nat)
def numE (B : Bag) : Int := pickI [low, high, low + tkV B (high - low + 1), min high (max low (-((p : Int) / 2)))] (tkB B (high - low + 1))
def numEB (B : Bag) : Bag := tkB (tkB B (high - low + 1)) 4
def numC (w : Int) (B : Bag) : Int := if w = 2 then pickI [lead b p, lead b p * (b - 1), lead b p + 1, full b p - 1] (tkB B (full b p - lead b p)) else lead b p + tkV B (full b p - lead b p)
def numCB (w : Int) (B : Bag) : Bag := if w = 2 then tkB (tkB B (full b p - lead b p)) 4 else tkB B (full b p - lead b p)
def numC2 (w e c : Int) (B : Bag) : Int := if e = low ∧ w = 3 then tkV B (lead b p) else c
def numC2B (w e : Int) (B : Bag) : Bag := if e = low ∧ w = 3 then tkB B (lead b p) else B
def numB2 (B : Bag) : Bag := tkB (tkB B 6) 2
def numV (B : Bag) : Va :=
  if tkV B 6 < 2 then .num (tkV (tkB B 6) 2) (pickV (edgesV b p low high) (numB2 B)).c (pickV (edgesV b p low high) (numB2 B)).e
  else .num (tkV (tkB B 6) 2) (numC2 b p low (tkV B 6) (numE p low high (numB2 B)) (numC b p (tkV B 6) (numEB low high (numB2 B))) (numCB b p (tkV B 6) (numEB low high (numB2 B)))) (numE p low high (numB2 B))
def numB (B : Bag) : Bag :=
  if tkV B 6 < 2 then tkB (numB2 B) 10 else numC2B b p low (tkV B 6) (numE p low high (numB2 B)) (numCB b p (tkV B 6) (numEB low high (numB2 B)))
def vaV (B : Bag) : Va := if tkV B 12 = 0 then .nan else if tkV B 12 = 1 then .inf (tkV (tkB B 12) 2) else numV b p low high (tkB B 12)
def vaB (B : Bag) : Bag := if tkV B 12 = 0 then tkB B 12 else if tkV B 12 = 1 then tkB (tkB B 12) 2 else numB b p low high (tkB B 12)
end
theorem tkV_2 (B : Bag) : tkV B 2 = 0 ∨ tkV B 2 = 1 := by
  have h0 := tkV_ge B (m := 2) (by decide)
  have h1 := tkV_lt B (m := 2) (by decide)
  omega
section
variable {b p : Nat} {low high : Int} (F : Fm b p low high)
include F
theorem numE_ok (B : Bag) : low ≤ numE p low high B ∧ numE p low high B ≤ high := by
  have lh := F.lh
  have h := pickI_mem [low, high, low + tkV B (high - low + 1), min high (max low (-((p : Int) / 2)))] (tkB B (high - low + 1)) (by show 0 < 4; decide)
  have h0 := tkV_ge B (m := high - low + 1) (by omega)
  have h1 := tkV_lt B (m := high - low + 1) (by omega)
  unfold numE
  generalize pickI [low, high, low + tkV B (high - low + 1), min high (max low (-((p : Int) / 2)))] (tkB B (high - low + 1)) = z at *
  simp only [List.mem_cons, List.not_mem_nil, or_false] at h
  rcases h with rfl | rfl | rfl | rfl <;> omega
theorem lf : 2 ≤ lead b p ∧ lead b p * 2 ≤ full b p ∧ lead b p * (b - 1) = full b p - lead b p := by
  have P := F.pows; have l2 := P.l2; have ge := P.ge
  unfold lead full
  refine ⟨by omega, by omega, ?_⟩
  rw [P.eq, Int.mul_sub, Int.mul_one, Int.natCast_mul]
theorem numC_ok (w : Int) (B : Bag) : 0 ≤ numC b p w B ∧ numC b p w B < full b p := by
  obtain ⟨l2, ge, e1⟩ := lf F
  unfold numC
  split
  · have h := pickI_mem [lead b p, lead b p * (b - 1), lead b p + 1, full b p - 1] (tkB B (full b p - lead b p)) (by show 0 < 4; decide)
    generalize pickI [lead b p, lead b p * (b - 1), lead b p + 1, full b p - 1] (tkB B (full b p - lead b p)) = z at *
    rw [e1] at h
    simp only [List.mem_cons, List.not_mem_nil, or_false] at h
    rcases h with rfl | rfl | rfl | rfl <;> omega
  · have h0 := tkV_ge B (m := full b p - lead b p) (by omega)
    have h1 := tkV_lt B (m := full b p - lead b p) (by omega)
    omega
theorem numC2_ok (w e c : Int) (B : Bag) (h : 0 ≤ c ∧ c < full b p) : 0 ≤ numC2 b p low w e c B ∧ numC2 b p low w e c B < full b p := by
  obtain ⟨l2, ge, e1⟩ := lf F
  unfold numC2
  split
  · have h0 := tkV_ge B (m := lead b p) (by omega)
    have h1 := tkV_lt B (m := lead b p) (by omega)
    omega
  · exact h
theorem numV_ok (B : Bag) : Vok b p low high (numV b p low high B) := by
  unfold numV
  split
  · obtain ⟨c, e, h1, h3, h4⟩ := edges_ok F _ (pickV_mem (edgesV b p low high) (numB2 B) (by show 0 < 10; decide))
    rw [h1]
    exact ⟨tkV_2 _, h4⟩
  · have h1 := numC2_ok F (tkV B 6) (numE p low high (numB2 B)) (numC b p (tkV B 6) (numEB low high (numB2 B))) (numCB b p (tkV B 6) (numEB low high (numB2 B))) (numC_ok F _ _)
    exact ⟨tkV_2 _, h1.1, h1.2, numE_ok F _⟩
end
theorem numC2B_ok {b p : Nat} {low w e : Int} {B : Bag} (h : Bok B) : Bok (numC2B b p low w e B) := by
  unfold numC2B; split
  · exact tkB_ok h _
  · exact h
theorem numCB_ok {b p : Nat} {w : Int} {B : Bag} (h : Bok B) : Bok (numCB b p w B) := by
  unfold numCB; split
  · exact tkB_ok (tkB_ok h _) _
  · exact tkB_ok h _
theorem numB2_ok {B : Bag} (h : Bok B) : Bok (numB2 B) := tkB_ok (tkB_ok h _) _
theorem numEB_ok {low high : Int} {B : Bag} (h : Bok B) : Bok (numEB low high B) := tkB_ok (tkB_ok h _) _
theorem numB_ok {b p : Nat} {low high : Int} {B : Bag} (h : Bok B) : Bok (numB b p low high B) := by
  unfold numB; split
  · exact tkB_ok (numB2_ok h) _
  · exact numC2B_ok (numCB_ok (numEB_ok (numB2_ok h)))
theorem vaB_ok {b p : Nat} {low high : Int} {B : Bag} (h : Bok B) : Bok (vaB b p low high B) := by
  unfold vaB; split
  · exact tkB_ok h _
  · split
    · exact tkB_ok (tkB_ok h _) _
    · exact numB_ok (tkB_ok h _)
inductive R_draw (f : Nat → Nat → Int → Int → Bag → Va) (g : Nat → Nat → Int → Int → Bag → Bag) : Rel
  | mk (b p : Nat) (low high : Int) (B : Bag) (F : Fm b p low high) (hc : Bok B) : R_draw f g [.bag, .da (fmP b p low high)] B (f b p low high B).d (g b p low high B)
end Lw
set_option exponentiation.threshold 20000
namespace Lw
open PySem PySem.Spec PyProof.Rows L2 Gd Fr
open scoped Rat
inductive R_grid : Rel
  | mk (b p : Nat) (low high : Int) (q : Rat) (n d : Nat) (B : Bag) (F : Fm b p low high) (h0 : 0 ≤ q) (hq : Qz n d q) (hn : n ≤ 8900) (hd : d ≤ 6500) :
      R_grid [.da (fmP b p low high), .da (fq q)] B (.tuple [.int (cQ b (eQ b p low q) q), .int (eQ b p low q)]) B
end Lw
namespace Lw
open PySem PySem.Spec PyProof.Rows L2 Gd Fr
open scoped Rat
noncomputable def grQ (b p : Nat) (high : Int) : Rat := ((((b ^ p : Nat) : Int) - 1 : Int) : Rat) * pw b high
inductive R_great : Rel
  | mk (b p : Nat) (low high : Int) (B : Bag) (F : Fm b p low high) : R_great [.da (fmP b p low high)] B (fq (grQ b p high)) B
theorem can_qz {b p : Nat} {low high C E : Int} (F : Fm b p low high) (h : Can b p low C E) (hE : E ≤ high) : Qz 3040 2341 ((C : Rat) * pw b E) ∧ 0 ≤ (C : Rat) * pw b E := by
  obtain ⟨a1, a2, a3, _⟩ := h
  have := F.bp
  have hc : Qz 700 1 (C : Rat) := ⟨by rw [Rat.num_intCast]; unfold Bd; omega, by rw [Rat.den_intCast]; unfold Bd; decide⟩
  refine ⟨hc.mul (F.qz a3 hE), ?_⟩
  have h1 : (0 : Rat) ≤ (C : Rat) := cast_le.mpr a1
  have := Rat.mul_le_mul_of_nonneg_right h1 (Rat.le_of_lt (pw_pos F.b2 E))
  rw [Rat.zero_mul] at this; exact this
theorem great_can {b p : Nat} {low high : Int} (F : Fm b p low high) : Can b p low (((b ^ p : Nat) : Int) - 1) high := by
  have P := F.pows; have l2 := P.l2; have ge := P.ge; have lh := F.lh
  exact ⟨by omega, by omega, lh, .inr (by omega)⟩
end Lw
namespace Lw
open PySem PySem.Spec PyProof.Rows L2 Gd Fr
open scoped Rat
end Lw
namespace Lw
open PySem PySem.Spec PyProof.Rows L2 Gd Fr
open scoped Rat
section
variable {b p : Nat} {low high : Int} (F : Fm b p low high)
include F
end
end Lw
set_option exponentiation.threshold 20000
namespace Lw
open PySem PySem.Spec PyProof.Rows L2 Gd Fr
open scoped Rat
structure Nd (D W : Nat) (d : PyData) : Prop where
  ni : nice d = true
  dp : d.depth ≤ D
  bk : d.bulk ≤ W
structure NdA (D W : Nat) (ds : List PyData) : Prop where
  ni : niceAll ds = true
  dp : PyData.depthAll ds ≤ D
  bk : PyData.bulkAll ds ≤ W
theorem NdA.nil {D W : Nat} : NdA D W [] := ⟨niceAll_nil, by simp only [PyData.depthAll]; omega, by simp only [PyData.bulkAll]; omega⟩
theorem NdA.cons {D W W' : Nat} {d : PyData} {ds : List PyData} (h : Nd D W d) (r : NdA D W' ds) : NdA D (W + 1 + W') (d :: ds) :=
  ⟨niceAll_cons h.ni r.ni, by have := h.dp; have := r.dp; simp only [PyData.depthAll]; omega, by have := h.bk; have := r.bk; simp only [PyData.bulkAll]; omega⟩
theorem NdA.le {D W D' W' : Nat} {ds : List PyData} (h : NdA D W ds) (e : D ≤ D') (f : W ≤ W') : NdA D' W' ds := ⟨h.ni, Nat.le_trans h.dp e, Nat.le_trans h.bk f⟩
theorem Nd.le {D W D' W' : Nat} {d : PyData} (h : Nd D W d) (e : D ≤ D') (f : W ≤ W') : Nd D' W' d := ⟨h.ni, Nat.le_trans h.dp e, Nat.le_trans h.bk f⟩
theorem Nd.list {D W : Nat} {ds : List PyData} (h : NdA D W ds) : Nd (D + 1) W (.list ds) := ⟨nice_list h.ni, by have := h.dp; simp only [PyData.depth]; omega, by have := h.bk; simp only [PyData.bulk]; omega⟩
theorem Nd.tuple {D W : Nat} {ds : List PyData} (h : NdA D W ds) : Nd (D + 1) W (.tuple ds) := ⟨nice_tuple h.ni, by have := h.dp; simp only [PyData.depth]; omega, by have := h.bk; simp only [PyData.bulk]; omega⟩
theorem Nd.int {n : Nat} {i : Int} (h : Bd n i) (e : n ≤ 1920 := by decide) : Nd 1 0 (.int i) := ⟨nice_int h e, by simp only [PyData.depth]; omega, by simp only [PyData.bulk]; omega⟩
theorem Nd.str {x : Str} (h : (x.cps.all fun c => c < 0x110000) = true) (h2 : x.cps.size ≤ 20) : Nd 1 20 (.str x) := ⟨nice_word h, by simp only [PyData.depth]; omega, by simp only [PyData.bulk]; exact h2⟩
theorem Nd.bool {x : Bool} : Nd 1 0 (.bool x) := ⟨by simp only [nice], by simp only [PyData.depth]; omega, by simp only [PyData.bulk]; omega⟩
theorem Nd.none : Nd 1 0 .none := ⟨by simp only [nice], by simp only [PyData.depth]; omega, by simp only [PyData.bulk]; omega⟩
theorem Nd.okd {D W : Nat} {d : PyData} (h : Nd D W d) (e : D ≤ 60 := by decide) (f : W ≤ 5000 := by decide) : Okd d := ⟨h.ni, Nat.le_trans h.dp e, Nat.le_trans h.bk f⟩
section
variable {b p : Nat} {low high : Int} (F : Fm b p low high)
include F
theorem nm_nd {s c e : Int} (hs : s = 0 ∨ s = 1) (h0 : 0 ≤ c) (h1 : c < ((b ^ p : Nat) : Int)) (h3 : low ≤ e) (h4 : e ≤ high) : Nd 2 40 (nm s c e) := by
  have lo := F.lo; have hi := F.hi; have bp := F.bp
  exact (Nd.tuple (NdA.cons (Nd.str (by decide +kernel) (by decide +kernel)) (NdA.cons (Nd.int (n := 2) (by unfold Bd; omega)) (NdA.cons (Nd.int (n := 700) (by unfold Bd; omega)) (NdA.cons (Nd.int (n := 12) (by unfold Bd; omega)) (NdA.nil (W := 0))))))).le (Nat.le_refl _) (by decide)
theorem va_nd {v : Va} (h : Vok b p low high v) : Nd 2 40 v.d := by
  cases v with
  | nan => exact (Nd.tuple (NdA.cons (Nd.str (by decide +kernel) (by decide +kernel)) (NdA.nil (W := 0)))).le (Nat.le_refl _) (by decide)
  | inf s =>
    have h : s = 0 ∨ s = 1 := h
    exact (Nd.tuple (NdA.cons (Nd.str (by decide +kernel) (by decide +kernel)) (NdA.cons (Nd.int (n := 2) (by unfold Bd; omega)) (NdA.nil (W := 0))))).le (Nat.le_refl _) (by decide)
  | num s c e => obtain ⟨h1, h3, h4, h5, h6⟩ := h; exact nm_nd F h1 h3 h4 h5 h6
end
def Va.isNum : Va → Bool
  | .num _ _ _ => true
  | _ => false
theorem tag_num (v : Va) : decide (v.tag = "num") = v.isNum := by
  cases v
  · exact decide_eq_false (show ¬ ("nan" : Str) = "num" by decide)
  · exact decide_eq_false (show ¬ ("inf" : Str) = "num" by decide)
  · rfl
section
variable (b p : Nat) (low high : Int)
end
end Lw
set_option exponentiation.threshold 20000
namespace Lw
open PySem PySem.Spec PyProof.Rows L2 Gd Fr
open scoped Rat
def Va.isZ : Va → Bool
  | .num _ c _ => decide (c = 0)
  | _ => false
section
variable {b p : Nat} {low high : Int} (F : Fm b p low high)
include F
end
section
variable (b p : Nat) (low high : Int)
end
section
variable {b p : Nat} {low high : Int} (F : Fm b p low high)
include F
end
end Lw
namespace Lw
open PySem PySem.Spec PyProof.Rows L2 Gd Fr
end Lw
set_option exponentiation.threshold 20000
namespace Lw
open PySem PySem.Spec PyProof.Rows L2 Gd Fr
open scoped Rat
theorem den_le {q : Rat} {m : Int} {N : Nat} (hN : 0 < N) (h : q * (N : Rat) = (m : Rat)) : q.den ≤ N := by
  have hne : ((N : Int) : Rat) ≠ 0 := fun z => by
    have e0 : (N : Int) = 0 := Rat.intCast_inj.mp (z.trans (by rfl))
    omega
  have e : q = m /. (N : Int) := by
    rw [Rat.divInt_eq_div, ← h, ← Rat.intCast_natCast]
    exact (Rat.mul_div_cancel hne).symm
  rw [e, Rat.den_divInt, if_neg (by omega), Int.natAbs_natCast]
  exact Nat.div_le_self _ _
section
variable (b p : Nat) (low high : Int)
end
end Lw
namespace Gd
open PySem PySem.Spec PyProof.Rows L2
section
variable {X : Cx} {i : Nat} {Γ : List VD} {B B1 B2 B' : Bag} {acc ds : List PyData} {e a b c : Expr} {es : List Expr} {d da db : VD} {y : PyData} {pos p p1 p2 p3 pos' : Pos} {rest ss s1 s2 : List Stmt} {E : EnO} {Es : En}
theorem Own.set {K : PySem.W.Frag} {g : Gh} {A0 A1 : Hp} {a : Addr} {σ : L2.St} {H0 H : Hp} (w : Own K i g A0 A1 a B Γ acc σ H0 H) (j : Nat) (hij : j ≠ i) {v : V} (r : Rv K g H0 v d) : Own K i g A0 A1 a B (Γ.set j d) acc (σ.set j (some v)) H0 H :=
  ⟨w.to, w.fr, w.off, w.ev.set j r, by rw [List.getElem?_set_ne hij]; exact w.at', w.no, w.ls, w.on⟩
theorem ow_forL (j : Nat) {x : Str} {px : Pos} (nd : X.N.Nodup) (hc : X.calm = true) (hij : j ≠ i) (P : Nat → List VD → Bag → List PyData → Prop) (hi : EJ X Γ B e (.da (.list ds)) B1) (h0 : P 0 Γ B1 acc)
    (hs : ∀ k y Γ' B' acc', ds[k]? = some y → P k Γ' B' acc' → OwJ X i (Γ'.set j (.da y)) B' acc' s1 { nx := P (k + 1), fx := fun _ _ => False, ct := P (k + 1), rt := E.rt })
    (hd : ∀ Γ' B' acc', P ds.length Γ' B' acc' → OwJ X i Γ' B' acc' rest E) (hN : X.N[j]? = some x := by rfl) (hx : Loc X.env.scope x := by first | exact Or.inl rfl | exact Or.inr rfl)
    (hf : X.fn x = true ∨ X.env.scope.names.lookup x = some .local := by first | exact Or.inl rfl | exact Or.inr rfl)
    (hp : PassesOwn (model X.prog X.w) X.A X.env X.xe := by exact PassesOwn.never) (hq : ∀ x, foldedSetIterable e X.env x = pure x := by intro _; rfl) :
    OwJ X i Γ B acc (.For (.Name x px) e s1 [] pos :: rest) E := fun g σ A0 A1 a H0 H w D G =>
  ⟨_, pss_cons (ps_for hp hc (pi_list (we e)) (pg_name nd hN hx hf) (ws s1) hq) (ws rest), hi g σ H0 H w.ev w.on _ fun v H1 H' t o r => by
    obtain ⟨q, xs, rfl, hxs, rs⟩ := rvL r
    have w1 := w.step t o
    refine ⟨q, rfl, ⟨xs, SqL.of (o.ex _ _ hxs)⟩, ?_⟩
    refine for_list (xs := xs) (fun k σ' H'' => ∃ Γ' B' acc' H2, P k Γ' B' acc' ∧ Same H1 H2 ∧ Own X.K i g A0 A1 a B' Γ' acc' σ' H2 H'') ⟨Γ, B1, acc, H1, h0, Same.refl _, w1⟩ ?_ ?_ ?_
    · rintro k σ' H'' _ ⟨Γ', B', acc', H2, _, sm, w2⟩
      exact SqL.of (w2.on.ex _ _ (sm _ _ hxs))
    · rintro k y σ' H'' hy ⟨Γ', B', acc', H2, hP, sm, w2⟩
      obtain ⟨d, hdi, rd⟩ := rs.get hy
      exact hs k d Γ' B' acc' hdi hP g _ A0 A1 a H2 H'' (w2.set j hij (Rp.mono sm rd)) _ ⟨fun Γ3 B3 acc3 σ3 H3 H3' q w3 m => ⟨Γ3, B3, acc3, H3, q, sm.trans m, w3⟩, fun _ _ _ _ _ q => q.elim, fun r B3 v H3 H3' q t3 o3 rv => G.rt r B3 v H3 H3' q t3 o3 rv,
        fun _ _ _ _ _ _ q => q.elim, fun Γ3 B3 acc3 σ3 H3 H3' q w3 m => ⟨Γ3, B3, acc3, H3, q, sm.trans m, w3⟩, fun _ _ _ _ _ _ q => q.elim⟩
    · rintro σ' H'' ⟨Γ', B', acc', H2, hP, sm, w2⟩
      rw [rs.length] at hP
      exact hd Γ' B' acc' hP g σ' A0 A1 a H2 H'' w2 D (G.on (t.ex.trans sm))⟩
theorem ow_forT (j : Nat) {x : Str} {px : Pos} (nd : X.N.Nodup) (hc : X.calm = true) (hij : j ≠ i) (P : Nat → List VD → Bag → List PyData → Prop) (hi : EJ X Γ B e (.da (.tuple ds)) B1) (h0 : P 0 Γ B1 acc)
    (hs : ∀ k y Γ' B' acc', ds[k]? = some y → P k Γ' B' acc' → OwJ X i (Γ'.set j (.da y)) B' acc' s1 { nx := P (k + 1), fx := fun _ _ => False, ct := P (k + 1), rt := E.rt })
    (hd : ∀ Γ' B' acc', P ds.length Γ' B' acc' → OwJ X i Γ' B' acc' rest E) (hN : X.N[j]? = some x := by rfl) (hx : Loc X.env.scope x := by first | exact Or.inl rfl | exact Or.inr rfl)
    (hf : X.fn x = true ∨ X.env.scope.names.lookup x = some .local := by first | exact Or.inl rfl | exact Or.inr rfl)
    (hp : PassesOwn (model X.prog X.w) X.A X.env X.xe := by exact PassesOwn.never) (hq : ∀ x, foldedSetIterable e X.env x = pure x := by intro _; rfl) :
    OwJ X i Γ B acc (.For (.Name x px) e s1 [] pos :: rest) E := fun g σ A0 A1 a H0 H w D G =>
  ⟨_, pss_cons (ps_for hp hc (pi_tup (we e)) (pg_name nd hN hx hf) (ws s1) hq) (ws rest), hi g σ H0 H w.ev w.on _ fun v H1 H' t o r => by
    obtain ⟨q, xs, rfl, hxs, rs⟩ := rvT r
    have w1 := w.step t o
    refine ⟨q, rfl, ⟨xs, seqT o.ex hxs⟩, ?_⟩
    refine for_tup (xs := xs) (fun k σ' H'' => ∃ Γ' B' acc' H2, P k Γ' B' acc' ∧ Same H1 H2 ∧ Own X.K i g A0 A1 a B' Γ' acc' σ' H2 H'') ⟨Γ, B1, acc, H1, h0, Same.refl _, w1⟩ ?_ ?_ ?_
    · rintro k σ' H'' _ ⟨Γ', B', acc', H2, _, sm, w2⟩
      exact seqT w2.on.ex (seqT sm hxs)
    · rintro k y σ' H'' hy ⟨Γ', B', acc', H2, hP, sm, w2⟩
      obtain ⟨d, hdi, rd⟩ := rs.get hy
      exact hs k d Γ' B' acc' hdi hP g _ A0 A1 a H2 H'' (w2.set j hij (Rp.mono sm rd)) _ ⟨fun Γ3 B3 acc3 σ3 H3 H3' q w3 m => ⟨Γ3, B3, acc3, H3, q, sm.trans m, w3⟩, fun _ _ _ _ _ q => q.elim, fun r B3 v H3 H3' q t3 o3 rv => G.rt r B3 v H3 H3' q t3 o3 rv,
        fun _ _ _ _ _ _ q => q.elim, fun Γ3 B3 acc3 σ3 H3 H3' q w3 m => ⟨Γ3, B3, acc3, H3, q, sm.trans m, w3⟩, fun _ _ _ _ _ _ q => q.elim⟩
    · rintro σ' H'' ⟨Γ', B', acc', H2, hP, sm, w2⟩
      rw [rs.length] at hP
      exact hd Γ' B' acc' hP g σ' A0 A1 a H2 H'' w2 D (G.on (t.ex.trans sm))⟩
end
end Gd
namespace Gd
open PySem PySem.Spec PyProof.Rows L2
section
variable {X : Cx} {i : Nat} {Γ : List VD} {B B1 B2 B3 : Bag} {e0 e2 e3 : Expr} {d0 d2 d3 : PyData} {pos pl pt2 : Pos} {rest : List Stmt} {Es : En}
end
end Gd
set_option exponentiation.threshold 20000
namespace Lw
open PySem PySem.Spec PyProof.Rows L2 Gd Fr
open scoped Rat
theorem NdA.all {D W : Nat} : ∀ {ds : List PyData}, (∀ d ∈ ds, Nd D W d) → NdA D ((W + 1) * ds.length) ds
  | [], _ => NdA.nil
  | d :: ds, h => by
    have := NdA.cons (h d List.mem_cons_self) (NdA.all fun e he => h e (List.mem_cons_of_mem _ he))
    exact this.le (Nat.le_refl _) (by rw [List.length_cons, Nat.mul_succ]; omega)
theorem _root_.Gd.pgN {X : Cx} {x : Str} {pos : Pos} (i : Nat) (nd : X.N.Nodup) (hi : X.N[i]? = some x := by rfl) (hx : Loc X.env.scope x := by first | exact Or.inl rfl | exact Or.inr rfl)
    (hf : X.fn x = true ∨ X.env.scope.names.lookup x = some .local := by first | exact .inl rfl | exact .inr rfl) : PG X (.Name x pos) (gName i) := pg_name nd hi hx hf
theorem cutN (ds : List PyData) (n : Nat) (h : n ≤ ds.length) : cutP ds none (some (n : Int)) = ds.take n := by
  unfold cutP
  rw [HT.sIx_none, HT.sIx_nat, List.drop_zero, Nat.sub_zero, Nat.min_eq_left h]
end Lw
namespace Gd
open PySem PySem.Spec PyProof.Rows L2
section
variable {X : Cx} {i : Nat} {Γ : List VD} {B B1 B2 B' : Bag} {acc ds ys : List PyData} {e a b c : Expr} {es : List Expr} {d da db : VD} {y : PyData} {pos p p1 p2 p3 pos' : Pos} {rest ss s1 s2 : List Stmt} {E : EnO} {Es : En}
section
variable {elt : Expr} {scope : Scope} {j : Nat} {x : Str} {px : Pos}
end
end
end Gd
set_option exponentiation.threshold 20000
namespace Lw
open PySem PySem.Spec PyProof.Rows L2 Gd Fr
open scoped Rat
end Lw
set_option exponentiation.threshold 20000
namespace Lw
open PySem PySem.Spec PyProof.Rows L2 Gd Fr
open scoped Rat
theorem gap_mul (x : Rat) (f : Int) : (x - (f : Rat)) * ((x.den : Int) : Rat) = ((x.num - f * (x.den : Int) : Int) : Rat) := by
  have h := num_den x
  rw [Rat.intCast_sub, Rat.intCast_mul, ← h]; grind
theorem denQ_pos (x : Rat) : (0 : Rat) < ((x.den : Int) : Rat) := Rat.intCast_pos.mpr (den_pos x)
theorem fl (x : Rat) : ∃ g : Rat, x = ((x.num / (x.den : Int) : Int) : Rat) + g ∧ 0 ≤ g ∧ g < 1 ∧ x - ((x.num / (x.den : Int) : Int) : Rat) = g := by
  refine ⟨x - ((x.num / (x.den : Int) : Int) : Rat), by grind, ?_, ?_, rfl⟩
  · have h := gap_mul x (x.num / (x.den : Int))
    have h1 := Int.emod_add_mul_ediv x.num (x.den : Int)
    have h2 := Int.emod_nonneg x.num (Int.ne_of_gt (den_pos x))
    have h3 : (0 : Rat) ≤ (x - ((x.num / (x.den : Int) : Int) : Rat)) * ((x.den : Int) : Rat) := by
      rw [h]; exact Rat.intCast_nonneg.mpr (by rw [Int.mul_comm]; omega)
    refine Rat.not_lt.mp fun z => ?_
    have := (Rat.mul_lt_mul_right (denQ_pos x)).mpr z
    rw [Rat.zero_mul] at this
    exact absurd (ltle this h3) Rat.lt_irrefl
  · have h := gap_mul x (x.num / (x.den : Int))
    have h1 := Int.emod_add_mul_ediv x.num (x.den : Int)
    have h2 := Int.emod_lt_of_pos x.num (den_pos x)
    refine (Rat.mul_lt_mul_right (denQ_pos x)).mp ?_
    rw [h, Rat.one_mul]
    exact cast_lt.mpr (by rw [Int.mul_comm]; omega)
end Lw
set_option exponentiation.threshold 20000
namespace Lw
open PySem PySem.Spec PyProof.Rows L2 Gd Fr
open scoped Rat
end Lw
set_option exponentiation.threshold 20000
namespace Lw
open PySem PySem.Spec PyProof.Rows L2 Gd Fr
open scoped Rat
theorem sgn_eq (x : Rat) : sgn x = if x < 0 then 1 else 0 := by
  unfold sgn
  by_cases h : x < 0
  · rw [if_pos h, if_pos ((num_neg_iff x).mpr h)]
  · rw [if_neg h, if_neg (fun z => h ((num_neg_iff x).mp z))]
section
variable (b p : Nat) (low high : Int)
end
end Lw
set_option exponentiation.threshold 20000
namespace Lw
open PySem PySem.Spec PyProof.Rows L2 Gd Fr
open scoped Rat
section
variable (b p : Nat) (low high : Int)
end
section
variable {b p : Nat} {low high : Int} (F : Fm b p low high)
include F
theorem gr_qz : Qz 3040 2341 (grQ b p high) := (can_qz F (great_can F) (Int.le_refl _)).1
end
end Lw
namespace Gd
open PySem PySem.Spec PyProof.Rows L2
section
variable {X : Cx} {i : Nat} {Γ : List VD} {B B1 B2 B' : Bag} {acc ds ys : List PyData} {e a b c : Expr} {es : List Expr} {d da db : VD} {y : PyData} {pos p p1 p2 p3 pos' : Pos} {rest ss s1 s2 : List Stmt} {E : EnO} {Es : En}
def isNone : PyData → Bool
  | .none => true
  | _ => false
theorem rv_non {K : PySem.W.Frag} {H : Hp} {v : V} {y : PyData} (h : Rp K H v y) : decide (v = V.non) = isNone y := by
  cases h with
  | non => rfl
  | bl b => rfl
  | int i => rfl
  | str x => rfl
  | lst _ _ => rfl
  | tup _ _ => rfl
  | dct _ => rfl
  | dctT _ _ => rfl
theorem tj_isN {j} (ha : EJ X Γ B a (.da y) B1) : TJ X Γ B (.Compare a [.Is] [.Constant .none j pos'] pos) (isNone y) B1 :=
  tj_cmp ha ej_non op_isN (nomark _) fun g v w H0 H O r1 r2 Q q => by
    have r2 : Rp X.K H0 w .none := r2
    cases r2
    refine ⟨rfl, ?_⟩
    rw [rv_non (show Rp X.K H0 v y from r1)]; exact q _ _ To.refl O
end
end Gd
namespace Gd
open PySem PySem.Spec PyProof.Rows L2
mutual
def niceB : PyData → Bool
  | .none => true
  | .bool _ => true
  | .int i => decide (Nat.log2 i.natAbs < 12900)
  | .str x => x.cps.all fun c => c < 0x110000
  | .list xs => niceBAll xs
  | .tuple xs => niceBAll xs
  | .dict _ => false
def niceBAll : List PyData → Bool
  | [] => true
  | x :: xs => niceB x && niceBAll xs
end
theorem big_lt {i : Int} (h : Nat.log2 i.natAbs < 12900) : i.natAbs < 10 ^ 4300 := Nat.lt_of_lt_of_le (lt_of_log2 h) pow_lo
section
variable {prog : Program} {w : World} {A : Around} {E : Value → Shared → Prop} {s : Shared} {h₀ : Heap}
end
mutual
theorem niceB_lay : ∀ d : PyData, niceB d = true → d.canLay0 = true ∧ d.leavesShort 4301 = true
  | .none, _ => ⟨by simp only [PyData.canLay0], by simp only [PyData.leavesShort]⟩
  | .bool _, _ => ⟨by simp only [PyData.canLay0], by simp only [PyData.leavesShort]⟩
  | .int i, h => ⟨by simp only [PyData.canLay0], by
    simp only [niceB, decide_eq_true_eq] at h
    simp only [PyData.leavesShort, decide_eq_true_eq, PyData.shown_int]; rw [PySem.ofString_length]
    exact int_text_length_le10 (k := 4300) (by decide) (big_lt h)⟩
  | .str x, h => by
    simp only [niceB] at h
    refine ⟨by simp only [PyData.canLay0]; exact h, ?_⟩
    simp only [PyData.leavesShort, List.all_eq_true, decide_eq_true_eq]; intro c hc
    have h3 : c < 0x110000 := of_decide_eq_true (Array.all_eq_true'.mp h c (by simpa using hc))
    omega
  | .list xs, h => by simp only [niceB] at h; simp only [PyData.canLay0, PyData.leavesShort]; exact niceB_layA xs h
  | .tuple xs, h => by simp only [niceB] at h; simp only [PyData.canLay0, PyData.leavesShort]; exact niceB_layA xs h
  | .dict _, h => by simp only [niceB] at h; cases h
theorem niceB_layA : ∀ ds : List PyData, niceBAll ds = true → PyData.canLayAll0 ds = true ∧ PyData.leavesShortAll 4301 ds = true
  | [], _ => ⟨by simp only [PyData.canLayAll0], by simp only [PyData.leavesShortAll]⟩
  | x :: xs, h => by
    simp only [niceBAll, Bool.and_eq_true] at h
    have a := niceB_lay x h.1
    have c := niceB_layA xs h.2
    simp only [PyData.canLayAll0, PyData.leavesShortAll, Bool.and_eq_true]; exact ⟨⟨a.1, c.1⟩, a.2, c.2⟩
end
structure OkB (d : PyData) : Prop where
  nice : niceB d = true
  dp : d.depth ≤ 60
  bulk : d.bulk ≤ 2000
theorem OkB.shaped {d : PyData} (h : OkB d) : SeqAt.shaped d = true := by
  unfold SeqAt.shaped
  rw [(niceB_lay d h.nice).1, Bool.true_and, decide_eq_true_eq]; have := h.dp; omega
theorem OkB.len {d : PyData} (h : OkB d) : d.shown.length ≤ sizeLine := by
  have h1 := PyData.shown_le_bulk 4301 (by decide) d (niceB_lay d h.nice).2
  have h2 := h.bulk
  rw [show sizeLine = 16777216 from by decide]; omega
section
variable {X : Cx} {i : Nat} {Γ : List VD} {B B1 B2 B' : Bag} {e a b c : Expr} {es : List Expr} {y : PyData} {pos p : Pos}
end
end Gd
set_option exponentiation.threshold 20000
namespace Lw
open PySem PySem.Spec PyProof.Rows L2 Gd Fr
open scoped Rat
mutual
theorem niceB_of : ∀ d : PyData, nice d = true → niceB d = true
  | .none, _ => by simp only [niceB]
  | .bool _, _ => by simp only [niceB]
  | .int i, h => by
    simp only [nice, decide_eq_true_eq] at h
    simp only [niceB, decide_eq_true_eq]
    omega
  | .str _, h => by simp only [nice] at h; simp only [niceB]; exact h
  | .list xs, h => by simp only [nice] at h; simp only [niceB]; exact niceB_ofA xs h
  | .tuple xs, h => by simp only [nice] at h; simp only [niceB]; exact niceB_ofA xs h
  | .dict _, h => by simp only [nice] at h; cases h
theorem niceB_ofA : ∀ ds : List PyData, niceAll ds = true → niceBAll ds = true
  | [], _ => by simp only [niceBAll]
  | x :: xs, h => by
    simp only [niceAll, Bool.and_eq_true] at h
    simp only [niceBAll, Bool.and_eq_true]
    exact ⟨niceB_of x h.1, niceB_ofA xs h.2⟩
end
structure NdB (D W : Nat) (d : PyData) : Prop where
  ni : niceB d = true
  dp : d.depth ≤ D
  bk : d.bulk ≤ W
structure NdBA (D W : Nat) (ds : List PyData) : Prop where
  ni : niceBAll ds = true
  dp : PyData.depthAll ds ≤ D
  bk : PyData.bulkAll ds ≤ W
theorem Nd.b {D W : Nat} {d : PyData} (h : Nd D W d) : NdB D W d := ⟨niceB_of d h.ni, h.dp, h.bk⟩
theorem NdBA.nil {D W : Nat} : NdBA D W [] := ⟨by simp only [niceBAll], by simp only [PyData.depthAll]; omega, by simp only [PyData.bulkAll]; omega⟩
theorem NdBA.cons {D W W' : Nat} {d : PyData} {ds : List PyData} (h : NdB D W d) (r : NdBA D W' ds) : NdBA D (W + 1 + W') (d :: ds) :=
  ⟨by simp only [niceBAll, h.ni, r.ni, Bool.and_self], by have := h.dp; have := r.dp; simp only [PyData.depthAll]; omega, by have := h.bk; have := r.bk; simp only [PyData.bulkAll]; omega⟩
theorem NdB.le {D W D' W' : Nat} {d : PyData} (h : NdB D W d) (e : D ≤ D') (f : W ≤ W') : NdB D' W' d := ⟨h.ni, Nat.le_trans h.dp e, Nat.le_trans h.bk f⟩
theorem NdB.list {D W : Nat} {ds : List PyData} (h : NdBA D W ds) : NdB (D + 1) W (.list ds) := ⟨by simp only [niceB]; exact h.ni, by have := h.dp; simp only [PyData.depth]; omega, by have := h.bk; simp only [PyData.bulk]; omega⟩
theorem NdB.tuple {D W : Nat} {ds : List PyData} (h : NdBA D W ds) : NdB (D + 1) W (.tuple ds) := ⟨by simp only [niceB]; exact h.ni, by have := h.dp; simp only [PyData.depth]; omega, by have := h.bk; simp only [PyData.bulk]; omega⟩
theorem NdB.int {n : Nat} {i : Int} (h : Bd n i) (e : n ≤ 12900 := by decide) : NdB 1 0 (.int i) := ⟨by
  simp only [niceB, decide_eq_true_eq]
  by_cases h0 : 0 < n
  · exact Nat.lt_of_lt_of_le (PySem.Flt.log2_lt_of h0 h) e
  · have : n = 0 := by omega
    subst this
    have : i.natAbs = 0 := by unfold Bd at h; omega
    rw [this]; decide, by simp only [PyData.depth]; omega, by simp only [PyData.bulk]; omega⟩
noncomputable def numofP (b p : Nat) (low high : Int) (q : Rat) : PyData :=
  if q = 0 then nm 0 0 low
  else if high < eQ b p low (absQ q) ∨ rQ b (eQ b p low (absQ q)) (absQ q) ≠ 0 then .none
  else nm (sgn q) (cQ b (eQ b p low (absQ q)) (absQ q)) (eQ b p low (absQ q))
inductive R_numof : Rel
  | mk (b p : Nat) (low high : Int) (q : Rat) (n d : Nat) (B : Bag) (F : Fm b p low high) (hq : Qz n d q) (hn : n ≤ 6000) (hd : d ≤ 6000) : R_numof [.da (fmP b p low high), .da (fq q)] B (numofP b p low high q) B
theorem num_le_great {b p : Nat} {low high : Int} (F : Fm b p low high) {q : Rat} (h0 : 0 ≤ q) (he : eQ b p low q ≤ high) (hr : rQ b (eQ b p low q) q = 0) : q ≤ grQ b p high := by
  have h2 := F.b2
  have hC := spot_can h2 (by have := F.p2; omega) h0 (eQ_is (p := p) h2 low q)
  have ho := over_iff (high := high) h2 F.p2 F.lh hC
  have e1 : (cQ b (eQ b p low q) q : Rat) * pw b (eQ b p low q) = q := (lo_eq h2 _ q).mpr hr
  rw [e1] at ho
  exact Rat.not_lt.mp fun z => absurd (ho.mp z) (by omega)
theorem gr_pos {b p : Nat} {low high : Int} (F : Fm b p low high) : 0 < grQ b p high := by
  have P := F.pows; have l2 := P.l2; have ge := P.ge
  unfold grQ
  exact Rat.mul_pos (Rat.intCast_pos.mpr (by omega)) (pw_pos F.b2 high)
theorem numofP_all {b p : Nat} {low high : Int} (F : Fm b p low high) (q : Rat) : numofP b p low high q = if high < eQ b p low (absQ q) ∨ rQ b (eQ b p low (absQ q)) (absQ q) ≠ 0 then .none
  else nm (sgn q) (cQ b (eQ b p low (absQ q)) (absQ q)) (eQ b p low (absQ q)) := by
  unfold numofP
  by_cases h : q = 0
  · subst h
    have a0 : absQ (0 : Rat) = 0 := absQ_zero.mpr rfl
    have e2 : eQ b p low 0 = low := eQ_of F.b2 (isE_zero F.b2 low)
    have lh := F.lh
    rw [if_pos rfl, a0, e2, (cQ_zero b low).1, (cQ_zero b low).2, if_neg (fun z => z.elim (by omega) fun z => z rfl), sgn_eq, if_neg (by decide)]
  · rw [if_neg h]
def Vcan (b p : Nat) (low high : Int) : Va → Prop
  | .num s c e => (s = 0 ∨ s = 1) ∧ Can b p low c e ∧ e ≤ high
  | .inf s => s = 0 ∨ s = 1
  | .nan => True
theorem Vcan.ok {b p : Nat} {low high : Int} {v : Va} (h : Vcan b p low high v) : Vok b p low high v := by
  cases v with
  | nan => trivial
  | inf s => exact h
  | num s c e => exact ⟨h.1, h.2.1.1, h.2.1.2.1, h.2.1.2.2.1, h.2.2⟩
theorem Vcan.opp {b p : Nat} {low high : Int} {v : Va} (h : Vcan b p low high v) : Vcan b p low high v.opp := by
  cases v with
  | nan => trivial
  | inf s => show (1 - s = 0 ∨ 1 - s = 1); have h : s = 0 ∨ s = 1 := h; omega
  | num s c e => exact ⟨by have := h.1; omega, h.2⟩
theorem edges_can {b p : Nat} {low high : Int} (F : Fm b p low high) : ∀ v ∈ edgesV b p low high, ∃ c e, v = .num 0 c e ∧ Can b p low c e ∧ e ≤ high := by
  have P := F.pows; have l2 := P.l2; have ge := P.ge; have lh := F.lh
  intro v hv
  unfold edgesV at hv
  simp only [List.mem_cons, List.not_mem_nil, or_false] at hv
  rcases hv with rfl | rfl | rfl | rfl | rfl | rfl | rfl | rfl | rfl | rfl <;> refine ⟨_, _, rfl, ⟨by omega, by omega, by omega, ?_⟩, by omega⟩ <;> first | exact .inl rfl | (right; omega)
theorem numC_lead {b p : Nat} {low high : Int} (F : Fm b p low high) (w : Int) (B : Bag) : lead b p ≤ numC b p w B := by
  obtain ⟨l2, ge, e1⟩ := lf F
  have b2 := F.b2
  unfold numC
  split
  · have h := pickI_mem [lead b p, lead b p * (b - 1), lead b p + 1, full b p - 1] (tkB B (full b p - lead b p)) (by show 0 < 4; decide)
    generalize pickI [lead b p, lead b p * (b - 1), lead b p + 1, full b p - 1] (tkB B (full b p - lead b p)) = z at *
    rw [e1] at h
    simp only [List.mem_cons, List.not_mem_nil, or_false] at h
    rcases h with rfl | rfl | rfl | rfl <;> omega
  · have h0 := tkV_ge B (m := full b p - lead b p) (by omega)
    omega
theorem numV_can {b p : Nat} {low high : Int} (F : Fm b p low high) (B : Bag) : Vcan b p low high (numV b p low high B) := by
  unfold numV
  split
  · obtain ⟨c, e, h1, h3, h4⟩ := edges_can F _ (pickV_mem (edgesV b p low high) (numB2 B) (by show 0 < 10; decide))
    rw [h1]
    exact ⟨tkV_2 _, h3, h4⟩
  · have h1 := numC2_ok F (tkV B 6) (numE p low high (numB2 B)) (numC b p (tkV B 6) (numEB low high (numB2 B))) (numCB b p (tkV B 6) (numEB low high (numB2 B))) (numC_ok F _ _)
    have hE := numE_ok F (numB2 B)
    refine ⟨tkV_2 _, ⟨h1.1, h1.2, hE.1, ?_⟩, hE.2⟩
    unfold numC2
    split
    · next h => exact .inl h.1
    · exact .inr (numC_lead F _ _)
theorem vaV_can {b p : Nat} {low high : Int} (F : Fm b p low high) (B : Bag) : Vcan b p low high (vaV b p low high B) := by
  unfold vaV
  split
  · trivial
  · split
    · exact tkV_2 _
    · exact numV_can F _
end Lw
set_option exponentiation.threshold 20000
namespace Lw
open PySem PySem.Spec PyProof.Rows L2 Gd Fr
open scoped Rat
section
variable {b p : Nat} {low high : Int} (F : Fm b p low high)
include F
end
end Lw
namespace Gd
open PySem PySem.Spec PyProof.Rows L2
section
variable {X : Cx} {Γ : List VD} {B B1 B2 : Bag} {e c elt : Expr} {scope : Scope} {acc : List PyData} {pos pos' : Pos} {rest : List Stmt} {E : En} {d : VD}
theorem lcI_step {K : PySem.W.Frag} {g : Gh} {H1 H' : Hp} {A : Addr} {H2 H'' H3 H3' : Hp} (off : Off g A) (I : LcI K g H1 H' A acc B1 H2 H'') (t : To g H2 H'' H3 H3') (o : On K g B2 H3 H3') : LcI K g H1 H' A acc B2 H3 H3' := by
  obtain ⟨zs, h1, h2⟩ := I.at'
  obtain ⟨h3, h4⟩ := t.un A _ off I.no h1
  exact ⟨I.to.trans t, I.new, h3, ⟨zs, h4, h2.mono t.ex⟩, o⟩
theorem wipe2 {σ : L2.St} {j1 j2 : Nat} {v1 v2 : Option V} (h : j1 ≠ j2) : ((wipe σ [j1, j2]).set j1 v1).set j2 v2 = (σ.set j1 v1).set j2 v2 := by
  show ((((σ.set j2 none).set j1 none).set j1 v1).set j2 v2) = _
  rw [List.set_set, List.set_comm none v1 (Ne.symm h), List.set_set]
theorem wipe2w {σ : L2.St} {j1 j2 : Nat} {v1 v2 : Option V} (h : j1 ≠ j2) : wipe ((σ.set j1 v1).set j2 v2) [j1, j2] = wipe σ [j1, j2] := by
  show ((((σ.set j1 v1).set j2 v2).set j2 none).set j1 none) = (σ.set j2 none).set j1 none
  rw [List.set_set, List.set_comm v1 none h, List.set_set]
theorem lc_turn2 {j1 j2 : Nat} {g : Gh} {H1 H' : Hp} {A : Addr} {H'' H2 : Hp} {σ : L2.St} {v : V} {y1 y2 z : PyData} {f : Bool} {Nx : Hp → Prop} (hj : j1 ≠ j2) (off : Off g A) (Ev : EnvD X.K g H1 σ Γ) (I : LcI X.K g H1 H' A acc B H2 H'') (r : Rp X.K H2 v (.tuple [y1, y2]))
    (hz : acc.length < 1000) (ht : Blk X scope fun Y => TJ Y ((Γ.set j1 (.da y1)).set j2 (.da y2)) B c f B) (he : f = true → Blk X scope fun Y => EJ Y ((Γ.set j1 (.da y1)).set j2 (.da y2)) B elt (.da z) B)
    (k : ∀ H3 H3', LcI X.K g H1 H' A (if f = true then acc ++ [z] else acc) B H3 H3' → Nx H3') :
    gTup X.K 2 (gNames [j1, j2]) v (wipe σ [j1, j2]) H'' fun σ2 H2 => wipe σ2 [j1, j2] = wipe σ [j1, j2] ∧ WTB X scope c σ2 H2 fun b H3 => if b = true then WB X scope elt σ2 H3 fun y H4 => ∃ acc, H4 A = some (.lst acc) ∧ acc.length < sizeLine ∧ Nx (upd H4 A (.lst (acc ++ [y]))) else Nx H3 := by
  obtain ⟨p, xs, rfl, hxs, rs⟩ := rvT (g := g) (show Rv X.K g H2 v (.da (.tuple [y1, y2])) from r)
  cases rs with
  | cons r1 rs =>
    cases rs with
    | cons r2 rs =>
      cases rs
      refine ⟨p, _, rfl, seqT I.on.ex hxs, rfl, _, _, rfl, _, _, rfl, rfl, ?_⟩
      rw [wipe2 hj]
      refine ⟨wipe2w hj, ?_⟩
      intro s hH C cl fp
      have ev := ((Ev.mono I.to.ex).set (d := .da y1) j1 r1).set (d := .da y2) j2 r2
      refine ht s hH C cl fp g _ H2 H'' ev I.on _ fun H3 H3' t o => ?_
      have J := lcI_step off I t o
      cases f with
      | false => exact k _ _ J
      | true =>
        refine iteT ?_
        intro s hH C cl fp
        refine he rfl s hH C cl fp g _ H3 H3' (ev.mono t.ex) J.on _ fun w H4 H4' t2 o2 rw' => ?_
        obtain ⟨zs, h1, h2, J2⟩ := lcI_app off J t2 o2 rw'
        exact ⟨zs, h1, by rw [h2]; exact small1000 (Nat.le_of_lt hz), k _ _ J2⟩
end
end Gd
set_option exponentiation.threshold 20000
namespace Lw
open PySem PySem.Spec PyProof.Rows L2 Gd Fr
open scoped Rat
section
variable {b p : Nat} {low high : Int} (F : Fm b p low high)
include F
end
end Lw
namespace Gd
open PySem PySem.Spec PyProof.Rows L2
section
variable {X : Cx} {Γ : List VD} {B B1 B2 : Bag} {e c elt a b : Expr} {scope : Scope} {acc : List PyData} {pos pos' : Pos} {rest : List Stmt} {E : En} {d : VD}
theorem op_inDT (hu : X.A.units + 64 < cLine) : OpR X (compareOp .In) (fun x y H Q => ∃ d ds, Dp X.K H x d ∧ Dp X.K H y (.tuple ds) ∧ SeqAt.shaped d = true ∧ SeqAt.shaped (.tuple ds) = true ∧ d.depth ≤ 60 ∧ Q (.bl (ds.any fun z => PyData.eqv z d)) H) := by
  intro pins s σ H x y v u Q I rx ry h
  obtain ⟨d, ds, hd, he, sd, se, hp, q⟩ := h
  obtain ⟨as, r1⟩ := Dp.reads I d x v hd rx
  obtain ⟨bs, r2⟩ := Dp.reads I (.tuple ds) y u he ry
  exact SeqAt.in_tuple_reads r2 r1 (SeqAt.canLay_of_shaped se) (SeqAt.canLay_of_shaped sd) (by have := Nat.min_le_right (PyData.depthAll ds) d.depth; omega) ⟨.bl _, H, I, rfl, q⟩
theorem tj_inD {d : PyData} {ds : List PyData} (hu : X.A.units + 64 < cLine) (ha : EJ X Γ B a (.da d) B1) (hb : EJ X Γ B1 b (.da (.tuple ds)) B2) (hd : SeqAt.shaped d = true) (hds : SeqAt.shaped (.tuple ds) = true) (hp : d.depth ≤ 60) (hm : behindInMarks .In b = false := by rfl) :
    TJ X Γ B (.Compare a [.In] [b] pos) (ds.any fun z => PyData.eqv z d) B2 :=
  tj_cmp ha hb (op_inDT hu) hm fun g v w H0 H O r1 r2 Q q => ⟨d, ds, (Rp.mono O.ex r1).dp (nd_shaped hd), (Rp.mono O.ex r2).dp (nd_shaped hds), hd, hds, hp, q H0 H To.refl O⟩
end
end Gd
set_option exponentiation.threshold 20000
namespace Lw
open PySem PySem.Spec PyProof.Rows L2 Gd Fr
open scoped Rat
section
variable {b p : Nat} {low high : Int} (F : Fm b p low high)
include F
end
end Lw
namespace Gd
open PySem PySem.Spec PyProof.Rows L2
section
variable {P : Program} {w : World} {A : Around} {s : Shared} {E : Value → Shared → Prop}
end
section
variable {X : Cx}
end
end Gd
namespace Gd
open PySem PySem.Spec PyProof.Rows L2
section
variable {X : Cx} {Γ : List VD} {B B1 B2 : Bag} {e c elt a b : Expr} {scope : Scope} {acc : List PyData} {pos pos' p p' : Pos} {rest : List Stmt} {E : En} {d : VD}
end
end Gd
set_option exponentiation.threshold 20000
namespace Lw
open PySem PySem.Spec PyProof.Rows L2 Gd Fr
open scoped Rat
end Lw
set_option exponentiation.threshold 20000
namespace Lw
open PySem PySem.Spec PyProof.Rows L2 Gd Fr
open scoped Rat
section
variable {b p : Nat} {low high : Int} (F : Fm b p low high)
include F
end
end Lw
set_option exponentiation.threshold 20000
namespace Lw
open PySem PySem.Spec PyProof.Rows L2 Gd Fr
open scoped Rat
section
variable {X : Cx} {Γ : List VD} {B B1 B2 : Bag} {a b : Expr} {pos : Pos}
end
end Lw
namespace Gd
open PySem PySem.Spec PyProof.Rows L2
section
variable {P : Program} {w : World} {K : PySem.W.Frag} {mg : Str → Option Value} {base : Heap} {x : Str}
def CalE (P : Program) (w : World) (K : PySem.W.Frag) (mg : Str → Option Value) (base : Heap) (x : Str) (k : Nat) (Pre : List VD → Bag → Prop) (Post : List VD → Bag → PyData → Bag → Prop) : Prop :=
  ∃ R : Rel, Cal P w K mg base x k R ∧ ∀ Γ B, Pre Γ B → ∃ r B', R Γ B r B' ∧ Post Γ B r B'
theorem Cal.e {k : Nat} {R : Rel} (c : Cal P w K mg base x k R) {Pre : List VD → Bag → Prop} {Post : List VD → Bag → PyData → Bag → Prop} (h : ∀ Γ B, Pre Γ B → ∃ r B', R Γ B r B' ∧ Post Γ B r B') : CalE P w K mg base x k Pre Post := ⟨R, c, h⟩
end
section
variable {X : Cx} {Γ : List VD} {B B1 B2 : Bag} {a b c : Expr} {d : VD} {pos : Pos}
theorem ej_ifT (h : TJ X Γ B c true B1) (h1 : EJ X Γ B1 a d B2) : EJ X Γ B (.IfExp c a b pos) d B2 := ej_if h (fun _ => h1) (fun z => Bool.noConfusion z)
theorem ej_ifF (h : TJ X Γ B c false B1) (h1 : EJ X Γ B1 b d B2) : EJ X Γ B (.IfExp c a b pos) d B2 := ej_if h (fun z => Bool.noConfusion z) (fun _ => h1)
end
end Gd
namespace Gd
open PySem PySem.Spec PyProof.Rows L2
section
variable {X : Cx} {i : Nat} {Γ : List VD} {B B1 B2 B' : Bag} {ds : List PyData} {e a b c : Expr} {es : List Expr} {pos p p1 p2 p3 pos' : Pos} {rest ss s1 s2 : List Stmt} {E : En}
end
end Gd
set_option exponentiation.threshold 20000
namespace Lw
open PySem PySem.Spec PyProof.Rows L2 Gd Fr
open scoped Rat
theorem numof_va {b p : Nat} {low high : Int} (F : Fm b p low high) (q : Rat) : numofP b p low high q = .none ∨ ∃ s c e, numofP b p low high q = (Va.num s c e).d ∧ Vcan b p low high (.num s c e) := by
  rw [numofP_all F]
  split
  · exact .inl rfl
  · next h =>
    refine .inr ⟨sgn q, _, _, rfl, ?_, spot_can F.b2 (by have := F.p2; omega) (absQ_nonneg q) (eQ_is F.b2 low (absQ q)), ?_⟩
    · unfold sgn; split <;> simp
    · have : ¬ high < eQ b p low (absQ q) := fun z => h (.inl z)
      omega
end Lw
namespace Lw
open PySem PySem.Spec PyProof.Rows L2 Gd Fr
end Lw
namespace Gd
open PySem PySem.Spec PyProof.Rows L2
section
variable {X : Cx} {Γ : List VD} {B B1 B2 : Bag} {a b c : Expr} {es : List Expr} {pos p : Pos}
end
end Gd
set_option exponentiation.threshold 20000
namespace Gd
open PySem PySem.Spec PyProof.Rows L2
section
variable {X : Cx} {Γ : List VD} {B B1 B2 : Bag} {c : Expr} {pos : Pos} {rest s1 s2 : List Stmt} {E : En}
end
end Gd
namespace Lw
open PySem PySem.Spec PyProof.Rows L2 Gd Fr
open scoped Rat
theorem int_qz {k : Nat} {n : Int} (h : Bd k n) : Qz k 1 (n : Rat) := ⟨by rw [Rat.num_intCast]; exact h, by rw [Rat.den_intCast]; unfold Bd; decide⟩
theorem fmP_inj {b p b' p' : Nat} {low high low' high' : Int} (h : fmP b p low high = fmP b' p' low' high') : b = b' ∧ p = p' ∧ low = low' ∧ high = high' := by
  unfold fmP at h
  injection h with h
  injection h with h1 h
  injection h with h2 h
  injection h with h3 h
  injection h with h4 h
  injection h1 with h1
  injection h2 with h2
  injection h3 with h3
  injection h4 with h4
  exact ⟨by omega, by omega, h3, h4⟩
end Lw
set_option exponentiation.threshold 20000
namespace Lw
open PySem PySem.Spec PyProof.Rows L2 Gd Fr
open scoped Rat
def fmI (b p : Nat) : Int := ((b : Int) - 1) * ((b ^ (p - 1) : Nat) : Int)
def mostI (b p : Nat) (low high : Int) : Int := ((b ^ p : Nat) : Int) + (high - low) * fmI b p
def rkS (b p : Nat) (low high : Int) : Va → Int
  | .num _ c e => c + (e - low) * fmI b p
  | _ => mostI b p low high
def rkI (b p : Nat) (low high : Int) (v : Va) : Int := if v.sg = 1 then -rkS b p low high v else rkS b p low high v
def atU (b p : Nat) (low high r : Int) : Option Va :=
  let risen := max 0 ((r - ((b ^ (p - 1) : Nat) : Int)) / fmI b p)
  if low + risen ≤ high then some (.num 0 (r - risen * fmI b p) (low + risen))
  else if low + risen = high + 1 ∧ r - risen * fmI b p = ((b ^ (p - 1) : Nat) : Int) then some (.inf 0) else none
def atV (b p : Nat) (low high r : Int) : Option Va := (atU b p low high (absI r)).map fun v => if r < 0 then v.opp else v
structure Rkf (b p : Nat) (low high : Int) : Prop where
  l2 : (2 : Int) ≤ ((b ^ (p - 1) : Nat) : Int)
  fl : ((b ^ p : Nat) : Int) = ((b ^ (p - 1) : Nat) : Int) + fmI b p
  f1 : (1 : Int) ≤ fmI b p
  fb : Bd 701 (fmI b p)
  lh : low ≤ high
  lb : ((b ^ (p - 1) : Nat) : Int) ≤ fmI b p
theorem Fm.rkf {b p : Nat} {low high : Int} (F : Fm b p low high) : Rkf b p low high := by
  have P := F.pows; have l2 := P.l2; have eq := P.eq; have b2 := F.b2; have bp := F.bp
  have e : ((b ^ p : Nat) : Int) = ((b ^ (p - 1) : Nat) : Int) * (b : Int) := by rw [eq, Int.natCast_mul]
  have f : fmI b p = ((b ^ (p - 1) : Nat) : Int) * (b : Int) - ((b ^ (p - 1) : Nat) : Int) := by unfold fmI; rw [Int.sub_mul, Int.one_mul, Int.mul_comm]
  have g : ((b ^ (p - 1) : Nat) : Int) * 2 ≤ ((b ^ (p - 1) : Nat) : Int) * (b : Int) := Int.mul_le_mul_of_nonneg_left (by omega) (by omega)
  have bpI : ((b ^ p : Nat) : Int) < 2 ^ 700 := by exact_mod_cast bp
  refine ⟨by omega, by omega, by omega, ?_, F.lh, by omega⟩
  unfold Bd
  have : (fmI b p).natAbs < 2 ^ 700 := by omega
  exact Nat.lt_trans this (by decide)
theorem div_spec (x d : Int) (hd : 0 < d) (k : Int) : x / d = k ↔ k * d ≤ x ∧ x < (k + 1) * d := by
  have h1 := Int.emod_add_mul_ediv x d
  have h2 := Int.emod_nonneg x (Int.ne_of_gt hd)
  have h3 := Int.emod_lt_of_pos x hd
  constructor
  · rintro rfl
    rw [Int.add_mul, Int.one_mul, Int.mul_comm (x / d) d]; omega
  · rintro ⟨h4, h5⟩
    have a : x / d < k + 1 := by
      refine Int.lt_of_not_ge fun z => ?_
      have : (k + 1) * d ≤ x / d * d := Int.mul_le_mul_of_nonneg_right z (by omega)
      rw [Int.mul_comm (x / d) d] at this; omega
    have c : k < x / d + 1 := by
      refine Int.lt_of_not_ge fun z => ?_
      have : (x / d + 1) * d ≤ k * d := Int.mul_le_mul_of_nonneg_right z (by omega)
      rw [Int.add_mul, Int.one_mul, Int.mul_comm (x / d) d] at this; omega
    omega
variable {b p : Nat} {low high : Int} (F : Fm b p low high)
include F
theorem atU_law {r : Int} (h0 : 0 ≤ r) : atU b p low high r = if mostI b p low high ≤ r then (if r = mostI b p low high then some (.inf 0) else none)
    else if r < ((b ^ p : Nat) : Int) then some (.num 0 r low)
    else some (.num 0 (r - (r - ((b ^ (p - 1) : Nat) : Int)) / fmI b p * fmI b p) (low + (r - ((b ^ (p - 1) : Nat) : Int)) / fmI b p)) := by
  have R := F.rkf
  have l2 := R.l2; have fl := R.fl; have f1 := R.f1; have lh := R.lh; have lb := R.lb
  unfold atU mostI
  dsimp only
  generalize ((b ^ (p - 1) : Nat) : Int) = l at *
  generalize ((b ^ p : Nat) : Int) = u at *
  generalize fmI b p = f at *
  have hs := (div_spec (r - l) f (by omega) ((r - l) / f)).mp rfl
  generalize hk : (r - l) / f = k at *
  have hfh : 0 ≤ (high - low) * f := Int.mul_nonneg (by omega) (by omega)
  by_cases hr : r < u
  · have hk1 : k < 1 := by
      refine Int.lt_of_not_ge fun z => ?_
      have : 1 * f ≤ k * f := Int.mul_le_mul_of_nonneg_right z (by omega)
      omega
    rw [show max 0 k = 0 by omega, if_pos (by omega), if_neg (by omega), if_pos hr, Int.zero_mul, Int.sub_zero, Int.add_zero]
  · have hk1 : 1 ≤ k := by
      refine Int.not_lt.mp fun z => ?_
      have : (k + 1) * f ≤ 1 * f := Int.mul_le_mul_of_nonneg_right (by omega) (by omega)
      omega
    rw [show max 0 k = k by omega]
    have hm : (u + (high - low) * f ≤ r) ↔ high - low + 1 ≤ k := by
      constructor
      · intro z
        refine Int.not_lt.mp fun y => ?_
        have : (k + 1) * f ≤ (high - low + 1) * f := Int.mul_le_mul_of_nonneg_right (by omega) (by omega)
        rw [Int.add_mul (high - low), Int.one_mul] at this; omega
      · intro z
        have : (high - low + 1) * f ≤ k * f := Int.mul_le_mul_of_nonneg_right z (by omega)
        rw [Int.add_mul, Int.one_mul] at this; omega
    by_cases hh : low + k ≤ high
    · rw [if_pos hh, if_neg (fun z => by have := hm.mp z; omega), if_neg hr]
    · rw [if_neg hh, if_pos (hm.mpr (by omega))]
      by_cases he : r = u + (high - low) * f
      · have hk2 : k = high - low + 1 := by
          rw [← hk]
          refine (div_spec _ _ (by omega) _).mpr ⟨?_, ?_⟩
          · rw [Int.add_mul, Int.one_mul]; omega
          · rw [Int.add_mul, Int.add_mul, Int.one_mul]; omega
        rw [if_pos he, if_pos]
        refine ⟨by omega, ?_⟩
        rw [hk2, Int.add_mul, Int.one_mul]; omega
      · rw [if_neg he, if_neg]
        rintro ⟨h1, h2⟩
        have hk2 : k = high - low + 1 := by omega
        rw [hk2, Int.add_mul, Int.one_mul] at h2
        omega
theorem rkS_num {s c e : Int} (h : Can b p low c e) (he : e ≤ high) : 0 ≤ rkS b p low high (.num s c e) ∧ rkS b p low high (.num s c e) < mostI b p low high := by
  have R := F.rkf
  have f1 := R.f1; have lh := R.lh
  obtain ⟨h1, h2, h3, _⟩ := h
  have a : 0 ≤ (e - low) * fmI b p := Int.mul_nonneg (by omega) (by omega)
  have c' : (e - low) * fmI b p ≤ (high - low) * fmI b p := Int.mul_le_mul_of_nonneg_right (by omega) (by omega)
  unfold rkS mostI
  dsimp only
  omega
theorem most_pos : 3 ≤ mostI b p low high := by
  have R := F.rkf
  have l2 := R.l2; have fl := R.fl; have f1 := R.f1; have lh := R.lh; have lb := R.lb
  have a : 0 ≤ (high - low) * fmI b p := Int.mul_nonneg (by omega) (by omega)
  unfold mostI; omega
theorem at_num {s c e : Int} (h : Can b p low c e) (he : e ≤ high) : atU b p low high (rkS b p low high (.num s c e)) = some (.num 0 c e) := by
  have R := F.rkf
  have l2 := R.l2; have fl := R.fl; have f1 := R.f1; have lh := R.lh; have lb := R.lb
  have hb := rkS_num F (s := s) h he
  rw [show rkS b p low high (.num s c e) = c + (e - low) * fmI b p from rfl] at hb ⊢
  rw [atU_law F hb.1, if_neg (by omega)]
  obtain ⟨h1, h2, h3, h4⟩ := h
  rcases h4 with rfl | h4
  · rw [Int.sub_self, Int.zero_mul, Int.add_zero, if_pos h2]
  · by_cases h5 : e = low
    · subst h5; rw [Int.sub_self, Int.zero_mul, Int.add_zero, if_pos h2]
    · have a : 1 * fmI b p ≤ (e - low) * fmI b p := Int.mul_le_mul_of_nonneg_right (by omega) (by omega)
      have hk : (c + (e - low) * fmI b p - ((b ^ (p - 1) : Nat) : Int)) / fmI b p = e - low := by
        refine (div_spec _ _ (by omega) _).mpr ⟨by omega, ?_⟩
        rw [Int.add_mul, Int.one_mul]; omega
      rw [if_neg (by omega), hk]
      congr 2
      · omega
      · omega
theorem at_inf : atU b p low high (mostI b p low high) = some (.inf 0) := by
  have := most_pos F
  rw [atU_law F (by omega), if_pos (Int.le_refl _), if_pos rfl]
theorem rkS_lt {s c e s' c' e' : Int} (h : Can b p low c e) (h' : Can b p low c' e') : rkS b p low high (.num s c e) < rkS b p low high (.num s' c' e') ↔ (c : Rat) * pw b e < (c' : Rat) * pw b e' := by
  have R := F.rkf
  have b2 := F.b2; have p2 := F.p2
  have l2 := R.l2; have fl := R.fl; have f1 := R.f1; have lh := R.lh; have lb := R.lb
  have key : ∀ {c e c' e' : Int}, Can b p low c e → Can b p low c' e' → e < e' → c + (e - low) * fmI b p < c' + (e' - low) * fmI b p ∧ (c : Rat) * pw b e < (c' : Rat) * pw b e' := by
    intro c e c' e' h h' hlt
    obtain ⟨h1, h2, h3, h4⟩ := h
    obtain ⟨k1, k2, k3, k4⟩ := h'
    have k5 : ((b ^ (p - 1) : Nat) : Int) ≤ c' := by rcases k4 with k4 | k4; omega; exact k4
    constructor
    · have : (e + 1 - low) * fmI b p ≤ (e' - low) * fmI b p := Int.mul_le_mul_of_nonneg_right (by omega) (by omega)
      rw [show e + 1 - low = (e - low) + 1 by omega, Int.add_mul, Int.one_mul] at this
      omega
    · have hp := pw_pos b2 e; have hp' := pw_pos b2 e'
      have a1 : (c : Rat) * pw b e < (((b ^ p : Nat) : Int) : Rat) * pw b e := (mul_lt_u b2 e).mpr (cast_lt.mpr h2)
      have a2 : (((b ^ (p - 1) : Nat) : Int) : Rat) * pw b e' ≤ (c' : Rat) * pw b e' := Rat.not_lt.mp fun z => absurd (cast_lt.mp ((mul_lt_u b2 e').mp z)) (by omega)
      rw [← pw_p b2] at a1 a2
      have a3 : pw b ((p : Int) + e) ≤ pw b (((p - 1 : Nat) : Int) + e') := pw_mono b2 (by omega)
      grind
  unfold rkS
  dsimp only
  by_cases h1 : e < e'
  · have := key h h' h1
    exact ⟨fun _ => this.2, fun _ => this.1⟩
  · by_cases h2 : e' < e
    · have := key h' h h2
      constructor
      · intro z; omega
      · intro z; exact absurd z (Rat.not_lt.mpr (Rat.le_of_lt this.2))
    · have : e = e' := by omega
      subst this
      rw [mul_lt_u b2, cast_lt]
      omega
omit F in
theorem wQ_s (b : Nat) (s c e : Int) : Va.wQ b (.num s c e) = if s = 1 then -((c : Rat) * pw b e) else (c : Rat) * pw b e := by
  show ((if s = 1 then -c else c : Int) : Rat) * pw b e = _
  split
  · rw [Rat.intCast_neg, Rat.neg_mul]
  · rfl
theorem rk_lt {s c e s' c' e' : Int} (hs : s = 0 ∨ s = 1) (hs' : s' = 0 ∨ s' = 1) (h : Can b p low c e) (he : e ≤ high) (h' : Can b p low c' e') (he' : e' ≤ high) :
    rkI b p low high (.num s c e) < rkI b p low high (.num s' c' e') ↔ (Va.num s c e).wQ b < (Va.num s' c' e').wQ b := by
  have b2 := F.b2
  have n1 := (rkS_num F (s := s) h he).1
  have n2 := (rkS_num F (s := s') h' he').1
  have k1 := rkS_lt F (high := high) (s := s) (s' := s') h h'
  have k2 := rkS_lt F (high := high) (s := s') (s' := s) h' h
  have hz : ∀ {s c e : Int}, Can b p low c e → (0 < rkS b p low high (.num s c e) ↔ (0 : Rat) < (c : Rat) * pw b e) := by
    intro s c e h
    have hz0 : Can b p low 0 low := ⟨Int.le_refl _, by have := F.rkf.l2; have := F.rkf.fl; have := F.rkf.f1; omega, Int.le_refl _, .inl rfl⟩
    have := rkS_lt F (high := high) (s := s) (s' := s) hz0 h
    have e0 : rkS b p low high (.num s 0 low) = 0 := by unfold rkS; dsimp only; rw [Int.sub_self, Int.zero_mul]; rfl
    rw [e0] at this
    rw [this, show ((0 : Int) : Rat) = 0 from rfl, Rat.zero_mul]
  have z1 := hz (s := s) h; have z2 := hz (s := s') h'
  have q1 : (0 : Rat) ≤ (c : Rat) * pw b e := Rat.mul_nonneg (by exact_mod_cast h.1) (Rat.le_of_lt (pw_pos b2 e))
  have q2 : (0 : Rat) ≤ (c' : Rat) * pw b e' := Rat.mul_nonneg (by exact_mod_cast h'.1) (Rat.le_of_lt (pw_pos b2 e'))
  rw [wQ_s, wQ_s]
  unfold rkI Va.sg
  dsimp only
  generalize rkS b p low high (.num s c e) = r at *
  generalize rkS b p low high (.num s' c' e') = r' at *
  generalize (c : Rat) * pw b e = x at *
  generalize (c' : Rat) * pw b e' = y at *
  rcases hs with rfl | rfl <;> rcases hs' with rfl | rfl
  · simpa using k1
  · rw [if_neg (by decide), if_pos rfl, if_neg (by decide), if_pos rfl]
    exact ⟨fun z => absurd z (by omega), fun z => by grind⟩
  · rw [if_pos rfl, if_neg (by decide), if_pos rfl, if_neg (by decide)]
    constructor
    · intro z
      by_cases hx : 0 < r
      · have := z1.mp hx; grind
      · have := z2.mp (by omega); grind
    · intro z
      by_cases hx : 0 < r
      · omega
      · have : ¬ 0 < x := fun y => hx (z1.mpr y)
        have := z2.mpr (by grind)
        omega
  · rw [if_pos rfl, if_pos rfl, if_pos rfl, if_pos rfl]
    constructor
    · intro z
      have := k2.mp (by omega); grind
    · intro z
      have := k2.mpr (by grind); omega
end Lw
namespace Gd
open PySem PySem.Spec PyProof.Rows L2
section
variable {X : Cx} {Γ : List VD} {B B1 B2 : Bag} {a b c e : Expr} {pos p pos' : Pos} {rest : List Stmt} {E : En} {elt : Expr} {scope : Scope} {j : Nat} {x : Str} {px : Pos} {d : VD}
theorem sj_setLcT (i : Nat) {y : Str} {py : Pos} (nd : X.N.Nodup) (hc : X.calm = true) (ok : BlkOk X.N X.env.scope scope [(x, j)])
    (hg : ∀ (s : Shared) (H : Hp) (C : Addr) (cl : List (Str × Addr)) (fp : List Addr), PG (X.blk s H scope (compEnvC scope cl C X.env) fp) (.Name x px) (gName j))
    (r : RJ X Γ B (tLc (iTup X.K (WE X e)) (gName j) tYes (WB X scope elt) [j]) d B1) (k : SJ X (Γ.set i d) B1 rest E)
    (hsw : swapsWith (.ListComp elt [⟨.Name x px, e, [], 0⟩] scope pos) (some (.Name y py)) pos'.line X.env = pure true) (hy : X.N[i]? = some y := by rfl) (hyl : X.env.scope.names.lookup y = some .local := by rfl)
    (hq : ∀ x, foldedSetIterable e X.env x = pure x := by intro _; rfl) : SJ X Γ B (.Assign [.Name y py] (.ListComp elt [⟨.Name x px, e, [], 0⟩] scope pos) pos' :: rest) E := fun g σ H0 H Ev O D G =>
  ⟨_, pss_cons (ps_setLc (i := i) (own := [(x, j)]) hc nd hy hyl hsw (pi_tup (we e)) ok hg (fun _ _ _ _ _ => pts_nil) (wb scope elt) hq) (ws rest),
    r g σ H0 H Ev O _ fun v H1 H' t o rv => k g _ H1 H' ((Ev.mono t.ex).set i rv) o D (G.on t)⟩
end
end Gd
namespace Gd
open PySem PySem.Spec PyProof.Rows L2
section
variable {X : Cx} {Γ : List VD} {B B1 B2 : Bag} {a b c e : Expr} {pos p pos' : Pos} {rest s1 : List Stmt} {E : En}
end
end Gd
set_option exponentiation.threshold 20000
namespace Lw
open PySem PySem.Spec PyProof.Rows L2 Gd Fr
open scoped Rat
def plI (v : Va) : Int := if v.isNum = true then 0 else 1 - 2 * v.sg
def cmpI (x y : Int) : Int := (if y < x then 1 else 0) - (if x < y then 1 else 0)
def ordI (b b' : Nat) (x y : Va) : Int := if plI x ≠ 0 ∨ plI y ≠ 0 then cmpI (plI x) (plI y) else cmp (x.wQ b) (y.wQ b')
def ordP (b b' : Nat) (x y : Va) : PyData := if x.isNan = true ∨ y.isNan = true then .none else .int (ordI b b' x y)
inductive R_order : Rel
  | mk (b p : Nat) (low high : Int) (b' p' : Nat) (low' high' : Int) (x y : Va) (B : Bag) (F : Fm b p low high) (F' : Fm b' p' low' high') (hx : Vok b p low high x) (hy : Vok b' p' low' high' y) :
      R_order [.da (fmP b p low high), .da x.d, .da (fmP b' p' low' high'), .da y.d] B (ordP b b' x y) B
noncomputable instance instVa : DecidableEq Va := fun x y => Classical.propDecidable (x = y)
theorem eqv_nan (v : Va) : PyData.eqv v.d (.tuple [.str "nan"]) = v.isNan := by
  cases v with
  | nan => rfl
  | inf s => rfl
  | num s c e => rfl
section
variable {b p : Nat} {low high : Int} (F : Fm b p low high)
include F
theorem rkS_zero {s c e : Int} (h : Can b p low c e) (h0 : rkS b p low high (.num s c e) = 0) : c = 0 ∧ e = low := by
  have f1 := F.rkf.f1
  obtain ⟨h1, h2, h3, _⟩ := h
  have e1 : rkS b p low high (.num s c e) = c + (e - low) * fmI b p := rfl
  rw [e1] at h0
  have : 0 ≤ (e - low) * fmI b p := Int.mul_nonneg (by omega) (by omega)
  have h4 : (e - low) * fmI b p = 0 := by omega
  rcases Int.mul_eq_zero.mp h4 with h | h
  · exact ⟨by omega, by omega⟩
  · omega
theorem rk_num_lt {s c e : Int} (h : Can b p low c e) (he : e ≤ high) : -mostI b p low high < rkI b p low high (.num s c e) ∧ rkI b p low high (.num s c e) < mostI b p low high := by
  have := rkS_num F (s := s) h he
  unfold rkI
  split <;> omega
omit F in
theorem rk_i0 : rkI b p low high (.inf 0) = mostI b p low high := rfl
omit F in
theorem rk_i1 : rkI b p low high (.inf 1) = -mostI b p low high := rfl
omit F in
theorem rk_n0 (c e : Int) : rkI b p low high (.num 0 c e) = rkS b p low high (.num 0 c e) := rfl
omit F in
theorem rk_n1 (c e : Int) : rkI b p low high (.num 1 c e) = -rkS b p low high (.num 1 c e) := rfl
theorem at_rank {v : Va} (hv : Vcan b p low high v) (hn : v.isNan = false) : atV b p low high (rkI b p low high v) = some (if rkI b p low high v = 0 then .num 0 0 low else v) := by
  have mp := most_pos F
  unfold atV
  cases v with
  | nan => cases hn
  | inf s =>
    have hs : s = 0 ∨ s = 1 := hv
    rcases hs with rfl | rfl
    · rw [rk_i0]
      have ha : absI (mostI b p low high) = mostI b p low high := by unfold absI; rw [if_neg (by omega)]
      rw [ha, at_inf F]
      show some (if mostI b p low high < 0 then Va.opp (.inf 0) else .inf 0) = _
      rw [if_neg (by omega), if_neg (by omega)]
    · rw [rk_i1]
      have ha : absI (-mostI b p low high) = mostI b p low high := by unfold absI; rw [if_pos (by omega), Int.neg_neg]
      rw [ha, at_inf F]
      show some (if -mostI b p low high < 0 then Va.opp (.inf 0) else .inf 0) = _
      rw [if_pos (by omega), if_neg (by omega)]; rfl
  | num s c e =>
    obtain ⟨hs, hC, he⟩ := hv
    have hr := rkS_num F (s := s) hC he
    rcases hs with rfl | rfl
    · rw [rk_n0]
      have ha : absI (rkS b p low high (.num 0 c e)) = rkS b p low high (.num 0 c e) := by unfold absI; rw [if_neg (by omega)]
      rw [ha, at_num F hC he]
      show some (if rkS b p low high (.num 0 c e) < 0 then Va.opp (.num 0 c e) else .num 0 c e) = _
      rw [if_neg (by omega)]
      by_cases hz : rkS b p low high (.num 0 c e) = 0
      · obtain ⟨rfl, rfl⟩ := rkS_zero F hC hz
        rw [if_pos hz]
      · rw [if_neg hz]
    · rw [rk_n1]
      have ha : absI (-rkS b p low high (.num 1 c e)) = rkS b p low high (.num 1 c e) := by unfold absI; split <;> omega
      rw [ha, at_num F hC he]
      show some (if -rkS b p low high (.num 1 c e) < 0 then Va.opp (.num 0 c e) else .num 0 c e) = _
      by_cases hz : rkS b p low high (.num 1 c e) = 0
      · rw [hz, if_neg (by decide), if_pos (by decide)]
        obtain ⟨rfl, rfl⟩ := rkS_zero F hC hz; rfl
      · rw [if_pos (by omega), if_neg (by omega)]; rfl
omit F in
theorem rk_inf {s : Int} (hs : s = 0 ∨ s = 1) : rkI b p low high (.inf s) = if s = 1 then -mostI b p low high else mostI b p low high := rfl
theorem zero_can {s : Int} (hs : s = 0 ∨ s = 1) : Vcan b p low high (.num s 0 low) := by
  have R := F.rkf
  have l2 := R.l2; have fl := R.fl; have f1 := R.f1
  exact ⟨hs, ⟨Int.le_refl _, by omega, Int.le_refl _, .inl rfl⟩, F.lh⟩
theorem ord_rk {x y : Va} (hx : Vcan b p low high x) (hy : Vcan b p low high y) (nx : x.isNan = false) (ny : y.isNan = false) : ordI b b x y = cmpI (rkI b p low high x) (rkI b p low high y) := by
  have mp := most_pos F
  unfold ordI
  cases x with
  | nan => cases nx
  | num s c e =>
    obtain ⟨hs, hC, he⟩ := hx
    have b1 := rk_num_lt F (s := s) hC he
    cases y with
    | nan => cases ny
    | num s' c' e' =>
      obtain ⟨hs', hC', he'⟩ := hy
      rw [if_neg (by rintro (z | z) <;> exact z rfl)]
      have k1 := rk_lt F hs hs' hC he hC' he'
      have k2 := rk_lt F hs' hs hC' he' hC he
      unfold cmp cmpI
      by_cases h1 : (Va.num s c e).wQ b < (Va.num s' c' e').wQ b
      · have := k1.mpr h1
        rw [if_pos h1, if_neg (by omega), if_pos this]; rfl
      · rw [if_neg h1, if_neg (show ¬ rkI b p low high (.num s c e) < rkI b p low high (.num s' c' e') from fun z => h1 (k1.mp z))]
        by_cases h2 : (Va.num s' c' e').wQ b < (Va.num s c e).wQ b
        · rw [if_pos h2, if_pos (k2.mpr h2)]; rfl
        · rw [if_neg h2, if_neg (fun z => h2 (k2.mp z))]; rfl
    | inf t =>
      have ht : t = 0 ∨ t = 1 := hy
      rw [rk_inf ht]
      rcases ht with rfl | rfl
      · rw [if_pos (.inr (by decide)), if_neg (by decide)]
        show cmpI 0 1 = _
        unfold cmpI; rw [if_neg (show ¬ mostI b p low high < rkI b p low high (.num s c e) by omega), if_pos b1.2]; rfl
      · rw [if_pos (.inr (by decide)), if_pos rfl]
        show cmpI 0 (-1) = _
        unfold cmpI; rw [if_pos b1.1, if_neg (show ¬ rkI b p low high (.num s c e) < -mostI b p low high by omega)]; rfl
  | inf t =>
    have ht : t = 0 ∨ t = 1 := hx
    rw [rk_inf ht]
    cases y with
    | nan => cases ny
    | num s c e =>
      obtain ⟨hs, hC, he⟩ := hy
      have b1 := rk_num_lt F (s := s) hC he
      rcases ht with rfl | rfl
      · rw [if_pos (.inl (by decide)), if_neg (by decide)]
        show cmpI 1 0 = _
        unfold cmpI; rw [if_pos b1.2, if_neg (show ¬ mostI b p low high < rkI b p low high (.num s c e) by omega)]; rfl
      · rw [if_pos (.inl (by decide)), if_pos rfl]
        show cmpI (-1) 0 = _
        unfold cmpI; rw [if_neg (show ¬ rkI b p low high (.num s c e) < -mostI b p low high by omega), if_pos b1.1]; rfl
    | inf u =>
      have hu : u = 0 ∨ u = 1 := hy
      rw [rk_inf hu]
      have e1 : plI (.inf t) ≠ 0 := by rcases ht with rfl | rfl <;> decide
      rw [if_pos (.inl e1)]
      rcases ht with rfl | rfl <;> rcases hu with rfl | rfl
      · show cmpI 1 1 = cmpI (mostI b p low high) (mostI b p low high)
        unfold cmpI; rw [if_neg (Int.lt_irrefl _), if_neg (Int.lt_irrefl _)]
      · show cmpI 1 (-1) = cmpI (mostI b p low high) (-mostI b p low high)
        unfold cmpI; rw [if_pos (show -mostI b p low high < mostI b p low high by omega), if_neg (show ¬ mostI b p low high < -mostI b p low high by omega)]; rfl
      · show cmpI (-1) 1 = cmpI (-mostI b p low high) (mostI b p low high)
        unfold cmpI; rw [if_pos (show -mostI b p low high < mostI b p low high by omega), if_neg (show ¬ mostI b p low high < -mostI b p low high by omega)]; rfl
      · show cmpI (-1) (-1) = cmpI (-mostI b p low high) (-mostI b p low high)
        unfold cmpI; rw [if_neg (Int.lt_irrefl _), if_neg (Int.lt_irrefl _)]
end
theorem eqv_00 (i j : Int) : PyData.eqv (.list [.int i, .int j]) (.list [.int 0, .int 0]) = (decide (i = 0) && decide (j = 0)) := by
  simp only [PyData.eqv, PyData.eqvAll, Bool.and_true]
  rw [← eqv_int, ← eqv_int]
  simp only [PyData.eqv]
theorem plI_num {v : Va} (hn : v.isNan = false) (hs : v.sg = 0 ∨ v.sg = 1) (h : plI v = 0) : v.isNum = true := by
  unfold plI at h
  cases hv : v.isNum with
  | true => rfl
  | false => rw [hv, if_neg (by decide)] at h; omega
end Lw
namespace Gd
open PySem PySem.Spec PyProof.Rows L2
section
variable {X : Cx} {Γ : List VD} {B B1 B2 : Bag} {a b c e : Expr} {pos p pos' : Pos} {rest s1 : List Stmt} {E : En}
end
end Gd
set_option exponentiation.threshold 20000
namespace Lw
open PySem PySem.Spec PyProof.Rows L2 Gd Fr
open scoped Rat
section
variable {b p : Nat} {low high : Int} (F : Fm b p low high)
include F
end
section
variable {b p : Nat} {low high : Int} (F : Fm b p low high)
include F
end
end Lw
set_option exponentiation.threshold 20000
namespace Lw
open PySem PySem.Spec PyProof.Rows L2 Gd Fr
open scoped Rat
theorem cmp_self (x : Rat) : cmp x x = 0 := by unfold cmp; rw [if_neg Rat.lt_irrefl, if_neg Rat.lt_irrefl]
theorem cmp_int (i j : Int) : cmp (i : Rat) (j : Rat) = cmpI i j := by
  unfold cmp cmpI
  by_cases h1 : i < j
  · rw [if_pos (cast_lt.mpr h1), if_pos h1, if_neg (by omega)]; rfl
  · rw [if_neg (fun z => h1 (cast_lt.mp z)), if_neg h1]
    by_cases h2 : j < i
    · rw [if_pos (cast_lt.mpr h2), if_pos h2]; rfl
    · rw [if_neg (fun z => h2 (cast_lt.mp z)), if_neg h2]; rfl
theorem ord_num {b b' : Nat} {s c e s' c' e' : Int} : ordI b b' (.num s c e) (.num s' c' e') = cmp ((Va.num s c e).wQ b) ((Va.num s' c' e').wQ b') := by
  unfold ordI
  rw [if_neg (by rintro (z | z) <;> exact z rfl)]
def exQ (b p : Nat) (low high : Int) (x : Rat) : Prop := rQ b (eQ b p low (absQ x)) (absQ x) = 0 ∧ eQ b p low (absQ x) ≤ high
section
variable {b p : Nat} {low high : Int} (F : Fm b p low high)
include F
theorem rk_inj {u v : Va} (hu : Vcan b p low high u) (hv : Vcan b p low high v) (nu : u.isNan = false) (nv : v.isNan = false) (hs : u.sg = v.sg) (h : rkI b p low high u = rkI b p low high v) : u = v := by
  have a1 := at_rank F hu nu
  have a2 := at_rank F hv nv
  rw [h] at a1
  rw [a1] at a2
  have a2 := Option.some.inj a2
  by_cases hz : rkI b p low high v = 0
  · have mp := most_pos F
    have key : ∀ {w : Va}, Vcan b p low high w → w.isNan = false → rkI b p low high w = 0 → w = .num w.sg 0 low := by
      intro w hw nw h0
      cases w with
      | nan => cases nw
      | inf s =>
        rw [rk_inf hw] at h0
        split at h0 <;> omega
      | num s c e =>
        have h1 : rkS b p low high (.num s c e) = 0 := by
          unfold rkI at h0
          split at h0 <;> omega
        obtain ⟨rfl, rfl⟩ := rkS_zero F hw.2.1 h1
        rfl
    rw [key hu nu (h.trans hz), key hv nv hz, hs]
  · rw [if_neg hz, if_neg hz] at a2
    exact a2
end
end Lw
namespace Lw
open PySem PySem.Spec PyProof.Rows L2 Gd Fr
end Lw
namespace Gd
open PySem PySem.Spec PyProof.Rows L2
section
variable {X : Cx} {Γ : List VD} {B B1 B2 : Bag} {a b c e elt : Expr} {scope : Scope} {pos p pos' : Pos} {rest s1 : List Stmt} {E : En} {d : VD}
theorem ej_lcFZ {j1 j2 : Nat} {x1 x2 : Str} {ts : List Expr} {kt : Nat} {pt pz pc : Pos} (nd : X.N.Nodup) (hc : X.calm = true) (hm : X.mg "zip" = none) (ok : BlkOk X.N X.env.scope scope [(x1, j1), (x2, j2)])
    (hg : ∀ (s : Shared) (H : Hp) (C : Addr) (cl : List (Str × Addr)) (fp : List Addr), PG (X.blk s H scope (compEnvC scope cl C X.env) fp) (.Tuple ts kt pt) (gTup X.K 2 (gNames [j1, j2])))
    (r : RJ X Γ B (tLc (iZip X.K (WA X [a, b])) (gTup X.K 2 (gNames [j1, j2])) (WTB X scope c) (WB X scope elt) [j1, j2]) d B1)
    (hq : ∀ x, foldedSetIterable (.Call (.Name "zip" pz) [a, b] [] pc) X.env x = pure x := by intro _; rfl) (hst1 : starEach [a, b] X.env = (false, eval a X.env) :: starEach [b] X.env := by rfl) (hpl : (backTo pc (starEach [b] X.env)).any (·.1) = false := by rfl) (hgl : Gl X "zip" := by rfl) :
    EJ X Γ B (.ListComp elt [⟨.Tuple ts kt pt, .Call (.Name "zip" pz) [a, b] [] pc, [c], 0⟩] scope pos) d B1 :=
  ej_of (pe_lc (own := [(x1, j1), (x2, j2)]) hc nd (pi_zip hgl hm (wa [a, b]) hst1 hpl) ok hg (fun s H C cl fp => pts_one (wtb scope c s H C cl fp)) (wb scope elt) hq) r
end
end Gd
set_option exponentiation.threshold 20000
namespace Lw
open PySem PySem.Spec PyProof.Rows L2 Gd Fr
open scoped Rat
section
variable {b p : Nat} {low high : Int} (F : Fm b p low high)
include F
end
end Lw
namespace Lw
end Lw
namespace Gd
open PySem PySem.Spec PyProof.Rows L2
def tyN : PyData → Option String
  | .none => some "NoneType"
  | .bool _ => some "bool"
  | .int _ => some "int"
  | .str _ => some "str"
  | .list _ => some "list"
  | .tuple _ => some "tuple"
  | .dict _ => some "dict"
section
variable {X : Cx} {Γ : List VD} {B B1 B2 : Bag} {e c elt a b : Expr} {scope : Scope} {acc : List PyData} {pos pos' p p' : Pos} {rest : List Stmt} {E : En} {d : VD}
theorem rp_ty {K : PySem.W.Frag} {H0 H : Hp} (ex : Same H0 H) {v : V} {y : PyData} {t : String} (r : Rp K H0 v y) (h : tyN y = some t) : TyX K H v (.type t) := by
  cases r with
  | non => cases h; exact .base .non
  | bl b => cases h; exact .base (.bl b)
  | int i => cases h; exact .base (.int i)
  | str x => cases h; exact .base (.str x)
  | lst hx _ => cases h; exact .base (.lst (ex _ _ hx))
  | tup hx _ =>
    cases h
    rcases hx with (hh | ⟨ob, hh⟩) | hh
    · exact .base (.tup (ex _ _ hh))
    · exact .fTuple (ex _ _ hh)
    · obtain ⟨ob, its, n, h1, h2, _⟩ := hh; exact .kTuple h1 h2
  | dct hx => cases h; exact .base (.dK (ex _ _ hx))
  | dctT kvs hx => cases h; exact .base (.dT (ex _ _ hx))
theorem ej_isi {x : Str} {T t : String} {r : Bool} {y : PyData} (hm : X.mg "isinstance" = none) (hmT : X.mg x = none) (ha : EJ X Γ B a (.da y) B1) (ht : tyN y = some t := by rfl) (hk : kitB t T = some r := by decide +kernel)
    (hv : bootBuiltins x = some (.type T) := by decide +kernel) (hgT : Gl X x := by rfl) (hn : x ≠ "__name__" := by decide) (hdb : (x == ("__debug__" : Str)) = false := by decide)
    (hs : starEach [a, .Name x p'] X.env = (false, eval a X.env) :: starEach [.Name x p'] X.env := by rfl) (hs2 : starEach [.Name x p'] X.env = (false, eval (.Name x p') X.env) :: starEach [] X.env := by rfl)
    (hpl : (backTo pos (starEach [.Name x p'] X.env)).any (·.1) = false := by rfl) (hg : Gl X "isinstance" := by rfl) :
    EJ X Γ B (.Call (.Name "isinstance" p) [a, .Name x p'] [] pos) (.da (.bool r)) B1 := fun g σ H0 H Ev O Q q =>
  ⟨_, pe_callB call_isi hg hm (by decide +kernel) (pa_cons (we a) (pa_cons (pe_bltn (v := .ty T) hgT hmT hv rfl hn hdb) pa_nil hs2) hs) (by decide) (by decide) hs hpl,
   ha g σ H0 H Ev O _ fun v H1 H' t1 o rv => ⟨v, .ty T, .type t, .type T, r, rfl, .ty T, rp_ty o.ex rv ht, kit_ty hk, q _ _ _ t1 o (Rp.bl r)⟩⟩
end
end Gd
set_option exponentiation.threshold 20000
namespace Lw
open PySem PySem.Spec PyProof.Rows L2 Gd Fr
open scoped Rat
noncomputable instance exQ_dec (b p : Nat) (low high : Int) (x : Rat) : Decidable (exQ b p low high x) := by unfold exQ; infer_instance
section
variable {b p : Nat} {low high : Int} {b' p' : Nat} {low' high' : Int} (F : Fm b p low high) (F' : Fm b' p' low' high')
include F F'
end
end Lw
set_option exponentiation.threshold 20000
namespace Lw
open PySem PySem.Spec PyProof.Rows L2 Gd Fr
open scoped Rat
end Lw
set_option exponentiation.threshold 20000
namespace Lw
open PySem PySem.Spec PyProof.Rows L2 Gd Fr
open scoped Rat
end Lw
namespace Gd
open PySem PySem.Spec PyProof.Rows L2
section
variable {X : Cx} {Γ : List VD} {B B1 B2 B3 : Bag} {e c elt a b o i f : Expr} {scope : Scope} {acc : List PyData} {pos pos' p p' : Pos} {rest : List Stmt} {E : En} {d : VD}
end
end Gd
namespace Gd
open PySem PySem.Spec PyProof.Rows L2
section
variable {X : Cx} {Γ : List VD} {B B1 B2 : Bag} {a b c e : Expr} {pos p pos' : Pos} {rest s1 : List Stmt} {E : En}
end
end Gd
set_option exponentiation.threshold 20000
namespace Lw
open PySem PySem.Spec PyProof.Rows L2 Gd Fr
open scoped Rat
def hqQ (b : Nat) (v : Va) : Rat := if v.isNum = true then v.wQ b else 0
section
variable {b p : Nat} {low high : Int} (F : Fm b p low high)
include F
end
end Lw
namespace Lw
open PySem PySem.Spec PyProof.Rows L2 Gd Fr
open scoped Rat
theorem cut1 (ds : List PyData) : cutP ds (some 1) none = ds.drop 1 := by
  cases ds with
  | nil => rfl
  | cons d ds =>
    have h1 : HT.sIx (d :: ds).length 0 (some 1) = 1 := by
      unfold HT.sIx
      simp
      try omega
    have h2 : HT.sIx (d :: ds).length (d :: ds).length none = (d :: ds).length := rfl
    unfold cutP
    rw [h1, h2]
    exact List.take_of_length_le (by simp)
end Lw
namespace Fr
open Gd PySem
open scoped Rat
def tw (k : Nat) (a : Int) : Int := 2 ^ k * (2 * a + 1)
theorem tw_of : ∀ (m : Nat) (n : Int), n.natAbs ≤ m → n ≠ 0 → ∃ k a, n = tw k a := by
  intro m
  induction m with
  | zero => intro n h hn; omega
  | succ m ih =>
    intro n h hn
    by_cases ho : n % 2 = 1
    · exact ⟨0, n / 2, by unfold tw; omega⟩
    · obtain ⟨k, a, e⟩ := ih (n / 2) (by omega) (by omega)
      refine ⟨k + 1, a, ?_⟩
      unfold tw at *
      rw [Int.pow_succ, Int.mul_comm _ 2, Int.mul_assoc, ← e]; omega
theorem tw_ex {n : Int} (h : n ≠ 0) : ∃ k a, n = tw k a := tw_of _ n (Nat.le_refl _) h
theorem tw_ne (k : Nat) (a : Int) : tw k a ≠ 0 := by
  unfold tw
  exact Int.mul_ne_zero (Int.ne_of_gt (Int.pow_pos (by decide))) (by omega)
theorem tw_low (k : Nat) (a : Int) : Builtin.bitAnd (tw k a) (-(tw k a)) = 2 ^ k := PySem.W.kbt_low k a
theorem bits_two (k : Nat) : ((Builtin.Int.intBits ((2 : Int) ^ k) : Nat) : Int) - 1 = (k : Int) := by
  have e : ((2 : Int) ^ k) = ((2 ^ k : Nat) : Int) := by rw [Int.natCast_pow]; rfl
  have p : 0 < 2 ^ k := Nat.pow_pos (by decide)
  unfold Builtin.Int.intBits
  rw [e, if_neg (by rw [beq_iff_eq]; omega), Int.natAbs_natCast, Nat.log2_two_pow]
  omega
theorem tw_shr {j k : Nat} (h : j ≤ k) (a : Int) : tw k a / 2 ^ j = tw (k - j) a := by
  unfold tw
  have e : (2 : Int) ^ k = 2 ^ j * 2 ^ (k - j) := by rw [← Int.pow_add]; congr 1; omega
  rw [e, Int.mul_assoc]
  exact Int.mul_ediv_cancel_left _ (Int.ne_of_gt (Int.pow_pos (by decide)))
theorem tw_zero (a : Int) : tw 0 a = 2 * a + 1 := by unfold tw; omega
theorem tw_split {j k : Nat} (h : j ≤ k) (a : Int) : tw k a = 2 ^ j * tw (k - j) a := by
  unfold tw
  rw [← Int.mul_assoc, ← Int.pow_add]; congr 2; omega
theorem gcd_odd {n : Int} (k : Nat) (b : Int) (h : n % 2 = 1 ∨ k = 0) : Nat.gcd n.natAbs (tw k b).natAbs = Nat.gcd n.natAbs (tw 0 b).natAbs := by
  rcases h with h | rfl
  · have e : (tw k b).natAbs = 2 ^ k * (tw 0 b).natAbs := by
      unfold tw; rw [Int.natAbs_mul, Int.natAbs_pow, Int.pow_zero, Int.one_mul]; rfl
    rw [e]
    have c : Nat.Coprime n.natAbs (2 ^ k) := by
      refine Nat.Coprime.pow_right _ ?_
      rw [Nat.coprime_comm]
      have : n.natAbs % 2 = 1 := by omega
      rw [Nat.Coprime, Nat.gcd_rec, this]; decide
    exact Nat.Coprime.gcd_mul_left_cancel_right _ c.symm
  · rfl
theorem tw_odd (a : Int) : tw 0 a % 2 = 1 := by rw [tw_zero]; omega
theorem bd_tw {m j k : Nat} {a : Int} (h : Bd m (tw k a)) (hj : j ≤ k) : Bd m (tw j a) := by
  unfold Bd tw at *
  rw [Int.natAbs_mul, Int.natAbs_pow] at *
  refine Nat.lt_of_le_of_lt (Nat.mul_le_mul_right _ ?_) h
  exact Nat.pow_le_pow_right (by decide) hj
theorem divInt_tw {i j t : Nat} (hi : t ≤ i) (hj : t ≤ j) (a b : Int) : tw i a /. tw j b = tw (i - t) a /. tw (j - t) b := by
  rw [tw_split hi, tw_split hj, Rat.divInt_mul_left (Int.ne_of_gt (Int.pow_pos (by decide)))]
end Fr
namespace Gd
open PySem PySem.Spec PyProof.Rows L2
section
variable {X : Cx} {Γ : List VD} {B B1 B2 B3 B' : Bag} {e a b c : Expr} {es : List Expr} {d da db dc : VD} {pos p pos' apos : Pos} {rest ss s1 s2 : List Stmt} {E : En}
theorem ej_band {i j : Int} (ha : EJ X Γ B a (.da (.int i)) B1) (hb : EJ X Γ B1 b (.da (.int j)) B2) : EJ X Γ B (.BinOp a .BitAnd b pos) (.da (.int (Builtin.bitAnd i j))) B2 :=
  ej_ii ha hb op_and fun _ => .int _
theorem ej_shr {i : Int} {k : Nat} (ha : EJ X Γ B a (.da (.int i)) B1) (hb : EJ X Γ B1 b (.da (.int (k : Int))) B2) : EJ X Γ B (.BinOp a .RShift b pos) (.da (.int (i / 2 ^ k))) B2 :=
  ej_iic ha hb op_shr (Int.natCast_nonneg k) fun _ => .int _
theorem ej_bits {i : Int} (ha : EJ X Γ B a (.da (.int i)) B1) (hbase : attributeBase a "bit_length" X.env (eval a X.env) = eval a X.env := by rfl) (hline : (apos.endLine == pos.line) = true := by rfl) :
    EJ X Γ B (.Call (.Attribute a "bit_length" apos) [] [] pos) (.da (.int (Builtin.Int.intBits i : Nat))) B1 := fun g σ H0 H E O Q q =>
  ⟨_, pe_bits (we a) hbase hline, ha g σ H0 H E O _ fun v H1 H' t o r => ⟨i, rvI r, q _ H1 H' t o (Rp.int _)⟩⟩
end
end Gd
namespace Lw
open PySem PySem.Spec PyProof.Rows L2 Gd Fr
open scoped Rat
inductive R_twos : Rel
  | mk (k : Nat) (a : Int) (B : Bag) : R_twos [.da (.int (tw k a))] B (.int (k : Int)) B
theorem fq_cop {n : Int} {d : Nat} (hd : d ≠ 0) (h : Nat.Coprime n.natAbs d) : fq (n /. (d : Int)) = .tuple [.int n, .int (d : Int)] := by
  have hd' : (d : Int) ≠ 0 := by omega
  have c1 : com n (d : Int) = 1 := by
    unfold com
    rw [if_neg (by omega), Int.natAbs_natCast, h.gcd_eq_one]; rfl
  have e1 := red_num (n := n) hd'
  have e2 := red_den (n := n) hd'
  rw [c1, Int.fdiv_one] at e1 e2
  unfold fq
  rw [← e1, ← e2]
theorem div_eq {n d n' d' : Int} (h : d ≠ 0) (h' : d' ≠ 0) (e : n * d' = n' * d) : n /. d = n' /. d' := (Rat.divInt_eq_divInt_iff h h').mpr e
theorem div_cross {n d : Int} (h : d ≠ 0) : n * ((n /. d).den : Int) = (n /. d).num * d := by
  have := (Rat.divInt_eq_divInt_iff h (den_ne (n /. d))).mp (self_div (n /. d)).symm
  exact this
theorem num_dvd {n d : Int} (h : d ≠ 0) : (n /. d).num.natAbs ∣ n.natAbs := by
  have e := congrArg Int.natAbs (div_cross (n := n) h)
  rw [Int.natAbs_mul, Int.natAbs_mul, Int.natAbs_natCast] at e
  have : (n /. d).num.natAbs ∣ n.natAbs * (n /. d).den := ⟨_, e⟩
  exact Nat.Coprime.dvd_of_dvd_mul_right (n /. d).reduced this
theorem den_dvd {n d : Int} (h : d ≠ 0) : (n /. d).den ∣ d.natAbs := by
  have e := congrArg Int.natAbs (div_cross (n := n) h)
  rw [Int.natAbs_mul, Int.natAbs_mul, Int.natAbs_natCast] at e
  have : (n /. d).den ∣ (n /. d).num.natAbs * d.natAbs := ⟨n.natAbs, by rw [← e, Nat.mul_comm]⟩
  exact Nat.Coprime.dvd_of_dvd_mul_left (n /. d).reduced.symm this
theorem mul_by (x y : Rat) : (.tuple [.int ((x.num /. (y.den : Int)).num * (y.num /. (x.den : Int)).num), .int (((y.num /. (x.den : Int)).den : Int) * ((x.num /. (y.den : Int)).den : Int))] : PyData) = fq (x * y) := by
  have c1 := div_cross (n := x.num) (den_ne y)
  have c2 := div_cross (n := y.num) (den_ne x)
  have d1 := num_dvd (n := x.num) (den_ne y)
  have d2 := den_dvd (n := x.num) (den_ne y)
  have d3 := num_dvd (n := y.num) (den_ne x)
  have d4 := den_dvd (n := y.num) (den_ne x)
  have r1 := (x.num /. (y.den : Int)).reduced
  have r2 := (y.num /. (x.den : Int)).reduced
  have p1 := (x.num /. (y.den : Int)).den_pos
  have p2 := (y.num /. (x.den : Int)).den_pos
  generalize x.num /. (y.den : Int) = u at *
  generalize y.num /. (x.den : Int) = v at *
  rw [Int.natAbs_natCast] at d2 d4
  have k1 : Nat.Coprime u.num.natAbs v.den := (x.reduced.coprime_dvd_left d1).coprime_dvd_right d4
  have k2 : Nat.Coprime v.num.natAbs u.den := (y.reduced.coprime_dvd_left d3).coprime_dvd_right d2
  have k : Nat.Coprime (u.num * v.num).natAbs (v.den * u.den) := by
    rw [Int.natAbs_mul]
    exact Nat.Coprime.mul_left (Nat.Coprime.mul_right k1 r1) (Nat.Coprime.mul_right r2 k2)
  have hne : v.den * u.den ≠ 0 := Nat.ne_of_gt (Nat.mul_pos p2 p1)
  have e := fq_cop hne k
  rw [← Int.natCast_mul, ← e, ← mul_div x y]
  congr 1
  refine div_eq (by omega) (Int.mul_ne_zero (den_ne x) (den_ne y)) ?_
  rw [Int.natCast_mul]
  have : u.num * (y.den : Int) * (v.num * (x.den : Int)) = x.num * (u.den : Int) * (y.num * (v.den : Int)) := by rw [c1, c2]
  grind
end Lw
namespace Gd
open PySem PySem.Spec PyProof.Rows L2
section
variable {X : Cx}
end
section
variable {X : Cx} {Γ : List VD} {B B1 B2 B3 B' : Bag} {e a b c : Expr} {es : List Expr} {d da db dc : VD} {pos p pos' apos : Pos} {kp : Pos} {rest ss s1 s2 : List Stmt} {E : En}
end
end Gd
namespace Gd
open PySem PySem.Spec PyProof.Rows L2
section
variable {X : Cx} {Γ : List VD} {B B1 B2 : Bag} {e c elt : Expr} {scope : Scope} {acc : List PyData} {pos pos' : Pos} {rest : List Stmt} {E : En} {d : VD}
end
end Gd
set_option exponentiation.threshold 20000
namespace Lw
open PySem PySem.Spec PyProof.Rows L2 Gd Fr
open scoped Rat
def lisD (t : Bool) (ds : List PyData) : PyData := if t = true then .list ds else .tuple ds
end Lw
namespace Gd
open PySem PySem.Spec PyProof.Rows L2
section
variable {P : Program} {w : World} {A : Around} {s : Shared} {E : Value → Shared → Prop}
end
section
variable {X : Cx} {Γ : List VD} {B B1 B2 B' : Bag} {e a b c : Expr} {es : List Expr} {d da db dc : VD} {pos p p' pos' : Pos} {rest ss s1 s2 : List Stmt} {E : En}
end
end Gd
namespace Gd
open PySem PySem.Spec PyProof.Rows L2
mutual
def lfree : PyData → Bool
  | .none => true
  | .bool _ => true
  | .int _ => true
  | .str _ => true
  | .list _ => false
  | .tuple xs => lfreeAll xs
  | .dict _ => true
def lfreeAll : List PyData → Bool
  | [] => true
  | x :: xs => lfree x && lfreeAll xs
end
def without (H : Hp) (a : Addr) : Hp := fun b => if b = a then none else H b
section
variable {K : PySem.W.Frag} {H : Hp} {a : Addr} {zs : List V}
theorem seqT_without (hz : H a = some (.lst zs)) {b : Addr} {xs : List V} (h : SqT K H b xs) : SqT K (without H a) b xs := by
  rcases h with (hh | ⟨ob, hh⟩) | hh
  · refine .inl (.inl ?_)
    have hb : b ≠ a := fun z => by rw [z, hz] at hh; cases hh
    unfold without; rw [if_neg hb]; exact hh
  · refine .inl (.inr ⟨ob, ?_⟩)
    have hb : b ≠ a := fun z => by rw [z, hz] at hh; cases hh
    unfold without; rw [if_neg hb]; exact hh
  · exact .inr hh
mutual
theorem Rp.without (hz : H a = some (.lst zs)) : ∀ {v : V} {d : PyData}, lfree d = true → Rp K H v d → Rp K (without H a) v d
  | _, _, _, .non => .non
  | _, _, _, .bl b => .bl b
  | _, _, _, .int i => .int i
  | _, _, _, .str x => .str x
  | _, _, h, .lst _ _ => by simp only [lfree] at h; cases h
  | _, _, h, .tup q r => .tup (seqT_without hz q) (RpAll.without hz (by simp only [lfree] at h; exact h) r)
  | _, _, _, .dct q => .dct (by
    unfold Gd.without
    rw [if_neg (fun z => by rw [z, hz] at q; cases q)]; exact q)
  | _, _, _, .dctT kvs q => .dctT kvs (by
    unfold Gd.without
    rw [if_neg (fun z => by rw [z, hz] at q; cases q)]; exact q)
theorem RpAll.without (hz : H a = some (.lst zs)) : ∀ {vs : List V} {ds : List PyData}, lfreeAll ds = true → RpAll K H vs ds → RpAll K (without H a) vs ds
  | _, _, _, .nil => .nil
  | _, _, h, .cons q r => by
    simp only [lfreeAll, Bool.and_eq_true] at h
    exact .cons (Rp.without hz h.1 q) (RpAll.without hz h.2 r)
end
end
theorem Own.thaw {K : PySem.W.Frag} {i : Nat} {g : Gh} {A0 A1 : Hp} {a : Addr} {B B1 : Bag} {Γ : List VD} {acc : List PyData} {σ : L2.St} {H0 H : Hp} (O : Own K i g A0 A1 a B Γ acc σ H0 H) {zs : List V} (hz : H a = some (.lst zs)) (rz : RpAll K H0 zs acc)
    {H2 H' : Hp} (t : To g (upd H0 a (.lst zs)) H H2 H') (o : On K g B1 H2 H') :
    Own K i g A0 A1 a B1 Γ acc σ (without H2 a) H' ∧ Same H0 (without H2 a) ∧ H2 a = some (.lst zs) := by
  have h2 : H2 a = some (.lst zs) := t.ex _ _ upd_same
  have sm : Same H0 (without H2 a) := fun b u e => by
    have hb : b ≠ a := fun z => by rw [z, O.no] at e; cases e
    unfold without; rw [if_neg hb]
    exact t.ex _ _ (by rw [upd_ne hb]; exact e)
  refine ⟨⟨⟨O.to.ex.trans sm, fun b u f q1 q2 => ?_⟩, O.fr, O.off, O.ev.mono sm, O.at', ?_, ⟨zs, o.ex _ _ h2, rz.mono sm⟩, ⟨fun b u e => ?_, fun b l e => ?_⟩⟩, sm, h2⟩
  · have hb : b ≠ a := fun z => by rw [z, O.fr] at q2; cases q2
    obtain ⟨p1, p2⟩ := O.to.un b u f q1 q2
    obtain ⟨p3, p4⟩ := t.un b u f (by rw [upd_ne hb]; exact p1) p2
    exact ⟨by unfold Gd.without; rw [if_neg hb]; exact p3, p4⟩
  · unfold without; rw [if_pos rfl]
  · unfold without at e
    by_cases hb : b = a
    · rw [if_pos hb] at e; cases e
    · rw [if_neg hb] at e; exact o.ex _ _ e
  · obtain ⟨p1, p2, p3⟩ := o.bag b l e
    obtain ⟨_, _, q3⟩ := O.on.bag b l e
    have hb : b ≠ a := fun z => O.off l (z ▸ e)
    have hl : l ≠ a := fun z => by rw [z, O.no] at q3; cases q3
    -- the bag's list stays where it stood
    refine ⟨by unfold Gd.without; rw [if_neg hb]; exact p1, p2, by unfold Gd.without; rw [if_neg hl]; exact p3⟩
def OEJ (X : Cx) (i : Nat) (Γ : List VD) (B : Bag) (acc : List PyData) (e : Expr) (y : PyData) (B' : Bag) : Prop :=
  ∀ g σ A0 A1 a H0 H, Own X.K i g A0 A1 a B Γ acc σ H0 H → ∀ Q : VK, (∀ v H0' H', Own X.K i g A0 A1 a B' Γ acc σ H0' H' → Same H0 H0' → Rp X.K H0' v y → Q v H') → WE X e σ H Q
section
variable {X : Cx} {i : Nat} {Γ : List VD} {B B1 B2 B' : Bag} {acc ds : List PyData} {e e2 a b c : Expr} {es : List Expr} {d da db : VD} {y y2 : PyData} {pos p p1 p2 p3 pos' : Pos} {rest ss s1 s2 : List Stmt} {E : EnO}
theorem oe_ej (h : EJ X Γ B e (.da y) B1) : OEJ X i Γ B acc e y B1 := fun g σ A0 A1 a H0 H w Q q =>
  h g σ H0 H w.ev w.on _ fun v H1 H' t o r => q v H1 H' (w.step t o) t.ex r
theorem oe_fz (h : EJ X (Γ.set i (.da (.list acc))) B e (.da y) B1) (hy : lfree y = true) : OEJ X i Γ B acc e y B1 := fun g σ A0 A1 a H0 H w Q q => by
  obtain ⟨zs, hz, rz⟩ := w.ls
  have sm : Same H0 (upd H0 a (.lst zs)) := fun b o e => by
    rw [upd_ne fun z : b = a => by rw [z, w.no] at e; cases e]; exact e
  have ev : EnvD X.K g (upd H0 a (.lst zs)) σ (Γ.set i (.da (.list acc))) := by
    have e := (w.ev.mono sm).set (v := .ref a) (d := .da (.list acc)) i (Rp.lst upd_same (rz.mono sm))
    have es : σ.set i (some (.ref a)) = σ := by
      apply List.ext_getElem?
      intro j
      by_cases hj : i = j
      · subst hj
        rw [List.getElem?_set_self (List.getElem?_eq_some_iff.mp w.at').1, w.at']
      · rw [List.getElem?_set_ne hj]
    rw [es] at e; exact e
  have on : On X.K g B (upd H0 a (.lst zs)) H := ⟨fun b o e => by
    by_cases hb : b = a
    · subst hb; rw [upd_same] at e; rw [hz]; exact e
    · rw [upd_ne hb] at e; exact w.on.ex b o e, fun b l e => by
    obtain ⟨p, q, r⟩ := w.on.bag b l e
    have hb : b ≠ a := fun z => w.off l (z ▸ e)
    have hl : l ≠ a := fun z => by rw [z, w.no] at r; cases r
    exact ⟨by rw [upd_ne hb]; exact p, q, by rw [upd_ne hl]; exact r⟩⟩
  refine h g σ _ H ev on _ fun v H2 H' t o r => ?_
  obtain ⟨w2, s2, h2⟩ := w.thaw hz rz t o
  exact q v _ H' w2 s2 (Rp.without h2 hy r)
theorem ow_ins {x : Str} {k0 : Nat} (nd : X.N.Nodup) (h : OEJ X i Γ B acc e (.int (k0 : Int)) B1) (hh : OEJ X i Γ B1 acc e2 y B2) (hl : acc.length < 1000) (hk : k0 < 100000) (k : OwJ X i Γ B2 (acc.take k0 ++ [y] ++ acc.drop k0) rest E) (hi : X.N[i]? = some x := by rfl)
    (hv : Vis X.env.scope x := by first | exact Or.inl rfl | exact Or.inr (Or.inl rfl) | exact Or.inr (Or.inr rfl))
    (h1 : (x == ("__debug__" : Str)) = false := by decide) (h2 : (x == ("__classdict__" : Str)) = false := by decide)
    (hbase : attributeBase (.Name x p1) "insert" X.env (eval (.Name x p1) X.env) = eval (.Name x p1) X.env := by rfl)
    (hfew : ((backTo p3 (starEach [e, e2] X.env)).all (fun x => !x.1) && (backToKw p3 (keywordEach [] X.env)).all (fun x => x.1.isSome)
      && decide ([e, e2].length + ([] : List Keyword).length + (if ([] : List Keyword).isEmpty then 0 else 1) < 30)) = true := by rfl)
    (hline : (p2.endLine == p3.line) = true := by rfl) (hst : starEach [e, e2] X.env = (false, eval e X.env) :: starEach [e2] X.env := by rfl) (hst2 : starEach [e2] X.env = (false, eval e2 X.env) :: starEach [] X.env := by rfl)
    (hpl : (backTo p3 (starEach [e2] X.env)).any (·.1) = false := by rfl)
    (hs : swapsWith (.Call (.Attribute (.Name x p1) "insert" p2) [e, e2] [] p3) none pos.line X.env = pure false := by rfl) :
    OwJ X i Γ B acc (.Expr (.Call (.Attribute (.Name x p1) "insert" p2) [e, e2] [] p3) pos :: rest) E := fun g σ A0 A1 a H0 H w D G =>
  ⟨_, pss_cons (ps_expr (pe_bm PySem.F.plainAttrs_list PySem.F.slot_list_insert PySem.F.type_list_insert mt_insert (pe_var hi hv h1 h2) (pa_cons (we e) (pa_cons (we e2) pa_nil hst2) hst) hbase hfew hline hst hpl) hs) (ws rest), by
    obtain ⟨zs, hz, rz⟩ := w.ls
    refine ⟨_, w.at', .inl ⟨rfl, _, SqL.of hz⟩, ?_⟩
    refine h g σ A0 A1 a H0 H w _ fun v0 H1 H1' w1 sm1 rv0 => ?_
    refine hh g σ A0 A1 a H1 H1' w1 _ fun v H2 H' w2 sm2 rv => ?_
    cases rv0
    obtain ⟨zs2, hz2, rz2⟩ := w2.ls
    refine ⟨a, zs2, (k0 : Int), v, rfl, rfl, hz2, by rw [rz2.length]; exact small1000 (Nat.le_of_lt hl), by omega, by omega, ?_⟩
    rw [Int.toNat_natCast]
    refine k g σ A0 A1 a H2 _ ⟨⟨w2.to.ex, fun b u f q1 q2 => ?_⟩, w2.fr, w2.off, w2.ev, w2.at', w2.no, ⟨_, upd_same, ((rz2.take k0).app (.cons rv .nil)).app (rz2.drop k0)⟩, ⟨fun b u q => ?_, fun b l q => ?_⟩⟩ D (G.on (sm1.trans sm2))
    · obtain ⟨p, q⟩ := w2.to.un b u f q1 q2
      exact ⟨p, by rw [upd_ne (ne_of_none q2 w2.fr)]; exact q⟩
    · rw [upd_ne (ne_of_none q w2.no)]; exact w2.on.ex b u q
    · obtain ⟨p1, p2, p3⟩ := w2.on.bag b l q
      exact ⟨p1, by rw [upd_ne fun z : b = a => w2.off l (z ▸ q)]; exact p2, p3⟩⟩
end
end Gd
namespace Gd
open PySem PySem.Spec PyProof.Rows L2
abbrev Post := PyData → Bag → Prop
def EX (X : Cx) (Γ : List VD) (B : Bag) (e : Expr) (Φ : Post) : Prop :=
  ∀ g σ H0 H, EnvD X.K g H0 σ Γ → On X.K g B H0 H → ∀ Q : VK,
    (∀ v H0' H' y B', Φ y B' → To g H0 H H0' H' → On X.K g B' H0' H' → Rp X.K H0' v y → Q v H') → WE X e σ H Q
def AX (X : Cx) (Γ : List VD) (B : Bag) (es : List Expr) (Φ : List VD → Bag → Prop) : Prop :=
  ∀ g σ H0 H, EnvD X.K g H0 σ Γ → On X.K g B H0 H → ∀ Q : List V → Hp → Prop,
    (∀ vs H0' H' ds B', Φ ds B' → To g H0 H H0' H' → On X.K g B' H0' H' → RvAll X.K g H0' vs ds → Q vs H') → WA X es σ H Q
def DefSpX (K : PySem.W.Frag) (Pre : List VD → Bag → Prop) (Po : List VD → Bag → Post) : Sp := fun vs H Q _ =>
  ∃ g Γ B H0, RvAll K g H0 vs Γ ∧ On K g B H0 H ∧ Pre Γ B ∧
    ∀ v H0' H' r B', Po Γ B r B' → To g H0 H H0' H' → On K g B' H0' H' → Rp K H0' v r → Q v H'
def CalX (P : Program) (w : World) (K : PySem.W.Frag) (mg : Str → Option Value) (base : Heap) (x : Str) (k : Nat) (Pre : List VD → Bag → Prop) (Po : List VD → Bag → Post) : Prop :=
  ∃ f fd ps, FnG P w K mg base k f fd ps (DefSpX K Pre Po) ∧ mg x = some (.ref f) ∧ PySem.W.keepIn K (.ref f) = true ∧ Binds K fd ps []
theorem calx_at {P : Program} {w : World} {K : PySem.W.Frag} {mg : Str → Option Value} {base : Heap} {x : Str} {st : Stmt} {N ps : List Str} {k : Nat} {Pre : List VD → Bag → Prop} {Po : List VD → Bag → Post}
    (T : At K mg x st ps) (S : FnScope N ps (defScope st)) (len : ∀ Γ B, Pre Γ B → Γ.length = ps.length)
    (body : ∀ (f : Addr) (cdv : Value) (A : Around) (out : List Env) (s : Shared) (H : Hp) (E : XK),
      Gx k (cxOf CX0 P w K mg base N x (defScope st) f cdv A out s H E).nox → ∀ Γ B, Pre Γ B →
      SJ (cxOf CX0 P w K mg base N x (defScope st) f cdv A out s H E).nox (Γ ++ List.replicate (N.length - ps.length) .no) B (defBody st)
        { nx := fun _ B2 => Po Γ B .none B2, rt := fun d B2 => Po Γ B d B2 }) : CalX P w K mg base x (k + 1) Pre Po := by
  obtain ⟨f, fd, F, hm, hb⟩ := T
  have hpl : ps.length ≤ N.length := by
    have := congrArg List.length S.pre
    rw [List.length_take] at this; omega
  refine ⟨f, fd, ps, fnG_of F S ?_ ?_, hm, F.kp, hb⟩
  · rintro vs H Q E ⟨g, Γ, B, H0, a, b, c, d⟩
    rw [a.length]; exact len _ _ c
  · intro cdv A out s H vs Q E G ⟨g, Γ, B, H0, a, b, c, d⟩
    have hl := len _ _ c
    have E0' := start_env (N := N) a (by rw [hl]; exact hpl)
    rw [hl] at E0'
    refine body f cdv A out s H E G Γ B c g _ H0 H E0' b _ ⟨?_, ?_, ?_, ?_⟩
    · intro Γ2 B2 σ H1 H' z t _ o
      exact d _ _ _ _ _ z t o .non
    · intro r2 B2 v H1 H' z t o rv
      exact d _ _ _ _ _ z t o rv
    · intro _ _ _ _ _ z; exact z.elim
    · intro _ _ _ _ _ z; exact z.elim
theorem Cal.x {P : Program} {w : World} {K : PySem.W.Frag} {mg : Str → Option Value} {base : Heap} {x : Str} {k : Nat} {R : Rel} {Pre : List VD → Bag → Prop} {Po : List VD → Bag → Post}
    (c : Cal P w K mg base x k R) (h : ∀ Γ B, Pre Γ B → ∃ r B', R Γ B r B' ∧ Po Γ B r B') : CalX P w K mg base x k Pre Po := by
  obtain ⟨f, fd, ps, F, h1, h2, h3⟩ := c
  have im : ∀ vs H Q E, DefSpX K Pre Po vs H Q E → DefSp K R vs H Q E := by
    rintro vs H Q E ⟨g, Γ, B, H0, a, b, c, d⟩
    obtain ⟨r, B', hR, hP⟩ := h Γ B c
    exact ⟨g, Γ, B, H0, r, B', a, b, hR, fun v H0' H' t o rv => d v H0' H' r B' hP t o rv⟩
  exact ⟨f, fd, ps, ⟨fun vs H Q E q => F.len vs H Q E (im _ _ _ _ q), fun A o s H ar us vs Q E q1 q2 q3 q4 q5 q => F.run A o s H ar us vs Q E q1 q2 q3 q4 q5 (im _ _ _ _ q)⟩, h1, h2, h3⟩
section
variable {X : Cx} {Γ : List VD} {B B1 B2 B' : Bag} {e a b c : Expr} {es : List Expr} {d da db : VD} {y : PyData} {pos p pos' : Pos} {rest ss s1 s2 : List Stmt} {E : En} {Φ : Post} {Ω : List VD → Bag → Prop} {Ψ : Bool → Bag → Prop}
theorem ex_ej (h : EJ X Γ B e (.da y) B1) (hΦ : Φ y B1) : EX X Γ B e Φ := fun g σ H0 H Ev O Q q => h g σ H0 H Ev O Q fun v H1 H' t o r => q v H1 H' y B1 hΦ t o r
theorem ex_mono {Φ' : Post} (h : EX X Γ B e Φ) (m : ∀ y B', Φ y B' → Φ' y B') : EX X Γ B e Φ' := fun g σ H0 H Ev O Q q => h g σ H0 H Ev O Q fun v H1 H' y B' hy t o r => q v H1 H' y B' (m _ _ hy) t o r
theorem ax_aj {ds : List VD} (h : AJ X Γ B es ds B1) (hΩ : Ω ds B1) : AX X Γ B es Ω := fun g σ H0 H Ev O Q q => h g σ H0 H Ev O Q fun v H1 H' t o r => q v H1 H' ds B1 hΩ t o r
theorem ax_nil (h : Ω [] B) : AX X Γ B [] Ω := fun g σ H0 H _ O Q q => ⟨_, pa_nil, q [] H0 H [] B h To.refl O trivial⟩
theorem ax_cons (h : EX X Γ B e fun y B1 => AX X Γ B1 es fun ds B2 => Ω (.da y :: ds) B2) (hs : starEach (e :: es) X.env = (false, eval e X.env) :: starEach es X.env := by rfl) : AX X Γ B (e :: es) Ω := fun g σ H0 H E O Q q =>
  ⟨_, pa_cons (we e) (wa es) hs, h g σ H0 H E O _ fun v H1 H' y B1 hy t o rv => hy g σ H1 H' (E.mono t.ex) o _ fun vs H2 H'' ds B2 hd t2 o2 rs => q (v :: vs) H2 H'' _ _ hd (t.trans t2) o2 ⟨Rp.mono t2.ex rv, rs⟩⟩
theorem ax_bag (i : Nat) {x : Str} (r : AX X Γ B es fun ds B2 => Ω (.bag :: ds) B2) (h : Γ[i]? = some .bag := by rfl) (hN : X.N[i]? = some x := by rfl)
    (hv : Vis X.env.scope x := by first | exact Or.inl rfl | exact Or.inr (Or.inl rfl) | exact Or.inr (Or.inr rfl))
    (h1 : (x == ("__debug__" : Str)) = false := by decide) (h2 : (x == ("__classdict__" : Str)) = false := by decide)
    (hs : starEach (.Name x pos :: es) X.env = (false, eval (.Name x pos) X.env) :: starEach es X.env := by rfl) : AX X Γ B (.Name x pos :: es) Ω := fun g σ H0 H E O Q q =>
  ⟨_, pa_cons (we (.Name x pos)) (wa es) hs, (ej_bag (B := B) i h hN hv h1 h2) g σ H0 H E O _ fun v H1 H' t o rv => r g σ H1 H' (E.mono t.ex) o _ fun vs H2 H'' ds B2 hd t2 o2 rs => q (v :: vs) H2 H'' _ _ hd (t.trans t2) o2 ⟨rv.mono t2.ex, rs⟩⟩
theorem ex_call {x : Str} {k : Nat} {Pre : List VD → Bag → Prop} {Po : List VD → Bag → Post} (c : CalX X.prog X.w X.K X.mg X.base x k Pre Po) (g : Gx k X) (ha : AX X Γ B (e :: es) fun ds B1 => Pre ds B1 ∧ ∀ r B', Po ds B1 r B' → Φ r B')
    (hg : Gl X x := by rfl) (hdb : (x == ("__debug__" : Str)) = false := by decide) (he : starEach (e :: es) X.env = (false, eval e X.env) :: starEach es X.env := by rfl)
    (hpl : (backTo pos (starEach es X.env)).any (·.1) = false := by rfl) : EX X Γ B (.Call (.Name x p) (e :: es) [] pos) Φ := by
  obtain ⟨f, fd, ps, F, hm, hk, hb⟩ := c
  intro gh σ H0 H E O Q q
  refine ⟨fun σ H Q => WA X (e :: es) σ H fun vs H1 => DefSpX X.K Pre Po vs H1 Q E0, ⟨fun pins s σ H Q I h => ?_⟩, ?_⟩
  · refine wpAny_Call_Name_kw (ld_glob I hg hm ?_ hdb)
    refine PySem.W.callWith_K (h₀ := X.base) I.ok.mod.kin hk (thn ((wa (e :: es)).run pos pins s σ H _ I h) ?_) he hpl
    rintro us s1 ⟨vs, H1, I1, r1, q1⟩
    exact ⟨I1.kIn, runG F g hb I1 r1 q1⟩
  · refine ha gh σ H0 H E O _ fun vs H1 H' ds B1 hd t o rs => ?_
    exact ⟨gh, ds, B1, H1, rs, o, hd.1, fun v H2 H'' r B2 hr t2 o2 rv => q v H2 H'' _ _ (hd.2 _ _ hr) (t.trans t2) o2 rv⟩
theorem ex_bin {r : R2} (ha : EX X Γ B a fun y B1 => EX X Γ B1 b fun z B2 => ∃ u, Φ u B2 ∧ ∀ g v w H0 H, On X.K g B2 H0 H → Rp X.K H0 v y → Rp X.K H0 w z → ∀ Q : VK, (∀ z H0' H', To g H0 H H0' H' → On X.K g B2 H0' H' → Rp X.K H0' z u → Q z H') → r v w H Q)
    (hp : ∀ t u, PE X a t → PE X b u → PE X e (tOp r t u)) : EX X Γ B e Φ := fun g σ H0 H E O Q q =>
  ⟨_, hp _ _ (we a) (we b), ha g σ H0 H E O _ fun v H1 H' y B1 hy t o rv => hy g σ H1 H' (E.mono t.ex) o _ fun w H2 H'' z B2 hz t2 o2 rw' => by
    obtain ⟨u, hu, hr⟩ := hz
    exact hr g v w H2 H'' o2 (rv.mono t2.ex) rw' Q fun z H3 H3' t3 o3 r3 => q z H3 H3' u B2 hu ((t.trans t2).trans t3) o3 r3⟩
theorem sj_setX (i : Nat) {x : Str} (nd : X.N.Nodup) (h : EX X Γ B e fun y B1 => SJ X (Γ.set i (.da y)) B1 rest E) (hi : X.N[i]? = some x := by rfl)
    (hx : Loc X.env.scope x := by first | exact Or.inl rfl | exact Or.inr rfl) (hs : swapsWith e (some (.Name x pos')) pos.line X.env = pure false := by rfl)
    (hf : X.fn x = true ∨ X.env.scope.names.lookup x = some .local := by first | exact Or.inl rfl | exact Or.inr rfl) : SJ X Γ B (.Assign [.Name x pos'] e pos :: rest) E := fun g σ H0 H Ev O D G =>
  ⟨_, pss_cons (ps_set nd hi hx (we e) hs hf) (ws rest), h g σ H0 H Ev O _ fun v H1 H' y B1 k t o r => k g _ H1 H' ((Ev.mono t.ex).set i r) o D (G.on t)⟩
theorem sj_parX (i j : Nat) {x y : Str} {px py pt : Pos} {kt k2 pt2} (nd : X.N.Nodup) (hc : X.calm = true) (h : AX X Γ B [a, b] fun ds B1 => ∃ d1 d2, ds = [d1, d2] ∧ SJ X ((Γ.set i d1).set j d2) B1 rest E)
    (hij : i ≠ j) (hw : swappedStores [.Tuple [.Name x px, .Name y py] kt pt] (.Tuple [a, b] k2 pt2) X.env = pure (some [x, y])) (hi : X.N[i]? = some x := by rfl) (hj : X.N[j]? = some y := by rfl)
    (hx : X.env.scope.names.lookup x = some .local := by rfl) (hy : X.env.scope.names.lookup y = some .local := by rfl)
    (hsw : swapsWithSole [.Tuple [.Name x px, .Name y py] kt pt] (.Tuple [a, b] k2 pt2) pos.line X.env = pure false := by rfl) :
    SJ X Γ B (.Assign [.Tuple [.Name x px, .Name y py] kt pt] (.Tuple [a, b] k2 pt2) pos :: rest) E := fun g σ H0 H Ev O D G =>
  ⟨_, pss_cons (ps_par hc nd hi hj hij hx hy (wa [a, b]) hw hsw) (ws rest), h g σ H0 H Ev O _ fun vs H1 H' ds B1 hd t o r => by
    obtain ⟨d1, d2, rfl, k⟩ := hd
    obtain ⟨v, w, rfl, r1, r2⟩ := rv2 r
    exact ⟨v, w, rfl, k g _ H1 H' (((Ev.mono t.ex).set i r1).set j r2) o D (G.on t)⟩⟩
theorem sj_retX (h : EX X Γ B e E.rt) : SJ X Γ B (.Return (some e) pos :: rest) E := fun g σ H0 H Ev O D G =>
  ⟨_, pss_cons (ps_ret (we e)) (ws rest), h g σ H0 H Ev O _ fun v H1 H' y B1 hy t o r => G.rt _ B1 v H1 H' hy t o r⟩
end
section
variable {X : Cx} {i : Nat} {Γ : List VD} {B B1 B2 B' : Bag} {acc ds : List PyData} {e e2 a b c : Expr} {es : List Expr} {d da db : VD} {y y2 : PyData} {pos p p1 p2 p3 pos' : Pos} {rest ss s1 s2 : List Stmt} {E : EnO} {Φ : Post}
end
def RX (X : Cx) (Γ : List VD) (B : Bag) (t : TE) (Φ : Post) : Prop :=
  ∀ g σ H0 H, EnvD X.K g H0 σ Γ → On X.K g B H0 H → ∀ Q : VK, (∀ v H0' H' y B', Φ y B' → To g H0 H H0' H' → On X.K g B' H0' H' → Rp X.K H0' v y → Q v H') → t σ H Q
theorem ex_of {X : Cx} {Γ : List VD} {B : Bag} {e : Expr} {t : TE} {Φ : Post} (h : PE X e t) (r : RX X Γ B t Φ) : EX X Γ B e Φ := fun g σ H0 H E O Q q => ⟨t, h, r g σ H0 H E O Q q⟩
section
variable {X : Cx} {Γ : List VD} {B B1 B2 B' : Bag} {e a : Expr} {elt : Expr} {scope : Scope} {j : Nat} {x : Str} {px : Pos} {ds ys : List PyData} {pos pos' : Pos} {rest : List Stmt} {E : En} {Φ : Post}
theorem lc_turnX {g : Gh} {H1 H' : Hp} {A : Addr} {acc : List PyData} {H'' H2 : Hp} {σ : L2.St} {v : V} {y : PyData} {Nx : Hp → Prop} {Θ : Post} (off : Off g A) (Ev : EnvD X.K g H1 σ Γ) (I : LcI X.K g H1 H' A acc B1 H2 H'') (r : Rp X.K H2 v y)
    (hz : acc.length < 1000) (he : Blk X scope fun Y => EX Y (Γ.set j (.da y)) B1 elt Θ) (k : ∀ z B2 H3 H3', Θ z B2 → LcI X.K g H1 H' A (acc ++ [z]) B2 H3 H3' → Nx H3') :
    gName j v (wipe σ [j]) H'' fun σ2 H2 => wipe σ2 [j] = wipe σ [j] ∧ tYes σ2 H2 fun b H3 => if b = true then WB X scope elt σ2 H3 fun y H4 => ∃ acc, H4 A = some (.lst acc) ∧ acc.length < sizeLine ∧ Nx (upd H4 A (.lst (acc ++ [y]))) else Nx H3 := by
  refine ⟨wipe1, ?_⟩
  unfold tYes
  refine iteT ?_
  intro s hH C cl fp
  refine he s hH C cl fp g _ H2 H'' (wipe_env (Ev.mono I.to.ex) r) I.on _ fun w H3 H3' z B2 hz' t o rw' => ?_
  obtain ⟨zs, h1, h2, J⟩ := lcI_app off I t o rw'
  exact ⟨zs, h1, by rw [h2]; exact small1000 (Nat.le_of_lt hz), k _ _ _ _ hz' J⟩
theorem rx_lcR {n : Nat} (I : Nat → List PyData → Bag → Prop) (ha : AJ X Γ B [a] [.da (.int (n : Int))] B1) (h0 : I 0 [] B1) (hn : n ≤ 1000)
    (hs : ∀ (k : Nat) acc B', k < n → acc.length = k → I k acc B' → Blk X scope fun Y => EX Y (Γ.set j (.da (.int (k : Int)))) B' elt fun z B2 => I (k + 1) (acc ++ [z]) B2)
    (hd : ∀ acc B', acc.length = n → I n acc B' → Φ (.list acc) B') :
    RX X Γ B (tLc (iRng1 (WA X [a])) (gName j) tYes (WB X scope elt) [j]) Φ := fun g σ H0 H Ev O Q q =>
  ha g σ H0 H Ev O _ fun vs H1 H' t o r => by
    obtain ⟨v, rfl, h⟩ := rv1 r
    refine ⟨(n : Int), by rw [rvI h], by omega, by omega, fun A hA => ?_⟩
    obtain ⟨off, I0⟩ := lcI_start o hA
    rw [Int.toNat_natCast]
    refine lc_range (lo := 0) (n := n) (fun i H'' => ∃ H2 acc B', acc.length = i ∧ I i acc B' ∧ LcI X.K g H1 H' A acc B' H2 H'') ⟨_, [], _, rfl, h0, I0⟩ ?_ ?_
    · rintro i H'' hlt ⟨H2, acc, B', hl, hI, J⟩
      rw [Int.zero_add]
      exact lc_turnX off (Ev.mono t.ex) J (Rp.int _) (by omega) (hs i acc B' hlt hl hI) fun z B2 H3 H3' hz J => ⟨H3, _, B2, by rw [List.length_append, List.length_singleton, hl], hz, J⟩
    · rintro H'' ⟨H2, acc, B', hl, hI, J⟩
      obtain ⟨H3, t3, o3, r3⟩ := lcI_end off t J
      exact q _ H3 H'' _ _ (hd acc B' hl hI) t3 o3 r3
theorem ex_lcR {pr pe : Pos} (nd : X.N.Nodup) (hc : X.calm = true) (hm : X.mg "range" = none) (ok : BlkOk X.N X.env.scope scope [(x, j)])
    (hg : ∀ (s : Shared) (H : Hp) (C : Addr) (cl : List (Str × Addr)) (fp : List Addr), PG (X.blk s H scope (compEnvC scope cl C X.env) fp) (.Name x px) (gName j))
    (r : RX X Γ B (tLc (iRng1 (WA X [a])) (gName j) tYes (WB X scope elt) [j]) Φ) (hgl : Gl X "range" := by rfl)
    (hq : ∀ x, foldedSetIterable (.Call (.Name "range" pr) [a] [] pe) X.env x = pure x := by intro _; rfl) (hst : starEach [a] X.env = [(false, eval a X.env)] := by rfl) :
    EX X Γ B (.ListComp elt [⟨.Name x px, .Call (.Name "range" pr) [a] [] pe, [], 0⟩] scope pos) Φ :=
  ex_of (pe_lc (own := [(x, j)]) hc nd (pi_range1 hgl hm (wa [a]) hst) ok hg (fun _ _ _ _ _ => pts_nil) (wb scope elt) hq) r
theorem sj_setLcRX (i : Nat) {pr pe : Pos} {y : Str} {py : Pos} (nd : X.N.Nodup) (hc : X.calm = true) (hm : X.mg "range" = none) (ok : BlkOk X.N X.env.scope scope [(x, j)])
    (hg : ∀ (s : Shared) (H : Hp) (C : Addr) (cl : List (Str × Addr)) (fp : List Addr), PG (X.blk s H scope (compEnvC scope cl C X.env) fp) (.Name x px) (gName j))
    (hsw : swapsWith (.ListComp elt [⟨.Name x px, .Call (.Name "range" pr) [a] [] pe, [], 0⟩] scope pos) (some (.Name y py)) pos'.line X.env = pure true)
    (r : RX X Γ B (tLc (iRng1 (WA X [a])) (gName j) tYes (WB X scope elt) [j]) fun z B1 => SJ X (Γ.set i (.da z)) B1 rest E)
    (hy : X.N[i]? = some y := by rfl) (hyl : X.env.scope.names.lookup y = some .local := by rfl) (hgl : Gl X "range" := by rfl)
    (hq : ∀ x, foldedSetIterable (.Call (.Name "range" pr) [a] [] pe) X.env x = pure x := by intro _; rfl) (hst : starEach [a] X.env = [(false, eval a X.env)] := by rfl) :
    SJ X Γ B (.Assign [.Name y py] (.ListComp elt [⟨.Name x px, .Call (.Name "range" pr) [a] [] pe, [], 0⟩] scope pos) pos' :: rest) E := fun g σ H0 H Ev O D G =>
  ⟨_, pss_cons (ps_setLc (i := i) (own := [(x, j)]) hc nd hy hyl hsw (pi_range1 hgl hm (wa [a]) hst) ok hg (fun _ _ _ _ _ => pts_nil) (wb scope elt) hq) (ws rest),
    r g σ H0 H Ev O _ fun v H1 H' z B1 k t o rv => k g _ H1 H' ((Ev.mono t.ex).set i rv) o D (G.on t)⟩
end
end Gd
namespace Gd
open PySem PySem.Spec PyProof.Rows L2
section
variable {X : Cx} {Γ : List VD} {B B1 B2 B' : Bag} {e a b c : Expr} {es : List Expr} {d da db : VD} {y : PyData} {pos p pos' : Pos} {rest ss s1 s2 : List Stmt} {E : En} {Φ : Post} {Ω : List VD → Bag → Prop} {Ψ : Bool → Bag → Prop}
theorem ax_one (h : EX X Γ B e fun y B1 => Ω [.da y] B1) (hs : starEach [e] X.env = [(false, eval e X.env)] := by rfl) : AX X Γ B [e] Ω := ax_cons (ex_mono h fun y B1 hy => ax_nil hy) hs
end
end Gd
set_option exponentiation.threshold 20000
namespace Lw
open PySem PySem.Spec PyProof.Rows L2 Gd Fr
open scoped Rat
theorem lay_all {ds : List PyData} (h : ∀ d ∈ ds, d.canLay0 = true) : PyData.canLayAll0 ds = true := by
  induction ds with
  | nil => simp only [PyData.canLayAll0]
  | cons d ds ih => simp only [PyData.canLayAll0, h d List.mem_cons_self, ih fun x hx => h x (List.mem_cons_of_mem _ hx), Bool.and_self]
theorem depth_all {n : Nat} {ds : List PyData} (h : ∀ d ∈ ds, d.depth ≤ n) : PyData.depthAll ds ≤ n := by
  induction ds with
  | nil => exact Nat.zero_le _
  | cons d ds ih =>
    show max d.depth (PyData.depthAll ds) ≤ n
    exact Nat.max_le.mpr ⟨h d List.mem_cons_self, ih fun x hx => h x (List.mem_cons_of_mem _ hx)⟩
def Sh (n : Nat) (d : PyData) : Prop := d.canLay0 = true ∧ d.depth ≤ n
theorem Sh.shaped {n : Nat} {d : PyData} (h : Sh n d) (hn : n ≤ 64 := by decide) : SeqAt.shaped d = true := by
  unfold SeqAt.shaped
  rw [h.1, Bool.true_and, decide_eq_true_eq]
  exact Nat.le_trans h.2 hn
theorem Sh.lst {n : Nat} {ds : List PyData} (h : ∀ d ∈ ds, Sh n d) : Sh (n + 1) (.list ds) :=
  ⟨by simp only [PyData.canLay0]; exact lay_all fun d hd => (h d hd).1, by show PyData.depthAll ds + 1 ≤ n + 1; have := depth_all fun d hd => (h d hd).2; omega⟩
theorem Sh.tup {n : Nat} {ds : List PyData} (h : ∀ d ∈ ds, Sh n d) : Sh (n + 1) (.tuple ds) :=
  ⟨by simp only [PyData.canLay0]; exact lay_all fun d hd => (h d hd).1, by show PyData.depthAll ds + 1 ≤ n + 1; have := depth_all fun d hd => (h d hd).2; omega⟩
theorem Sh.int (i : Int) : Sh 0 (.int i) := ⟨by simp only [PyData.canLay0], Nat.le_refl _⟩
theorem Sh.str {x : Str} (h : PyData.strOk x = true) : Sh 0 (.str x) := ⟨by simp only [PyData.canLay0]; exact h, Nat.le_refl _⟩
theorem Sh.mono {n m : Nat} {d : PyData} (h : Sh n d) (e : n ≤ m) : Sh m d := ⟨h.1, Nat.le_trans h.2 e⟩
inductive Te where
  | nan
  | inf (s : Int)
  | x (q : Rat) (s : Int)
def Te.d : Te → PyData
  | .nan => .tuple [.str "nan"]
  | .inf s => .tuple [.str "inf", .int s]
  | .x q s => .tuple [.str "x", fq q, .int s]
def Te.isNan : Te → Bool
  | .nan => true
  | _ => false
def Te.isInf : Te → Bool
  | .inf _ => true
  | _ => false
def Te.sg : Te → Int
  | .nan => 0
  | .inf s => s
  | .x _ s => s
def Te.q : Te → Rat
  | .x q _ => q
  | _ => 0
end Lw
namespace Lw
open PySem PySem.Spec PyProof.Rows L2 Gd Fr
def Pre_mixed (Γ : List VD) (B : Bag) : Prop := ∃ t ds, Γ = [.bag, .da (lisD t ds)] ∧ ds.length ≤ 200 ∧ lfreeAll ds = true ∧ Bok B
def Post_mixed (Γ : List VD) (_ : Bag) (r : PyData) (B' : Bag) : Prop := Bok B' ∧ ∀ t ds, Γ = [.bag, .da (lisD t ds)] → ∃ ds', r = .list ds' ∧ ds'.Perm ds
end Lw
set_option exponentiation.threshold 20000
namespace Lw
open PySem PySem.Spec PyProof.Rows L2 Gd Fr
open scoped Rat
theorem F4.inj {t u : F4} (h : t.d = u.d) : t = u := by
  obtain ⟨a, b, c, d⟩ := t
  obtain ⟨a', b', c', d'⟩ := u
  have h : fmP a b c d = fmP a' b' c' d' := h
  unfold fmP at h
  injection h with h
  injection h with h1 h
  injection h with h2 h
  injection h with h3 h
  injection h with h4 h
  injection h1 with h1
  injection h2 with h2
  injection h3 with h3
  injection h4 with h4
  have h1 : a = a' := by omega
  have h2 : b = b' := by omega
  subst h1; subst h2; subst h3; subst h4; rfl
theorem lfree_va (v : Va) : lfree v.d = true := by
  cases v <;> (show lfree (.tuple _) = true; simp only [lfree, Va.l, lfreeAll, Bool.and_self])
theorem lfree_vas (vs : List Va) : lfreeAll (vs.map Va.d) = true := by
  induction vs with
  | nil => simp only [List.map_nil, lfreeAll]
  | cons v vs ih => simp only [List.map_cons, lfreeAll, lfree_va, ih, Bool.and_self]
section
variable {b p : Nat} {low high : Int} (F : Fm b p low high)
include F
theorem vas_nd {vs : List Va} (h : ∀ v ∈ vs, Vok b p low high v) : NdA 2 (41 * vs.length) (vs.map Va.d) := by
  induction vs with
  | nil => exact NdA.nil
  | cons v vs ih =>
    have h1 := va_nd F (h v List.mem_cons_self)
    have h2 := NdA.cons h1 (ih fun u hu => h u (List.mem_cons_of_mem _ hu))
    have e : 40 + 1 + 41 * vs.length = 41 * (v :: vs).length := by rw [List.length_cons]; omega
    rw [e] at h2; exact h2
theorem vas_okd {vs : List Va} (hl : vs.length ≤ 100) (h : ∀ v ∈ vs, Vok b p low high v) (t : Bool) : Okd (lisD t (vs.map Va.d)) := by
  have h1 := vas_nd F h
  cases t with
  | true =>
    have := Nd.list h1
    exact this.okd (by decide) (by omega)
  | false =>
    have := Nd.tuple h1
    exact this.okd (by decide) (by omega)
end
end Lw
namespace Lw
open Gd
theorem perm_map {α β : Type} {f : α → β} : ∀ {ds : List β} {xs : List α}, ds.Perm (xs.map f) → ∃ us : List α, ds = us.map f ∧ us.Perm xs := by
  intro ds xs h
  generalize hy : xs.map f = ys at h
  induction h generalizing xs with
  | nil =>
    have : xs = [] := List.map_eq_nil_iff.mp hy
    subst this
    exact ⟨[], rfl, List.Perm.refl _⟩
  | cons x _ ih =>
    cases xs with
    | nil => cases hy
    | cons a xs =>
      injection hy with h1 h2
      obtain ⟨us, e, hp⟩ := ih h2
      exact ⟨a :: us, by rw [List.map_cons, h1, e], hp.cons a⟩
  | swap x y l =>
    cases xs with
    | nil => cases hy
    | cons a xs =>
      injection hy with h1 h2
      cases xs with
      | nil => cases h2
      | cons b xs =>
        injection h2 with h2 h3
        exact ⟨b :: a :: xs, by rw [List.map_cons, List.map_cons, h1, h2, h3], List.Perm.swap _ _ _⟩
  | trans _ _ i1 i2 =>
    obtain ⟨us, e, hp⟩ := i2 hy
    obtain ⟨ws, e2, hp2⟩ := i1 e.symm
    exact ⟨ws, e2, hp2.trans hp⟩
end Lw
set_option exponentiation.threshold 20000
namespace Lw
open PySem PySem.Spec PyProof.Rows L2 Gd Fr
open scoped Rat
end Lw
namespace Gd
open PySem PySem.Spec PyProof.Rows L2
section
variable {X : Cx} {Γ : List VD} {B B1 B2 : Bag} {e c elt : Expr} {scope : Scope} {acc : List PyData} {pos pos' : Pos} {rest : List Stmt} {E : En} {d : VD}
end
end Gd
set_option exponentiation.threshold 20000
namespace Lw
open PySem PySem.Spec PyProof.Rows L2 Gd Fr
open scoped Rat
end Lw
namespace Lw
open PySem PySem.Spec PyProof.Rows L2 Gd Fr
open scoped Rat
theorem numV_num {b p : Nat} {low high : Int} (F : Fm b p low high) (B : Bag) : ∃ s c e, numV b p low high B = .num s c e ∧ Vok b p low high (.num s c e) := by
  have h := numV_ok F B
  have h2 : ∃ s c e, numV b p low high B = .num s c e := by unfold numV; split <;> exact ⟨_, _, _, rfl⟩
  obtain ⟨s, c, e, h2⟩ := h2
  exact ⟨s, c, e, h2, by rw [← h2]; exact h⟩
end Lw
namespace Gd
open PySem PySem.Spec PyProof.Rows L2
section
variable {X : Cx} {Γ : List VD} {B B1 B2 : Bag} {e c elt : Expr} {scope : Scope} {acc : List PyData} {pos pos' : Pos} {rest : List Stmt} {E : En} {d : VD} {Φ : Post}
end
end Gd
set_option exponentiation.threshold 20000
namespace Lw
open PySem PySem.Spec PyProof.Rows L2 Gd Fr
open scoped Rat
end Lw
set_option exponentiation.threshold 20000
namespace Lw
open PySem PySem.Spec PyProof.Rows L2 Gd Fr
open scoped Rat
def Te.opp : Te → Te
  | .nan => .nan
  | .inf s => .inf (1 - s)
  | .x q s => .x (-q) (1 - s)
def Fl (fl : List Str) : Prop := fl = [] ∨ fl = (["invalid"] : List Str) ∨ fl = (["inexact", "over"] : List Str) ∨ fl = (["inexact", "tiny"] : List Str) ∨ fl = (["inexact"] : List Str)
theorem Fl.sh {fl : List Str} (h : Fl fl) : SeqAt.shaped (words fl) = true := by
  rcases h with rfl | rfl | rfl | rfl | rfl <;> decide +kernel
theorem Fl.eqv {fl : List Str} (h : Fl fl) : PyData.eqv (words fl) (.tuple []) = decide (fl = []) := by
  rcases h with rfl | rfl | rfl | rfl | rfl <;> rfl
end Lw
namespace Gd
open PySem PySem.Spec PyProof.Rows L2
section
variable {prog : Program} {w : World} {A : Around} {E : Value → Shared → Prop} {s : Shared}
end
section
variable {X : Cx} {Γ : List VD} {B B1 B2 : Bag} {a b c e : Expr} {pos p pos' : Pos} {rest s1 : List Stmt} {E : En}
end
end Gd
namespace Gd
open PySem PySem.Spec PyProof.Rows L2
section
variable {X : Cx} {Γ : List VD} {B B1 B2 B3 B' : Bag} {e a b c : Expr} {es : List Expr} {d da db dc : VD} {pos p pos' apos p1 p2 p3 : Pos} {rest ss s1 s2 : List Stmt} {E : En}
end
end Gd
set_option exponentiation.threshold 20000
namespace Lw
open PySem PySem.Spec PyProof.Rows L2 Gd Fr
open scoped Rat
inductive Sp where
  | none
  | span (u v : Va)
def Sp.d : Sp → PyData
  | .none => .tuple [.str "none"]
  | .span u v => .tuple [.str "span", u.d, v.d]
def Sp.ok (b p : Nat) (low high : Int) : Sp → Prop
  | .none => True
  | .span u v => (Vcan b p low high u ∧ u.isNan = false) ∧ Vcan b p low high v ∧ v.isNan = false
def apI (b p : Nat) (low high : Int) : Sp → Int
  | .none => 0
  | .span u v => rkI b p low high v - rkI b p low high u
inductive Wd (b p : Nat) (low high : Int) (L : List Sp) : PyData → Prop
  | none (h : ∀ s ∈ L, apI b p low high s < 2) : Wd b p low high L .none
  | some (i : Nat) (x : Sp) (hi : L[i]? = .some x) (h2 : 2 ≤ apI b p low high x) (h3 : ∀ s ∈ L, apI b p low high s ≤ apI b p low high x) (h4 : ∀ j y, j < i → L[j]? = .some y → apI b p low high y < apI b p low high x) : Wd b p low high L (.int (i : Nat))
theorem Wd.one {b p : Nat} {low high : Int} {L : List Sp} {d e : PyData} (h : Wd b p low high L d) (h' : Wd b p low high L e) : d = e := by
  cases h with
  | none h =>
    cases h' with
    | none _ => rfl
    | some i x hi h2 _ _ => have := h x (List.mem_of_getElem? hi); omega
  | some i x hi h2 h3 h4 =>
    cases h' with
    | none h => have := h x (List.mem_of_getElem? hi); omega
    | some j y hj g2 g3 g4 =>
      have a1 := h3 y (List.mem_of_getElem? hj)
      have a2 := g3 x (List.mem_of_getElem? hi)
      rcases Nat.lt_trichotomy i j with z | z | z
      · have := g4 i x z hi; omega
      · rw [z]
      · have := h4 j y z hj; omega
noncomputable def wdP (b p : Nat) (low high : Int) (L : List Sp) : PyData := by
  classical exact if h : ∃ d, Wd b p low high L d then h.choose else .none
theorem Wd.is {b p : Nat} {low high : Int} {L : List Sp} {d : PyData} (h : Wd b p low high L d) : wdP b p low high L = d := by
  have hx : ∃ d, Wd b p low high L d := ⟨d, h⟩
  unfold wdP
  rw [dif_pos hx]
  exact hx.choose_spec.one h
theorem pick_ex {α : Type} (xs : List α) (f : α → PyData) (B : Bag) (h : 0 < xs.length) : ∃ x ∈ xs, pick (xs.map f) B = f x := by
  have h0 := tkV_ge B (m := (xs.map f).length) (by rw [List.length_map]; omega)
  have h1 := tkV_lt B (m := (xs.map f).length) (by rw [List.length_map]; omega)
  have hlt : (tkV B (xs.map f).length).toNat < xs.length := by rw [List.length_map] at h1 ⊢; rw [List.length_map] at h0; omega
  refine ⟨xs[(tkV B (xs.map f).length).toNat], List.getElem_mem hlt, ?_⟩
  unfold pick
  rw [List.getD_eq_getElem?_getD, List.getElem?_map, List.getElem?_eq_getElem hlt]
  rfl
theorem numV_numC {b p : Nat} {low high : Int} (F : Fm b p low high) (B : Bag) : ∃ s c e, numV b p low high B = .num s c e ∧ Vcan b p low high (.num s c e) := by
  obtain ⟨s, c, e, h, _⟩ := numV_num F B
  exact ⟨s, c, e, h, by rw [← h]; exact numV_can F B⟩
end Lw
namespace PySem
end PySem
namespace Gd
open PySem PySem.Spec PyProof.Rows L2
end Gd
namespace Gd
open PySem PySem.Spec PyProof.Rows L2
mutual
theorem alike_nd : ∀ d : PyData, PySem.W.alike d d = true → d.hasDict = false
  | .none, _ => by simp only [PyData.hasDict]
  | .bool _, _ => by simp only [PyData.hasDict]
  | .int i, h => by simp only [PyData.hasDict]
  | .str _, _ => by simp only [PyData.hasDict]
  | .list xs, h => by simp only [PySem.W.alike] at h; simp only [PyData.hasDict]; exact alike_ndA xs h
  | .tuple xs, h => by simp only [PySem.W.alike] at h; simp only [PyData.hasDict]; exact alike_ndA xs h
  | .dict _, h => by simp only [PySem.W.alike] at h; cases h
theorem alike_ndA : ∀ ds : List PyData, PySem.W.alikeAll ds ds = true → PyData.hasDictAll ds = false
  | [], _ => by simp only [PyData.hasDictAll]
  | x :: xs, h => by
    simp only [PySem.W.alikeAll, Bool.and_eq_true] at h
    simp only [PyData.hasDictAll, Bool.or_eq_false_iff]; exact ⟨alike_nd x h.1, alike_ndA xs h.2⟩
end
structure Good (X : Cx) (pins : List (Addr × Obj)) (σ : L2.St) (g : Gh) (B : Bag) (H0 H : Hp) (it S : Addr) (s : Shared) (Z : Hp × Hp) : Prop where
  inv : Inv X pins σ Z.2 s
  to : To g H0 H Z.1 Z.2
  on : On X.K g B Z.1 Z.2
  ni : Z.2 it = none
  ns : Z.2 S = none
end Gd
namespace Gd
open PySem PySem.Spec PyProof.Rows L2
section
variable {X : Cx} {Γ : List VD} {B B1 : Bag} {a : Expr} {p p' kp pos : Pos}
end
end Gd
set_option exponentiation.threshold 20000
namespace Lw
open PySem PySem.Spec PyProof.Rows L2 Gd Fr
open scoped Rat
def plT : Va → Int × Int × Int
  | .nan => (2, 0, 0)
  | .inf s => if s = 0 then (1, 0, 0) else (-2, 0, 0)
  | .num s c e => if s = 0 then (0, e, c) else (-1, -e, -c)
def t3 (x : Int × Int × Int) : PyData := .tuple [.int x.1, .int x.2.1, .int x.2.2]
def plD (v : Va) : PyData := t3 (plT v)
theorem t3_alike (x y : Int × Int × Int) : PySem.W.alike (t3 x) (t3 y) = true := rfl
end Lw
set_option exponentiation.threshold 20000
namespace Lw
open PySem PySem.Spec PyProof.Rows L2 Gd Fr
open scoped Rat
section
variable {b p : Nat} {low high : Int} (F : Fm b p low high)
include F
end
section
variable {b p : Nat} {low high : Int} (F : Fm b p low high)
include F
end
end Lw
set_option exponentiation.threshold 20000
namespace Gd
open PySem PySem.Spec PyProof.Rows L2
section
variable {X : Cx} {Γ : List VD} {B B1 B2 B' : Bag} {e a b c : Expr} {pos : Pos}
end
end Gd
set_option exponentiation.threshold 20000
namespace Lw
open PySem PySem.Spec PyProof.Rows L2 Gd Fr
open scoped Rat
def lex3 (x y : Int × Int × Int) : Prop := x.1 < y.1 ∨ (x.1 = y.1 ∧ (x.2.1 < y.2.1 ∨ (x.2.1 = y.2.1 ∧ x.2.2 < y.2.2)))
instance (x y : Int × Int × Int) : Decidable (lex3 x y) := by unfold lex3; infer_instance
theorem t3_lt (x y : Int × Int × Int) : PySem.W.dataLt (t3 x) (t3 y) = decide (lex3 x y) := by
  obtain ⟨a, b, c⟩ := x
  obtain ⟨a', b', c'⟩ := y
  unfold t3 lex3
  rw [PySem.W.dataLt_tuple]
  show _ = decide (a < a' ∨ (a = a' ∧ (b < b' ∨ (b = b' ∧ c < c'))))
  by_cases h1 : a = a'
  · rw [PySem.W.dataLt_all_yes rfl (by rw [eqv_int]; exact decide_eq_true h1)]
    by_cases h2 : b = b'
    · rw [PySem.W.dataLt_all_yes rfl (by rw [eqv_int]; exact decide_eq_true h2)]
      by_cases h3 : c = c'
      · rw [PySem.W.dataLt_all_yes rfl (by rw [eqv_int]; exact decide_eq_true h3)]
        rw [show PySem.W.keyToksAll [] = [Sum.inl 0] from rfl]
        rw [decide_eq_false (show ¬ (a < a' ∨ (a = a' ∧ (b < b' ∨ (b = b' ∧ c < c')))) by omega)]
        decide
      · rw [PySem.W.dataLt_all_no rfl (by rw [eqv_int]; exact decide_eq_false h3), PySem.W.dataLt_int]
        exact decide_eq_decide.mpr (show c < c' ↔ (a < a' ∨ (a = a' ∧ (b < b' ∨ (b = b' ∧ c < c')))) by omega)
    · rw [PySem.W.dataLt_all_no rfl (by rw [eqv_int]; exact decide_eq_false h2), PySem.W.dataLt_int]
      have h2 : ¬ b = b' := h2
      exact decide_eq_decide.mpr (show b < b' ↔ (a < a' ∨ (a = a' ∧ (b < b' ∨ (b = b' ∧ c < c')))) by omega)
  · rw [PySem.W.dataLt_all_no rfl (by rw [eqv_int]; exact decide_eq_false h1), PySem.W.dataLt_int]
    exact decide_eq_decide.mpr (by omega)
theorem lex3_asym {x y : Int × Int × Int} (h : lex3 x y) : ¬ lex3 y x := by unfold lex3 at *; omega
section
variable {b p : Nat} {low high : Int} (F : Fm b p low high)
include F
theorem rkS_eq (s c e : Int) : rkS b p low high (.num s c e) = c + (e - low) * (((b ^ p : Nat) : Int) - ((b ^ (p - 1) : Nat) : Int)) := by
  have P := F.pows
  have e' : fmI b p = ((b ^ p : Nat) : Int) - ((b ^ (p - 1) : Nat) : Int) := by
    unfold fmI
    rw [P.eq, Int.natCast_mul, Int.sub_mul, Int.one_mul, Int.mul_comm]
  show c + (e - low) * fmI b p = _
  rw [e']
theorem rkS_lex {s s' c e c' e' : Int} (h : Can b p low c e) (h' : Can b p low c' e') (hl : e < e' ∨ (e = e' ∧ c ≤ c')) : rkS b p low high (.num s c e) ≤ rkS b p low high (.num s' c' e') := by
  rw [rkS_eq F, rkS_eq F]
  have P := F.pows
  have h1 : ((b ^ (p - 1) : Nat) : Int) * 2 ≤ ((b ^ p : Nat) : Int) := by have := P.ge; omega
  have h2 : (2 : Int) ≤ ((b ^ (p - 1) : Nat) : Int) := by have := P.l2; omega
  obtain ⟨a1, a2, a3, a4⟩ := h
  obtain ⟨b1, b2, b3, b4⟩ := h'
  generalize ((b ^ (p - 1) : Nat) : Int) = L at *
  generalize ((b ^ p : Nat) : Int) = M at *
  rcases hl with h | ⟨rfl, h⟩
  · have h3 : L ≤ c' := by omega
    have h4 : (e - low + 1) * (M - L) ≤ (e' - low) * (M - L) := Int.mul_le_mul_of_nonneg_right (by omega) (by omega)
    rw [Int.add_mul, Int.one_mul] at h4
    omega
  · omega
theorem rkS_nn {s c e : Int} (h : Can b p low c e) : 0 ≤ rkS b p low high (.num s c e) := by
  rw [rkS_eq F]
  have P := F.pows
  have h1 : ((b ^ (p - 1) : Nat) : Int) * 2 ≤ ((b ^ p : Nat) : Int) := by have := P.ge; omega
  have h2 : (2 : Int) ≤ ((b ^ (p - 1) : Nat) : Int) := by have := P.l2; omega
  have := Int.mul_nonneg (a := e - low) (b := ((b ^ p : Nat) : Int) - ((b ^ (p - 1) : Nat) : Int)) (by have := h.2.2.1; omega) (by omega)
  have := h.1
  omega
theorem pl_rk {u v : Va} (hu : Vcan b p low high u) (hv : Vcan b p low high v) (nu : u.isNan = false) (nv : v.isNan = false) (h : ¬ lex3 (plT v) (plT u)) : rkI b p low high u ≤ rkI b p low high v := by
  have key : ∀ {s c e : Int}, Vcan b p low high (.num s c e) → -mostI b p low high < rkI b p low high (.num s c e) ∧ rkI b p low high (.num s c e) < mostI b p low high := fun h => rk_num_lt F h.2.1 h.2.2
  have m0 : 0 ≤ mostI b p low high := by
    have := key (zero_can F (s := 0) (.inl rfl)); omega
  cases u with
  | nan => cases nu
  | inf s =>
    cases v with
    | nan => cases nv
    | inf t =>
      rw [rk_inf hu, rk_inf hv]
      rcases hu with rfl | rfl <;> rcases hv with rfl | rfl
      · exact Int.le_refl _
      · exact absurd (show lex3 (plT (.inf 1)) (plT (.inf 0)) by decide) h
      · rw [if_pos rfl, if_neg (by decide)]; omega
      · exact Int.le_refl _
    | num t c e =>
      have k := key hv
      rw [rk_inf hu]
      rcases hu with rfl | rfl
      · refine absurd ?_ h
        unfold plT lex3
        rcases hv.1 with rfl | rfl
        · exact .inl (by show (0 : Int) < 1; decide)
        · exact .inl (by show (-1 : Int) < 1; decide)
      · rw [if_pos rfl]; omega
  | num s c e =>
    have k := key hu
    cases v with
    | nan => cases nv
    | inf t =>
      rw [rk_inf hv]
      rcases hv with rfl | rfl
      · rw [if_neg (by decide)]; omega
      · refine absurd ?_ h
        unfold plT lex3
        rcases hu.1 with rfl | rfl
        · exact .inl (by show (-2 : Int) < 0; decide)
        · exact .inl (by show (-2 : Int) < -1; decide)
    | num t c' e' =>
      have n1 := rkS_nn F (s := 0) hu.2.1
      have n2 := rkS_nn F (s := 0) hv.2.1
      have n3 := rkS_nn F (s := 1) hu.2.1
      have n4 := rkS_nn F (s := 1) hv.2.1
      rcases hu.1 with rfl | rfl <;> rcases hv.1 with rfl | rfl
      · rw [rk_n0, rk_n0]
        have h : ¬ ((0 : Int) < 0 ∨ ((0 : Int) = 0 ∧ (e' < e ∨ (e' = e ∧ c' < c)))) := h
        exact rkS_lex F hu.2.1 hv.2.1 (by omega)
      · exact absurd (.inl (by show (-1 : Int) < 0; decide)) h
      · rw [rk_n1, rk_n0]; omega
      · rw [rk_n1, rk_n1]
        have h : ¬ ((-1 : Int) < -1 ∨ ((-1 : Int) = -1 ∧ (-e' < -e ∨ (-e' = -e ∧ -c' < -c)))) := h
        have := rkS_lex F (s := 1) (s' := 1) hv.2.1 hu.2.1 (by omega)
        omega
theorem pl_ord {u v : Va} (hu : Vcan b p low high u) (hv : Vcan b p low high v) (nu : u.isNan = false) (nv : v.isNan = false) (h : ¬ lex3 (plT v) (plT u)) : ordI b b u v ≤ 0 := by
  rw [ord_rk F hu hv nu nv]
  have := pl_rk F hu hv nu nv h
  unfold cmpI
  rw [if_neg (by omega)]
  split <;> omega
end
section
variable {b p : Nat} {low high : Int} (F : Fm b p low high)
include F
end
end Lw
namespace Lw
open PySem PySem.Spec PyProof.Rows L2 Gd Fr
end Lw
namespace Lw
open PySem PySem.Spec PyProof.Rows L2 Gd Fr
end Lw
namespace Lw
open PySem PySem.Spec PyProof.Rows L2 Gd Fr
end Lw
namespace Lw
open PySem PySem.Spec PyProof.Rows L2 Gd Fr
open scoped Rat
end Lw
namespace Lw
open PySem PySem.Spec PyProof.Rows L2 Gd Fr
open scoped Rat
end Lw
namespace Lw
open PySem PySem.Spec PyProof.Rows L2 Gd Fr
end Lw
set_option exponentiation.threshold 20000
namespace Gd
open PySem PySem.Spec PyProof.Rows L2
section
variable {X : Cx} {Γ : List VD} {B B1 B2 B' : Bag} {e a b c : Expr} {pos p : Pos}
end
end Gd
set_option exponentiation.threshold 20000
namespace Lw
open PySem PySem.Spec PyProof.Rows L2 Gd Fr
open scoped Rat
section
variable {b p : Nat} (h2 : 2 ≤ b)
include h2
end
section
variable {b p : Nat} (h2 : 2 ≤ b)
include h2
end
end Lw
set_option exponentiation.threshold 20000
namespace Lw
open PySem PySem.Spec PyProof.Rows L2 Gd Fr
open scoped Rat
structure RtOk (b : Nat) (low : Int) (q : Rat) (n d : Nat) : Prop where
  h0 : 0 < q
  hq : Qz n d q
  hn : n ≤ 8800
  hd : d ≤ 8800
  hL : q.den * b ^ (2 * low).toNat < 2 ^ 8800
section
variable {b p : Nat} {low high : Int} (F : Fm b p low high)
include F
end
end Lw
set_option exponentiation.threshold 20000
namespace Lw
open PySem PySem.Spec PyProof.Rows L2 Gd Fr
open scoped Rat
section
variable {b : Nat} (h2 : 2 ≤ b)
include h2
end
end Lw
set_option exponentiation.threshold 20000
namespace Lw
open PySem PySem.Spec PyProof.Rows L2 Gd Fr
open scoped Rat
section
variable {b p : Nat} {low high : Int} (F : Fm b p low high)
include F
end
section
variable (b p : Nat) (low high : Int)
end
end Lw
set_option exponentiation.threshold 20000
namespace Gd
open PySem PySem.Spec PyProof.Rows L2
section
variable {X : Cx} {Γ : List VD} {B B1 B2 B' : Bag} {e a b c : Expr} {pos p : Pos} {rest s1 : List Stmt} {E : En} {Φ : Post}
end
end Gd
set_option exponentiation.threshold 20000
namespace Lw
open PySem PySem.Spec PyProof.Rows L2 Gd Fr
open scoped Rat
def isLess (b : Nat) (x y : Va) : Prop := plI x < plI y ∨ (plI x = plI y ∧ (hqQ b x < hqQ b y ∨ (hqQ b x = hqQ b y ∧ 1 - x.sg ≤ 1 - y.sg)))
theorem less_iff {b p : Nat} {low high : Int} (F : Fm b p low high) {x y : Va} (hx : Vcan b p low high x) (hy : Vcan b p low high y) (nx : x.isNan = false) (ny : y.isNan = false) : isLess b x y ↔ ¬ lex3 (plT y) (plT x) := by
  cases x with
  | nan => cases nx
  | inf s =>
    cases y with
    | nan => cases ny
    | inf t =>
      unfold isLess lex3 plT plI hqQ
      rcases hx with rfl | rfl <;> rcases hy with rfl | rfl <;> simp [Va.isNum, Va.sg]
    | num t c e =>
      unfold isLess lex3 plT plI
      rcases hx with rfl | rfl <;> rcases hy.1 with rfl | rfl <;> simp [Va.isNum, Va.sg]
  | num s c e =>
    cases y with
    | nan => cases ny
    | inf t =>
      unfold isLess lex3 plT plI
      rcases hx.1 with rfl | rfl <;> rcases hy with rfl | rfl <;> simp [Va.isNum, Va.sg]
    | num t c' e' =>
      have o1 := fun h => pl_ord F hx hy nx ny h
      have o2 := fun h => pl_ord F hy hx ny nx h
      rw [ord_num] at o1 o2
      have key : isLess b (.num s c e) (.num t c' e') ↔ ((Va.num s c e).wQ b < (Va.num t c' e').wQ b ∨ ((Va.num s c e).wQ b = (Va.num t c' e').wQ b ∧ 1 - s ≤ 1 - t)) := by
        unfold isLess
        have e1 : plI (.num s c e) = 0 := rfl
        have e2 : plI (.num t c' e') = 0 := rfl
        have e3 : hqQ b (.num s c e) = (Va.num s c e).wQ b := rfl
        have e4 : hqQ b (.num t c' e') = (Va.num t c' e').wQ b := rfl
        rw [e1, e2, e3, e4]
        constructor
        · rintro (h | ⟨_, h⟩)
          · omega
          · exact h
        · exact fun h => .inr ⟨rfl, h⟩
      rw [key]
      have inj : (Va.num s c e).wQ b = (Va.num t c' e').wQ b → s = t → Va.num s c e = .num t c' e' := by
        intro hw hst
        have h1 := ord_rk F hx hy nx ny
        rw [ord_num, hw, cmp_self] at h1
        refine rk_inj F hx hy nx ny hst ?_
        unfold cmpI at h1
        split at h1 <;> split at h1 <;> omega
      generalize (Va.num s c e).wQ b = wx at *
      generalize (Va.num t c' e').wQ b = wy at *
      have hc : ∀ {u v : Rat}, cmp u v ≤ 0 → u ≤ v := fun {u v} h => by
        refine Rat.not_lt.mp fun z => ?_
        unfold cmp at h
        rw [if_neg (by grind), if_pos z] at h
        omega
      constructor
      · rintro (h | ⟨h, h2⟩) hl
        · have := hc (o2 (lex3_asym hl)); grind
        · by_cases hst : s = t
          · have := inj h hst
            rw [this] at hl
            exact lex3_asym hl hl
          · have hs := hx.1; have ht := hy.1
            have : s = 1 ∧ t = 0 := by omega
            obtain ⟨rfl, rfl⟩ := this
            have hl : (0 : Int) < -1 ∨ ((0 : Int) = -1 ∧ (e' < -e ∨ (e' = -e ∧ c' < -c))) := hl
            omega
      · intro hl
        have h1 := hc (o1 hl)
        by_cases hw : wx = wy
        · right
          refine ⟨hw, ?_⟩
          have hs := hx.1; have ht := hy.1
          by_cases hst : s = 0 ∧ t = 1
          · exfalso
            obtain ⟨rfl, rfl⟩ := hst
            refine hl (.inl ?_)
            show (-1 : Int) < 0
            decide
          · omega
        · left; grind
end Lw
namespace Lw
open PySem PySem.Spec PyProof.Rows L2 Gd Fr
open scoped Rat
end Lw
namespace Lw
open PySem PySem.Spec PyProof.Rows L2 Gd Fr
open scoped Rat
end Lw
set_option exponentiation.threshold 20000
namespace Lw
open PySem PySem.Spec PyProof.Rows L2 Gd Fr
open scoped Rat
structure Sz (b p : Nat) (low high : Int) (P H J : Nat) : Prop where
  hP : b ^ p < 2 ^ P
  hH : b ^ high.toNat < 2 ^ H
  hL : b ^ (-low).toNat < 2 ^ J
  pj : P + H ≤ J
  p1 : 1 ≤ P
  h1 : 1 ≤ H
section
variable {b p : Nat} {low high : Int} {P H J : Nat} (F : Fm b p low high) (Z : Sz b p low high P H J)
include F Z
theorem Sz.pw {e : Int} (h : low ≤ e) (h' : e ≤ high) : Qz H J (pw b e) := by
  have b2 := F.b2
  refine pw_bd b2 ?_ ?_ Z.h1 (by have := Z.pj; have := Z.p1; omega)
  · exact Nat.lt_of_le_of_lt (Nat.pow_le_pow_right (by omega) (by omega)) Z.hH
  · exact Nat.lt_of_le_of_lt (Nat.pow_le_pow_right (by omega) (by omega)) Z.hL
theorem Sz.c {c : Int} (h0 : 0 ≤ c) (h1 : c < ((b ^ p : Nat) : Int)) : Qz P 1 (c : Rat) := by
  have := Z.hP
  exact ⟨by rw [Rat.num_intCast]; unfold Bd; omega, by rw [Rat.den_intCast]; unfold Bd; decide⟩
theorem Sz.half {q : Rat} (h0 : 0 ≤ q) (hq : Qz (J + 540) (J + 540) q) : Qz (P + 2 + (J + 540)) (2 + J) (((2 * cQ b (eQ b p low q) q + 1 : Int) : Rat) / 2 * Lw.pw b (eQ b p low q)) := by
  have b2 := F.b2
  have pj := Z.pj; have p1 := Z.p1; have z1 := Z.h1
  have hE := eQ_is (p := p) b2 low q
  have c0 := c_ge b2 h0 (eQ b p low q)
  have c1 := c_lt b2 hE
  have ebd := F.e_bd hq h0 hE
  have el := hE.1
  generalize eQ b p low q = e at *
  have hu : Qz (J + 540) J (Lw.pw b e) := by
    refine pw_bd b2 ?_ ?_ (by omega) (by omega)
    · have h3 : 2 ^ H ≤ 2 ^ (J + 540) := Nat.pow_le_pow_right (by decide) (by omega)
      rcases ebd with ⟨h, _, _⟩ | h | h
      · exact Nat.lt_of_le_of_lt (Nat.le_mul_of_pos_left _ q.den_pos) h
      · have : e.toNat = 0 := by omega
        rw [this, Nat.pow_zero]; exact Nat.one_lt_two_pow (by omega)
      · have h5 : b ^ e.toNat ≤ b ^ high.toNat := Nat.pow_le_pow_right (by omega) (by have := F.lh; omega)
        have := Z.hH
        omega
    · exact Nat.lt_of_le_of_lt (Nat.pow_le_pow_right (by omega) (by omega)) Z.hL
  have hc : Qz (P + 2) 1 ((2 * cQ b e q + 1 : Int) : Rat) := by
    have := Z.hP
    have e4 : 2 ^ (P + 2) = 2 ^ P * 4 := by rw [Nat.pow_add]
    exact ⟨by rw [Rat.num_intCast]; unfold Bd; omega, by rw [Rat.den_intCast]; unfold Bd; decide⟩
  have h2 : Qz 2 1 (2 : Rat) := ⟨by unfold Bd; decide, by unfold Bd; decide⟩
  have h2' : Qz (P + 2) 2 (((2 * cQ b e q + 1 : Int) : Rat) / 2) := by
    rw [Rat.div_def]
    have hi : Qz 1 2 ((2 : Rat)⁻¹) := ⟨by unfold Bd; decide +kernel, by unfold Bd; decide +kernel⟩
    have e1 : ((2 * cQ b e q + 1 : Int) : Rat) * (2 : Rat)⁻¹ = (2 * cQ b e q + 1) /. 2 := by rw [← Rat.div_def, Rat.divInt_eq_div]; rfl
    rw [e1]
    have hn : Bd (P + 2) (2 * cQ b e q + 1) := by have := hc.nu; rwa [Rat.num_intCast] at this
    obtain ⟨z1, z2⟩ := divInt_bd (n := 2 * cQ b e q + 1) (d := 2) (by decide) hn (b := 2) (by unfold Bd; decide)
    exact ⟨z1, z2⟩
  exact (h2'.mul hu).le (by omega) (by omega)
end
end Lw
set_option exponentiation.threshold 20000
namespace Gd
open PySem PySem.Spec PyProof.Rows L2
section
variable {X : Cx} {Γ : List VD} {B B1 B2 B' : Bag} {e a b c : Expr} {pos : Pos}
end
end Gd
set_option exponentiation.threshold 20000
namespace Lw
open PySem PySem.Spec PyProof.Rows L2 Gd Fr
open scoped Rat
section
variable {X : Cx} {Γ : List VD} {B B1 B2 B' : Bag} {e a b c : Expr} {pos : Pos} {x y : Int × Int × Int}
end
def plc (v : Va) : Prop := v.isZ = true → v.sg = 0
def Sp.gd (b : Nat) : Sp → Prop
  | .none => True
  | .span u v => plc u ∧ plc v ∧ u ≠ .inf 0 ∧ v ≠ .inf 1 ∧ ¬ lex3 (plT v) (plT u)
def Sp.ok2 (b p : Nat) (low high : Int) (s : Sp) : Prop := s.ok b p low high ∧ s.gd b
end Lw
namespace Lw
open PySem PySem.Spec PyProof.Rows L2 Gd Fr
open scoped Rat
def liesB : Sp → Sp → Bool
  | .none, _ => true
  | _, .none => false
  | .span a b, .span c d => !decide (lex3 (plT a) (plT c)) && !decide (lex3 (plT d) (plT b))
section
variable {b p : Nat} {low high : Int} (F : Fm b p low high)
theorem Sp.v2 {u v : Va} (h : (Sp.span u v).ok2 b p low high) : Vcan b p low high v ∧ v.isNan = false ∧ plc v := ⟨h.1.2.1, h.1.2.2, h.2.2.1⟩
include F
omit F in
theorem lex3_trans {x y z : Int × Int × Int} (h1 : ¬ lex3 y x) (h2 : ¬ lex3 z y) : ¬ lex3 z x := by unfold lex3 at *; omega
end
section
variable {b p : Nat} {low high : Int} (F : Fm b p low high)
include F
end
end Lw
set_option exponentiation.threshold 20000
namespace Lw
open PySem PySem.Spec PyProof.Rows L2 Gd Fr
open scoped Rat
section
variable {b p : Nat} {low high : Int} (F : Fm b p low high)
include F
end
end Lw
namespace Lw
open PySem PySem.Spec PyProof.Rows L2 Gd Fr
open scoped Rat
end Lw
set_option exponentiation.threshold 20000
namespace Lw
open PySem PySem.Spec PyProof.Rows L2 Gd Fr
open scoped Rat
theorem lex_irr (x : Int × Int × Int) : ¬ lex3 x x := fun h => lex3_asym h h
def Cm (N k : Nat) (x : Rat) : Prop := ∃ m : Int, x * ((N : Int) : Rat) = (m : Rat) ∧ Bd k m
theorem Cm.add {N k j : Nat} {x y : Rat} (h : Cm N k x) (h' : Cm N j y) : Cm N (k + j + 1) (x + y) := by
  obtain ⟨m, e, b⟩ := h
  obtain ⟨m', e', b'⟩ := h'
  exact ⟨m + m', by rw [Rat.intCast_add, ← e, ← e']; grind, b.add b'⟩
theorem Cm.neg {N k : Nat} {x : Rat} (h : Cm N k x) : Cm N k (-x) := by
  obtain ⟨m, e, b⟩ := h
  exact ⟨-m, by rw [Rat.intCast_neg, ← e]; grind, b.neg⟩
theorem Cm.le {N k j : Nat} {x : Rat} (h : Cm N k x) (e : k ≤ j) : Cm N j x := by
  obtain ⟨m, e1, b⟩ := h
  exact ⟨m, e1, b.le e⟩
theorem Cm.qz {N k d : Nat} {x : Rat} (h : Cm N k x) (hN : 0 < N) (hd : N < 2 ^ d) : Qz k d x := by
  obtain ⟨m, e, b⟩ := h
  rw [Rat.intCast_natCast] at e
  have h1 := den_le hN e
  refine ⟨?_, Bd.nat (Nat.lt_of_le_of_lt h1 hd)⟩
  have e2 : x.num * (N : Int) = m * (x.den : Int) := by
    rw [← Rat.intCast_inj, Rat.intCast_mul, Rat.intCast_mul, ← e, ← num_den x, Rat.intCast_natCast, Rat.intCast_natCast]; grind
  have e3 : x.num.natAbs * N = m.natAbs * x.den := by
    have := congrArg Int.natAbs e2
    rwa [Int.natAbs_mul, Int.natAbs_mul, Int.natAbs_natCast, Int.natAbs_natCast] at this
  have h3 : m.natAbs * x.den ≤ m.natAbs * N := Nat.mul_le_mul_left _ h1
  have h4 : x.num.natAbs ≤ m.natAbs := by
    rw [← e3] at h3
    exact Nat.le_of_mul_le_mul_right h3 hN
  unfold Bd at *
  omega
end Lw
set_option exponentiation.threshold 20000
namespace Gd
open PySem PySem.Spec PyProof.Rows L2
section
variable {X : Cx} {Γ : List VD} {B B1 B2 B' : Bag} {e a b c : Expr} {pos p : Pos} {Φ : Post}
theorem ex_catL (ha : EX X Γ B a fun y B1 => EX X Γ B1 b fun z B2 => ∃ ds es, y = .list ds ∧ z = .list es ∧ ds.length + es.length ≤ 1000 ∧ Φ (.list (ds ++ es)) B2) : EX X Γ B (.BinOp a .Add b pos) Φ :=
  ex_bin (ex_mono ha fun y B1 hy => ex_mono hy fun z B2 hz => by
    obtain ⟨ds, es, rfl, rfl, hl, hΦ⟩ := hz
    refine ⟨.list (ds ++ es), hΦ, fun g v w H0 H O r1 r2 Q q => ?_⟩
    obtain ⟨pa, xs, rfl, hx, rs⟩ := rvL (g := g) r1
    obtain ⟨pb, ys, rfl, hy, rt⟩ := rvL (g := g) r2
    refine ⟨pa, pb, xs, ys, rfl, rfl, O.ex _ _ hx, O.ex _ _ hy, by rw [rs.length, rt.length]; exact Nat.le_of_lt (small1000 hl), fun n hn => ?_⟩
    obtain ⟨t3, o3⟩ := laid (o := .lst (xs ++ ys)) O hn
    exact q _ _ _ t3 o3 (Rp.lst upd_same ((rs.app rt).mono t3.ex))) (fun _ _ h1 h2 => pe_op op_cat h1 h2)
end
end Gd
set_option exponentiation.threshold 20000
namespace Lw
open PySem PySem.Spec PyProof.Rows L2 Gd Fr
open scoped Rat
section
variable {b p : Nat} {low high : Int} (F : Fm b p low high)
include F
end
end Lw
set_option exponentiation.threshold 20000
namespace Lw
open PySem PySem.Spec PyProof.Rows L2 Gd Fr
open scoped Rat
inductive Xe | lo | hi | q (r : Rat)
deriving DecidableEq
namespace Xe
def d : Xe → PyData
  | .lo => .tuple [.int (-1), .int 0]
  | .hi => .tuple [.int 1, .int 0]
  | .q r => fq r
def n : Xe → Int
  | .lo => -1
  | .hi => 1
  | .q r => r.num
def e : Xe → Int
  | .q r => (r.den : Int)
  | _ => 0
theorem pair (x : Xe) : x.d = .tuple [.int x.n, .int x.e] := by cases x <;> rfl
def lt : Xe → Xe → Bool
  | .q a, .q b => decide (a < b)
  | .lo, .lo => false
  | .lo, _ => true
  | .q _, .hi => true
  | _, _ => false
def add : Xe → Xe → Xe
  | .q a, .q b => .q (a + b)
  | .q _, y => y
  | x, _ => x
def neg : Xe → Xe
  | .lo => .hi
  | .hi => .lo
  | .q a => .q (-a)
def mul (x y : Xe) : Xe :=
  if x.n = 0 ∨ y.n = 0 then .q 0 else match x, y with
    | .q a, .q b => .q (a * b)
    | _, _ => if decide (0 < x.n) = decide (0 < y.n) then .hi else .lo
def min (x y : Xe) : Xe := if y.lt x = true then y else x
def max (x y : Xe) : Xe := if x.lt y = true then y else x
theorem eqs (x y : Xe) : (decide (x.n = y.n) && decide (x.e = y.e)) = true ↔ x = y := by
  rw [Bool.and_eq_true, decide_eq_true_eq, decide_eq_true_eq]
  refine ⟨fun ⟨h1, h2⟩ => ?_, fun h => by rw [h]; exact ⟨rfl, rfl⟩⟩
  cases x with
  | q a =>
    have da : ¬ (a.den : Int) = 0 := den_ne a
    cases y with
    | q b =>
      have h1 : a.num = b.num := h1
      have h2 : (a.den : Int) = (b.den : Int) := h2
      congr 1
      exact Rat.ext h1 (by omega)
    | lo => exact absurd h2 da
    | hi => exact absurd h2 da
  | lo =>
    cases y with
    | q b => exact absurd h2.symm (den_ne b)
    | lo => rfl
    | hi => exact absurd h1 (by decide)
  | hi =>
    cases y with
    | q b => exact absurd h2.symm (den_ne b)
    | hi => rfl
    | lo => exact absurd h1 (by decide)
theorem eqv (x y : Xe) : PyData.eqv x.d y.d = true ↔ x = y := by rw [pair x, pair y, eqv_ii]; exact eqs x y
theorem irr (x : Xe) : x.lt x = false := by
  cases x with
  | q a => exact decide_eq_false (by grind)
  | _ => rfl
theorem asym {x y : Xe} (h : x.lt y = true) : y.lt x = false := by
  cases x <;> cases y <;> simp_all [lt] <;> grind
theorem tot {x y : Xe} (h : x.lt y = false) (h2 : y.lt x = false) : x = y := by
  cases x <;> cases y <;> simp_all [lt] <;> grind
theorem trans {x y z : Xe} (h : x.lt y = true) (h2 : y.lt z = true) : x.lt z = true := by
  cases x <;> cases y <;> cases z <;> simp_all [lt] <;> grind
def of (b : Nat) : Va → Xe
  | .inf s => if s = 0 then .hi else .lo
  | v => .q (v.wQ b)
theorem sh (x : Xe) : SeqAt.shaped x.d = true := by rw [pair]; exact shaped_ii _ _
end Xe
end Lw
namespace Gd
open PySem PySem.Spec PyProof.Rows L2
section
variable {X : Cx} {Γ : List VD} {B B1 : Bag} {e e1 elt : Expr} {scope : Scope} {pos pos' : Pos} {rest : List Stmt} {E : En} {d : VD}
end
end Gd
namespace Gd
open PySem PySem.Spec PyProof.Rows L2
section
variable {X : Cx} {Γ : List VD} {B B1 B2 : Bag} {e : Expr} {es : List Expr} {p pos : Pos}
end
end Gd
set_option exponentiation.threshold 20000
namespace Lw
open PySem PySem.Spec PyProof.Rows L2 Gd Fr
open scoped Rat
namespace Xe
theorem neg_lt (x y : Xe) : x.neg.lt y.neg = y.lt x := by
  cases x <;> cases y <;> simp [neg, lt] <;> grind
def cm (N k : Nat) : Xe → Prop
  | .q r => Cm N k r
  | _ => True
end Xe
end Lw
namespace Gd
open PySem PySem.Spec PyProof.Rows L2
section
variable {X : Cx} {Γ : List VD} {B B1 B2 : Bag} {i f : Expr}
end
end Gd
set_option exponentiation.threshold 20000
namespace Lw
open PySem PySem.Spec PyProof.Rows L2 Gd Fr
open scoped Rat
section
variable {b p : Nat} {low high : Int} (F : Fm b p low high)
include F
end
end Lw
set_option exponentiation.threshold 20000
namespace Lw
open PySem PySem.Spec PyProof.Rows L2 Gd Fr
open scoped Rat
namespace Xe
def inv : Xe → Xe
  | .q a => .q (1 / a)
  | _ => .q 0
theorem le_cases {x y : Xe} (h : y.lt x = false) : x = y ∨ x.lt y = true := by
  cases c : x.lt y with
  | true => exact .inr rfl
  | false => exact .inl (tot c h)
theorem le_trans {x y z : Xe} (h : y.lt x = false) (h2 : z.lt y = false) : z.lt x = false := by
  rcases le_cases h with rfl | a
  · exact h2
  · rcases le_cases h2 with rfl | b
    · exact h
    · exact asym (trans a b)
end Xe
section
variable {b p : Nat} {low high : Int} (F : Fm b p low high)
include F
end
section
variable {b p : Nat} {low high : Int} (F : Fm b p low high)
include F
end
end Lw
namespace Gd
open PySem PySem.Spec PyProof.Rows L2
section
variable {X : Cx} {i : Nat} {Γ : List VD} {B B1 B2 B' : Bag} {acc ds ys : List PyData} {e a b c : Expr} {es : List Expr} {d da db : VD} {y : PyData} {pos p p1 p2 p3 pos' : Pos} {rest ss s1 s2 : List Stmt} {E : EnO} {Es : En}
end
end Gd
set_option exponentiation.threshold 20000
namespace Lw
open PySem PySem.Spec PyProof.Rows L2 Gd Fr
open scoped Rat
section
variable {b p : Nat} {low high : Int} (F : Fm b p low high)
include F
end
def Xe.rt (b : Nat) (low : Int) (x : Xe) : Prop := x.e = 0 ∨ x.n ≤ 0 ∨ ∃ r, x = .q r ∧ RtOk b low r 3040 2341
end Lw
set_option exponentiation.threshold 20000
namespace Lw
open PySem PySem.Spec PyProof.Rows L2 Gd Fr
open scoped Rat
section
variable {b p : Nat} {low high : Int} (F : Fm b p low high)
include F
end
end Lw
set_option exponentiation.threshold 20000
namespace Lw
open PySem PySem.Spec PyProof.Rows L2 Gd Fr
open scoped Rat
section
variable {b p : Nat} {low high : Int} (F : Fm b p low high)
include F
end
end Lw
namespace Gd
open PySem PySem.Spec PyProof.Rows L2
section
variable {X : Cx} {Γ : List VD} {B B0 B1 B2 : Bag} {e fe i : Expr} {es : List Expr} {p pos dpos : Pos}
end
end Gd
set_option exponentiation.threshold 20000
namespace Lw
open PySem PySem.Spec PyProof.Rows L2 Gd Fr
open scoped Rat
section
variable {b p : Nat} {low high : Int} (F : Fm b p low high)
include F
end
end Lw
set_option exponentiation.threshold 20000
namespace Lw
open PySem PySem.Spec PyProof.Rows L2 Gd Fr
open scoped Rat
section
variable {b p : Nat} {low high : Int} (F : Fm b p low high)
include F
end
end Lw
set_option exponentiation.threshold 20000
namespace Lw
open PySem PySem.Spec PyProof.Rows L2 Gd Fr
open scoped Rat
section
variable {b p : Nat} {low high : Int} (F : Fm b p low high)
include F
end
end Lw
set_option exponentiation.threshold 20000
namespace Lw
open PySem PySem.Spec PyProof.Rows L2 Gd Fr
open scoped Rat
section
variable {b p : Nat} {low high : Int}
end
end Lw
namespace Gd
open PySem PySem.Spec PyProof.Rows L2
section
variable {X : Cx} {i : Nat} {Γ : List VD} {B B1 B2 B3 B' : Bag} {acc ds : List PyData} {e e2 a b c : Expr} {d da db : VD} {y y2 : PyData} {pos p p1 p2 p3 pos' px : Pos} {rest ss s1 s2 : List Stmt} {E : EnO}
theorem ow_ifO {x : Bool} (M : List VD → Bag → List PyData → Prop) (h : TJ X (Γ.set i (.da (.list acc))) B c x B1) (h1 : x = true → OwJ X i Γ B1 acc s1 { E with nx := M, fx := fun _ _ => False }) (h2 : x = false → OwJ X i Γ B1 acc s2 { E with nx := M, fx := fun _ _ => False })
    (k : ∀ Γ' B' acc', M Γ' B' acc' → OwJ X i Γ' B' acc' rest E) : OwJ X i Γ B acc (.If c s1 s2 pos :: rest) E := fun g σ A0 A1 a H0 H w D G =>
  ⟨_, pss_cons (ps_if (wt c) (ws s1) (ws s2)) (ws rest), by
    obtain ⟨zs, hz, rz⟩ := w.ls
    have sm : Same H0 (upd H0 a (.lst zs)) := fun b o e => by
      rw [upd_ne fun z : b = a => by rw [z, w.no] at e; cases e]; exact e
    have ev : EnvD X.K g (upd H0 a (.lst zs)) σ (Γ.set i (.da (.list acc))) := by
      have e := (w.ev.mono sm).set (v := .ref a) (d := .da (.list acc)) i (Rp.lst upd_same (rz.mono sm))
      have es : σ.set i (some (.ref a)) = σ := by
        apply List.ext_getElem?
        intro j
        by_cases hj : i = j
        · subst hj
          rw [List.getElem?_set_self (List.getElem?_eq_some_iff.mp w.at').1, w.at']
        · rw [List.getElem?_set_ne hj]
      rw [es] at e; exact e
    have on : On X.K g B (upd H0 a (.lst zs)) H := ⟨fun b o e => by
      by_cases hb : b = a
      · subst hb; rw [upd_same] at e; rw [hz]; exact e
      · rw [upd_ne hb] at e; exact w.on.ex b o e, fun b l e => by
      obtain ⟨p, q, r⟩ := w.on.bag b l e
      have hb : b ≠ a := fun z => w.off l (z ▸ e)
      have hl : l ≠ a := fun z => by rw [z, w.no] at r; cases r
      exact ⟨by rw [upd_ne hb]; exact p, q, by rw [upd_ne hl]; exact r⟩⟩
    refine h g σ _ H ev on _ fun H2 H' t o => ?_
    obtain ⟨w2, s3, h3⟩ := w.thaw hz rz t o
    have G2 := G.on s3
    have G' : GetsO X i { E with nx := M, fx := fun _ _ => False } g A0 A1 a (without H2 a) { D with nx := WS X rest D } :=
      ⟨fun Γ2 B2 acc2 σ2 H2 H2' q w3 m => k _ _ _ q g σ2 A0 A1 a H2 H2' w3 D (G2.on m), fun _ _ _ _ _ q => q.elim, G2.rt, G2.bk, G2.ct, G2.ro⟩
    cases x with
    | true => exact iteT (h1 rfl g σ A0 A1 a _ H' w2 _ G')
    | false => exact iteF (h2 rfl g σ A0 A1 a _ H' w2 _ G')⟩
end
end Gd
namespace Gd
open PySem PySem.Spec PyProof.Rows L2
section
variable {X : Cx} {Γ : List VD} {B B1 B2 : Bag} {i f : Expr}
end
end Gd
namespace Gd
open PySem PySem.Spec PyProof.Rows L2
section
variable {X : Cx} {Γ : List VD} {B B1 B2 : Bag} {a b : Expr} {pos : Pos}
end
end Gd
set_option exponentiation.threshold 20000
namespace Lw
open PySem PySem.Spec PyProof.Rows L2 Gd Fr
open scoped Rat
section
variable {b p : Nat} {low high : Int}
end
end Lw
set_option exponentiation.threshold 20000
namespace Lw
open PySem PySem.Spec PyProof.Rows L2 Gd Fr
open scoped Rat
end Lw
namespace Gd
open PySem PySem.Spec PyProof.Rows L2
theorem hid {K : PySem.W.Frag} {g : Gh} {B : Bag} {H0 H : Hp} {n : Addr} {o : HO} (O : On K g B H0 H) (hn : H n = none) : H0 n = none ∧ Off g n ∧ On K g B H0 (upd H n o) := by
  have n0 : H0 n = none := O.ex.free hn
  refine ⟨n0, fun l e => ?_, fun q u e => ?_, fun q l e => ?_⟩
  · obtain ⟨_, q, _⟩ := O.bag n l e
    rw [hn] at q; cases q
  · rw [upd_ne (ne_of_none e n0)]; exact O.ex _ _ e
  · obtain ⟨a1, a2, a3⟩ := O.bag q l e
    exact ⟨a1, by rw [upd_ne (ne_of_none a2 hn)]; exact a2, a3⟩
section
variable {X : Cx} {Γ : List VD} {B B1 B2 : Bag} {e1 e2 e3 e4 i : Expr} {pos dpos : Pos}
end
section
variable {X : Cx} {Γ : List VD} {B B1 B2 B' : Bag} {e a b c elt : Expr} {scope : Scope} {j : Nat} {x : Str} {px : Pos} {ds ys acc : List PyData} {pos pos' p : Pos} {rest : List Stmt} {E : EnO} {d : VD} {y y1 : PyData}
theorem new_start {g : Gh} {H0 H H1 H' : Hp} {A : Addr} (t : To g H0 H H1 H') (o : On X.K g B1 H1 H') (off : Off g A) (hA : H' A = none) : H A = none := by
  cases h : H A with
  | none => rfl
  | some u =>
    cases h0 : H0 A with
    | none => have := (t.un A u off h0 h).2; rw [hA] at this; cases this
    | some w => have := o.ex _ _ (t.ex _ _ h0); rw [hA] at this; cases this
variable {i : Nat}
end
end Gd
set_option exponentiation.threshold 20000
namespace Lw
open PySem PySem.Spec PyProof.Rows L2 Gd Fr
open scoped Rat
inductive Stp where
  | input (i : Nat)
  | told (q : Rat)
  | op (w : Str) (is : List Nat)
def Stp.d : Stp → PyData
  | .input i => .tuple [.str "input", .int (i : Nat)]
  | .told q => .tuple [.str "told", fq q]
  | .op w is => .tuple (.str w :: is.map fun i => PyData.int (i : Nat))
def pgWords : List Str := ["add", "take", "if", "least", "greatest", "opposite", "size", "times", "by", "fused", "root"]
def arity (w : Str) : Nat := if ("fused" : Str) = w then 3 else if ("if" : Str) = w then 4 else if ("opposite" : Str) = w then 1 else if ("size" : Str) = w then 1 else if ("root" : Str) = w then 1 else 2
def Stp.ok (many k : Nat) : Stp → Prop
  | .input i => i < many
  | .told q => Qz 11 5 q
  | .op w is => w ∈ pgWords ∧ is.length = arity w ∧ ∀ i ∈ is, i < k
abbrev SB := Sp × Bool
namespace Xe
end Xe
section
variable {b p : Nat} {low high : Int} (F : Fm b p low high)
include F
end
end Lw
namespace Gd
open PySem PySem.Spec PyProof.Rows L2
def FJ2 (X : Cx) (Γ : List VD) (B : Bag) (e : Expr) (ds : List PyData) (B' : Bag) : Prop :=
  ∀ g σ H0 H, EnvD X.K g H0 σ Γ → On X.K g B H0 H → ∀ Q : VK,
    (∀ a zs H0' H', To g H0 H H0' H' → On X.K g B' H0' H' → RpAll X.K H0' zs ds → H a = none → H0' a = none → H' a = some (.lst zs) → Q (.ref a) H') → WE X e σ H Q
def DefSpF (K : PySem.W.Frag) (R : Rel) : Sp := fun vs H Q _ =>
  ∃ g Γ B H0 ds B', RvAll K g H0 vs Γ ∧ On K g B H0 H ∧ R Γ B (.list ds) B' ∧
    ∀ a zs H0' H', To g H0 H H0' H' → On K g B' H0' H' → RpAll K H0' zs ds → H a = none → H0' a = none → H' a = some (.lst zs) → Q (.ref a) H'
def CalF (P : Program) (w : World) (K : PySem.W.Frag) (mg : Str → Option Value) (base : Heap) (x : Str) (k : Nat) (R : Rel) : Prop :=
  ∃ f fd ps, FnG P w K mg base k f fd ps (DefSpF K R) ∧ mg x = some (.ref f) ∧ PySem.W.keepIn K (.ref f) = true ∧ Binds K fd ps []
def SJF (X : Cx) (Γ : List VD) (B : Bag) (ss : List Stmt) (ds : List PyData) (B' : Bag) : Prop :=
  ∀ g σ H0 H, EnvD X.K g H0 σ Γ → On X.K g B H0 H → ∀ D : Ends,
    (∀ a zs H0' H', To g H0 H H0' H' → On X.K g B' H0' H' → RpAll X.K H0' zs ds → H a = none → H0' a = none → H' a = some (.lst zs) → D.rt (.ref a) H') → WS X ss D σ H
theorem off_none {K : PySem.W.Frag} {g : Gh} {B : Bag} {H0 H : Hp} {a : Addr} (o : On K g B H0 H) (h : H a = none) : Off g a := fun l e => by
  obtain ⟨_, q, _⟩ := o.bag a l e
  rw [h] at q; cases q
theorem calf_at {P : Program} {w : World} {K : PySem.W.Frag} {mg : Str → Option Value} {base : Heap} {x : Str} {st : Stmt} {N ps : List Str} {k : Nat} {R : Rel}
    (T : At K mg x st ps) (S : FnScope N ps (defScope st)) (len : ∀ Γ B r B', R Γ B r B' → Γ.length = ps.length)
    (body : ∀ (f : Addr) (cdv : Value) (A : Around) (out : List Env) (s : Shared) (H : Hp) (E : XK),
      Gx k (cxOf CX0 P w K mg base N x (defScope st) f cdv A out s H E).nox → ∀ Γ B ds B', R Γ B (.list ds) B' →
      SJF (cxOf CX0 P w K mg base N x (defScope st) f cdv A out s H E).nox (Γ ++ List.replicate (N.length - ps.length) .no) B (defBody st) ds B') : CalF P w K mg base x (k + 1) R := by
  obtain ⟨f, fd, F, hm, hb⟩ := T
  have hpl : ps.length ≤ N.length := by
    have := congrArg List.length S.pre
    rw [List.length_take] at this; omega
  refine ⟨f, fd, ps, fnG_of F S ?_ ?_, hm, F.kp, hb⟩
  · rintro vs H Q E ⟨g, Γ, B, H0, ds, B', a, b, c, d⟩
    rw [a.length]; exact len _ _ _ _ c
  · intro cdv A out s H vs Q E G ⟨g, Γ, B, H0, ds, B', a, b, c, d⟩
    have hl := len _ _ _ _ c
    have E0' := start_env (N := N) a (by rw [hl]; exact hpl)
    rw [hl] at E0'
    exact body f cdv A out s H E G Γ B ds B' c g _ H0 H E0' b _ d
section
variable {X : Cx} {i : Nat} {Γ : List VD} {B B1 B2 B' : Bag} {acc ds dd : List PyData} {e c : Expr} {es : List Expr} {d : VD} {y : PyData} {pos p p1 p2 p3 pos' : Pos} {rest ss s1 s2 : List Stmt}
theorem fj2_call {x : Str} {k : Nat} {R : Rel} {vs : List VD} (c : CalF X.prog X.w X.K X.mg X.base x k R) (g : Gx k X) (ha : AJ X Γ B (e :: es) vs B1) (hR : R vs B1 (.list ds) B2)
    (hg : Gl X x := by rfl) (hdb : (x == ("__debug__" : Str)) = false := by decide) (he : starEach (e :: es) X.env = (false, eval e X.env) :: starEach es X.env := by rfl)
    (hpl : (backTo pos (starEach es X.env)).any (·.1) = false := by rfl) : FJ2 X Γ B (.Call (.Name x p) (e :: es) [] pos) ds B2 := by
  obtain ⟨f, fd, ps, F, hm, hk, hb⟩ := c
  intro gh σ H0 H E O Q q
  refine ⟨fun σ H Q => WA X (e :: es) σ H fun vs H1 => DefSpF X.K R vs H1 Q E0, ⟨fun pins s σ H Q I h => ?_⟩, ?_⟩
  · refine wpAny_Call_Name_kw (ld_glob I hg hm ?_ hdb)
    refine PySem.W.callWith_K (h₀ := X.base) I.ok.mod.kin hk (thn ((wa (e :: es)).run pos pins s σ H _ I h) ?_) he hpl
    rintro us s1 ⟨vs, H1, I1, r1, q1⟩
    exact ⟨I1.kIn, runG F g hb I1 r1 q1⟩
  · refine ha gh σ H0 H E O _ fun vs H1 H' t o rs => ?_
    refine ⟨gh, _, B1, H1, ds, B2, rs, o, hR, fun a zs H2 H'' t2 o2 rr e1 e2 e3 => q a zs H2 H'' (t.trans t2) o2 rr (new_start t o (off_none o e1) e1) e2 e3⟩
theorem sj_own2 {x : Str} {Es : En} (i : Nat) (nd : X.N.Nodup) (h : FJ2 X Γ B e ds B1) (hΓ : i < Γ.length)
    (k : OwJ X i (Γ.set i .no) B1 ds rest { nx := fun Γ' B' acc => Es.nx (Γ'.set i (.da (.list acc))) B', fx := Es.nx, rt := Es.rt, bk := fun Γ' B' acc => Es.bk (Γ'.set i (.da (.list acc))) B', ct := fun Γ' B' acc => Es.ct (Γ'.set i (.da (.list acc))) B' })
    (hi : X.N[i]? = some x := by rfl) (hx : Loc X.env.scope x := by first | exact Or.inl rfl | exact Or.inr rfl) (hs : swapsWith e (some (.Name x pos')) pos.line X.env = pure false := by rfl)
    (hf : X.fn x = true ∨ X.env.scope.names.lookup x = some .local := by first | exact Or.inl rfl | exact Or.inr rfl) : SJ X Γ B (.Assign [.Name x pos'] e pos :: rest) Es := fun g σ H0 H Ev O D G =>
  ⟨_, pss_cons (ps_set nd hi hx (we e) hs hf) (ws rest), h g σ H0 H Ev O _ fun a zs H1 H' t o r n0 n1 hz => by
    have off := off_none O n0
    have hi' : i < σ.length := by rw [Ev.len]; exact hΓ
    have ev : EnvD X.K g H1 (σ.set i (some (.ref a))) (Γ.set i .no) := (Ev.mono t.ex).set i (show Rv X.K g H1 (.ref a) .no from trivial)
    refine k g _ H0 H a H1 _ ⟨t, n0, off, ev, List.getElem?_set_self hi', n1, ⟨zs, hz, r⟩, o⟩ D ⟨?_, ?_, ?_, ?_, ?_, ?_⟩
    · intro Γ' B' acc σ' H2 H2' q w _
      obtain ⟨H3, t3, e3, o3⟩ := w.freeze
      exact G.nx _ _ _ _ _ q t3 e3 o3
    · intro Γ' B' σ' H2 H2' q t2 e2 o2
      exact G.nx _ _ _ _ _ q t2 e2 o2
    · intro r B' v H2 H2' q t2 o2 rv
      exact G.rt _ _ _ _ _ q t2 o2 rv
    · intro Γ' B' acc σ' H2 H2' q w _
      obtain ⟨H3, t3, e3, o3⟩ := w.freeze
      exact G.bk _ _ _ _ _ q t3 e3 o3
    · intro Γ' B' acc σ' H2 H2' q w _
      obtain ⟨H3, t3, e3, o3⟩ := w.freeze
      exact G.ct _ _ _ _ _ q t3 e3 o3
    · intro _ _ _ _ _ _ q; exact q.elim⟩
variable {E : EnO}
end
end Gd
namespace Gd
open PySem PySem.Spec PyProof.Rows L2
section
variable {X : Cx} {Γ : List VD} {B B1 B2 B' : Bag} {e a b c elt : Expr} {scope : Scope} {j : Nat} {x : Str} {px : Pos}
theorem rj_mapL {α : Type} (L : List α) (D z : α → PyData) (hi : EJ X Γ B e (.da (.list (L.map D))) B1) (hz : L.length ≤ 1000) (h : ∀ a ∈ L, Blk X scope fun Y => EJ Y (Γ.set j (.da (D a))) B1 elt (.da (z a)) B1) :
    RJ X Γ B (tLc (iList X.K (WE X e)) (gName j) tYes (WB X scope elt) [j]) (.da (.list (L.map z))) B1 :=
  rj_lc (ds := L.map D) (ys := L.map z) (fun _ => B1) hi (by rw [List.length_map, List.length_map]) (by rw [List.length_map]; exact hz) fun i y w hy hw => by
    rw [List.getElem?_map] at hy hw
    obtain ⟨a, ha, rfl⟩ := Option.map_eq_some_iff.mp hy
    rw [ha] at hw
    obtain rfl : z a = w := Option.some.inj hw
    exact h a (List.mem_of_getElem? ha)
theorem rj_mapT {α : Type} (L : List α) (D z : α → PyData) (hi : EJ X Γ B e (.da (.tuple (L.map D))) B1) (hz : L.length ≤ 1000) (h : ∀ a ∈ L, Blk X scope fun Y => EJ Y (Γ.set j (.da (D a))) B1 elt (.da (z a)) B1) :
    RJ X Γ B (tLc (iTup X.K (WE X e)) (gName j) tYes (WB X scope elt) [j]) (.da (.list (L.map z))) B1 :=
  rj_lcT (ds := L.map D) (ys := L.map z) (fun _ => B1) hi (by rw [List.length_map, List.length_map]) (by rw [List.length_map]; exact hz) fun i y w hy hw => by
    rw [List.getElem?_map] at hy hw
    obtain ⟨a, ha, rfl⟩ := Option.map_eq_some_iff.mp hy
    rw [ha] at hw
    obtain rfl : z a = w := Option.some.inj hw
    exact h a (List.mem_of_getElem? ha)
end
end Gd
namespace Gd
open PySem PySem.Spec PyProof.Rows L2
section
variable {X : Cx} {i : Nat} {Γ : List VD} {B B1 B2 B' : Bag} {acc ds : List PyData} {e a b c : Expr} {es : List Expr} {d : VD} {y : PyData} {pos p p1 p2 p3 pos' : Pos} {rest ss s1 s2 : List Stmt} {E : EnO} {Φ : List PyData → Bag → Prop}
end
end Gd
set_option exponentiation.threshold 20000
namespace Lw
open PySem PySem.Spec PyProof.Rows L2 Gd Fr
open scoped Rat
section
variable {b p : Nat} {low high : Int} (F : Fm b p low high)
include F
end
end Lw
set_option exponentiation.threshold 20000
namespace Lw
open PySem PySem.Spec PyProof.Rows L2 Gd Fr
open scoped Rat
def xle (x y : Xe) : Prop := y.lt x = false
theorem xle.refl (x : Xe) : xle x x := Xe.irr x
theorem xle.trans {x y z : Xe} (h : xle x y) (h2 : xle y z) : xle x z := Xe.le_trans h h2
theorem xle.tot (x y : Xe) : xle x y ∨ xle y x := by
  unfold xle
  cases c : y.lt x with
  | false => exact .inl rfl
  | true => exact .inr (Xe.asym c)
theorem xle.neg {x y : Xe} (h : xle x y) : xle y.neg x.neg := by unfold xle; rw [Xe.neg_lt]; exact h
end Lw
set_option exponentiation.threshold 20000
namespace Lw
open PySem PySem.Spec PyProof.Rows L2 Gd Fr
open scoped Rat
section
variable {b p : Nat} {low high : Int} (F : Fm b p low high)
include F
end
def spin (s t : Sp) : Prop := liesB s t = true
theorem spin_span {u v x y : Va} : spin (.span u v) (.span x y) ↔ ¬ lex3 (plT u) (plT x) ∧ ¬ lex3 (plT y) (plT v) := by
  show ((!decide (lex3 (plT u) (plT x))) && !decide (lex3 (plT y) (plT v))) = true ↔ _
  rw [Bool.and_eq_true, Bool.not_eq_true', Bool.not_eq_true', decide_eq_false_iff_not, decide_eq_false_iff_not]
theorem spin.refl (s : Sp) : spin s s := by
  cases s with
  | none => rfl
  | span u v => exact spin_span.mpr ⟨lex_irr _, lex_irr _⟩
theorem spin.trans {s t u : Sp} (h : spin s t) (h2 : spin t u) : spin s u := by
  cases s with
  | none => rfl
  | span a b => cases t with
    | none => cases h
    | span c d => cases u with
      | none => cases h2
      | span e f =>
        have h := spin_span.mp h; have h2 := spin_span.mp h2
        exact spin_span.mpr ⟨lex3_trans h2.1 h.1, lex3_trans h.2 h2.2⟩
section
variable {b p : Nat} {low high : Int} (F : Fm b p low high)
include F
end
end Lw
set_option exponentiation.threshold 20000
namespace Lw
open PySem PySem.Spec PyProof.Rows L2 Gd Fr
open scoped Rat
section
variable {b p : Nat} {low high : Int} (F : Fm b p low high)
include F
omit F in
def sbin (x' x : SB) : Prop := spin x'.1 x.1 ∧ (x.2 = true → x'.2 = true)
omit F in
theorem sbin.refl (x : SB) : sbin x x := ⟨spin.refl _, fun h => h⟩
omit F in
def bxin (box' box : List Sp) : Prop := box'.length = box.length ∧ ∀ (i : Nat) s s', box[i]? = some s → box'[i]? = some s' → spin s' s
end
end Lw
namespace Gd
open PySem PySem.Spec PyProof.Rows L2
section
variable {X : Cx} {Γ : List VD} {B B1 B2 B' : Bag} {e a b c elt : Expr} {scope : Scope} {j : Nat} {x : Str} {px pos : Pos} {Φ : Post}
end
end Gd
set_option exponentiation.threshold 20000
namespace Lw
open PySem PySem.Spec PyProof.Rows L2 Gd Fr
open scoped Rat
section
variable {b p : Nat} {low high : Int} (F : Fm b p low high)
include F
end
theorem bxin.refl (L : List Sp) : bxin L L := ⟨rfl, fun i s s' h h' => by rw [h] at h'; obtain rfl := Option.some.inj h'; exact spin.refl _⟩
theorem bxin.trans {L L' L'' : List Sp} (h : bxin L L') (h' : bxin L' L'') : bxin L L'' := ⟨by rw [h.1, h'.1], fun i s s' e e' => by
  have hl : i < L'.length := by rw [h'.1]; exact (List.getElem?_eq_some_iff.mp e).1
  have e2 : L'[i]? = some L'[i] := List.getElem?_eq_getElem hl
  exact (h.2 i _ _ e2 e').trans (h'.2 i _ _ e e2)⟩
end Lw
namespace Lw
open PySem PySem.Spec PyProof.Rows L2 Gd Fr
end Lw
set_option exponentiation.threshold 20000
namespace Lw
open PySem PySem.Spec PyProof.Rows L2 Gd Fr
open scoped Rat
structure Sml (b p : Nat) (low high : Int) : Prop where
  bp : b ^ p < 2 ^ 8
  bh : b ^ high.toNat < 2 ^ 11
  bl : b ^ (-low).toNat < 2 ^ 20
  nn : 0 ≤ (p : Int) + high + (-low).toNat
  bt : b ^ ((p : Int) + high + (-low).toNat).toNat < 2 ^ 17
section
variable {b p : Nat} {low high : Int} (F : Fm b p low high) (S : Sml b p low high)
include F S
end
def pt2 (x : Rat) : Xe × Xe := (.q x, .q x)
section
variable {b p : Nat} {low high : Int} (F : Fm b p low high)
include F
end
section
variable {b p : Nat} {low high : Int} (F : Fm b p low high)
include F
end
end Lw
set_option exponentiation.threshold 20000
namespace Lw
open PySem PySem.Spec PyProof.Rows L2 Gd Fr
open scoped Rat
end Lw
namespace Lw
end Lw
set_option exponentiation.threshold 20000
namespace Lw
open PySem PySem.Spec PyProof.Rows L2 Gd Fr
open scoped Rat
end Lw
set_option exponentiation.threshold 20000
namespace Lw
open PySem PySem.Spec PyProof.Rows L2 Gd Fr
open scoped Rat
section
variable {b p : Nat} {low high : Int} (F : Fm b p low high)
include F
end
end Lw
namespace Gd
open PySem PySem.Spec PyProof.Rows L2
section
variable {X : Cx} {Γ : List VD} {B B1 : Bag} {a : Expr} {p p2 p3 pos : Pos}
variable {elt e : Expr} {scope : Scope} {j : Nat} {ds : List PyData} {Φ : Post}
end
end Gd
set_option exponentiation.threshold 20000
namespace Lw
open PySem PySem.Spec PyProof.Rows L2 Gd Fr
open scoped Rat
section
variable {t : F4} (F : Fm t.1 t.2.1 t.2.2.1 t.2.2.2)
include F
end
end Lw
set_option exponentiation.threshold 20000
namespace Lw
open PySem PySem.Spec PyProof.Rows L2 Gd Fr
open scoped Rat
end Lw
namespace Lw
open PySem PySem.Spec PyProof.Rows L2 Gd Fr
open scoped Rat
end Lw
set_option exponentiation.threshold 20000
namespace Lw
open PySem PySem.Spec PyProof.Rows L2 Gd Fr
open scoped Rat
theorem vad_inj {u v : Va} (h : u.d = v.d) : u = v := by
  have e : u.l = v.l := by injection h
  cases u <;> cases v <;> simp [Va.l] at e ⊢ <;> first | exact e | (simp_all)
end Lw
namespace Gd
open PySem PySem.Spec PyProof.Rows L2
section
variable {X : Cx} {i : Nat} {Γ : List VD} {B : Bag} {acc : List PyData} {e : Expr} {pos : Pos} {s1 rest : List Stmt} {E : EnO}
end
end Gd
namespace Gd
open PySem PySem.Spec PyProof.Rows L2
section
variable {X : Cx} {Γ : List VD} {B B1 B2 : Bag} {a b c e elt : Expr} {scope : Scope} {pos p pos' : Pos} {rest s1 : List Stmt} {E : En} {d : VD}
end
section
variable {X : Cx} {Γ : List VD} {B : Bag} {a b : Expr} {pos : Pos} {Φ : Post}
end
end Gd
namespace Gd
open PySem PySem.Spec PyProof.Rows L2 RZ
section
variable {X : Cx} {Γ : List VD} {B B1 B2 B' : Bag} {a b c e e1 elt : Expr} {es : List Expr} {scope : Scope} {pos pos' p p2 p3 : Pos} {rest s1 : List Stmt} {E : En} {d : VD} {ds : List PyData} {y : PyData}
end
end Gd
namespace Gd
open PySem PySem.Spec PyProof.Rows L2
def dict1 : List (PyData × PyData) → Bool
  | [(.tuple [.int i, .int j], .int n)] => decide (i.natAbs.log2 < 1920) && (decide (j.natAbs.log2 < 1920) && decide (n.natAbs.log2 < 1920))
  | _ => false
theorem dict1_inv {kvs : List (PyData × PyData)} (h : dict1 kvs = true) : ∃ i j n, kvs = [(.tuple [.int i, .int j], .int n)] ∧ i.natAbs.log2 < 1920 ∧ j.natAbs.log2 < 1920 ∧ n.natAbs.log2 < 1920 := by
  unfold dict1 at h
  split at h
  · rename_i i j n
    simp only [Bool.and_eq_true, decide_eq_true_eq] at h
    exact ⟨i, j, n, rfl, h.1, h.2.1, h.2.2⟩
  · cases h
mutual
def datB : PyData → Bool
  | .none => true
  | .bool _ => true
  | .int i => decide (i.natAbs.log2 < 1920)
  | .str x => PyData.strOk x
  | .list xs => datA xs
  | .tuple xs => datA xs
  | .dict kvs => kvs.isEmpty || dict1 kvs
def datA : List PyData → Bool
  | [] => true
  | x :: xs => datB x && datA xs
end
structure OkA (d : PyData) : Prop where
  any : datB d = true
  dp : d.depth ≤ 60
  bulk : d.bulk ≤ 5000
mutual
theorem any_show : ∀ d : PyData, datB d = true → d.showable = true ∧ d.leavesShort 1921 = true
  | .none, _ => by simp only [PyData.showable, PyData.leavesShort, and_self]
  | .bool _, _ => by simp only [PyData.showable, PyData.leavesShort, and_self]
  | .int i, h => by
    simp only [datB] at h
    exact ⟨by simp only [PyData.showable]; exact h, nice_short (.int i) (by simp only [nice]; exact h)⟩
  | .str x, h => by
    simp only [datB] at h
    exact ⟨by simp only [PyData.showable], nice_short (.str x) (by simp only [nice]; exact h)⟩
  | .list xs, h => by simp only [datB] at h; simp only [PyData.showable, PyData.leavesShort]; exact any_showA xs h
  | .tuple xs, h => by simp only [datB] at h; simp only [PyData.showable, PyData.leavesShort]; exact any_showA xs h
  | .dict kvs, h => by
    simp only [datB, Bool.or_eq_true, List.isEmpty_iff] at h
    rcases h with h | h
    · subst h
      simp only [PyData.showable, PyData.showableKv, PyData.leavesShort, PyData.leavesShortKv, and_self]
    · obtain ⟨i, j, n, rfl, h1, h2, h3⟩ := dict1_inv h
      have k : ∀ i : Int, i.natAbs.log2 < 1920 → PyData.showable (.int i) = true ∧ PyData.leavesShort 1921 (.int i) = true := fun i h =>
        ⟨by simp only [PyData.showable]; exact decide_eq_true h, nice_short (.int i) (by simp only [nice]; exact decide_eq_true h)⟩
      simp only [PyData.showable, PyData.showableAll, PyData.showableKv, PyData.leavesShort, PyData.leavesShortAll, PyData.leavesShortKv, Bool.and_eq_true, Bool.and_true]
      have k1 := k i h1
      have k2 := k j h2
      have k3 := k n h3
      simp only [PyData.showable, PyData.leavesShort] at k1 k2 k3
      simp only [k1, k2, k3, and_self]
theorem any_showA : ∀ ds : List PyData, datA ds = true → PyData.showableAll ds = true ∧ PyData.leavesShortAll 1921 ds = true
  | [], _ => by simp only [PyData.showableAll, PyData.leavesShortAll, and_self]
  | x :: xs, h => by
    simp only [datA, Bool.and_eq_true] at h
    simp only [PyData.showableAll, PyData.leavesShortAll, Bool.and_eq_true]
    exact ⟨⟨(any_show x h.1).1, (any_showA xs h.2).1⟩, (any_show x h.1).2, (any_showA xs h.2).2⟩
end
theorem OkA.len {d : PyData} (h : OkA d) : d.shown.length ≤ sizeLine := by
  have h1 := PyData.shown_le_bulk 1921 (by decide) d (any_show d h.any).2
  have h2 := h.bulk
  rw [show sizeLine = 16777216 from by decide]
  omega
theorem Rp.dict1 {K : PySem.W.Frag} {H : Hp} {v : V} {i j n : Int} (h : Rp K H v (.dict [(.tuple [.int i, .int j], .int n)])) : ∃ a, v = .ref a ∧ H a = some (.dT [([.inl i, .inl j], V.int n)]) := by
  generalize hd : PyData.dict [(.tuple [.int i, .int j], .int n)] = d at h
  cases h with
  | non => cases hd
  | bl b => cases hd
  | int i => cases hd
  | str x => cases hd
  | lst _ _ => cases hd
  | tup _ _ => cases hd
  | dct h => cases hd
  | dctT kvs h =>
    injection hd with hd
    cases kvs with
    | nil => cases hd
    | cons p r =>
      obtain ⟨k, m⟩ := p
      cases r with
      | cons q r => simp only [List.map_cons, List.cons.injEq] at hd; obtain ⟨_, hd⟩ := hd; cases hd
      | nil =>
        simp only [List.map_cons, List.map_nil, List.cons.injEq, Prod.mk.injEq, PyData.tuple.injEq, PyData.int.injEq, and_true] at hd
        obtain ⟨hk, rfl⟩ := hd
        cases k with
        | nil => cases hk
        | cons x k =>
          cases k with
          | nil => simp only [List.map_cons, List.map_nil, List.cons.injEq] at hk; obtain ⟨_, hk⟩ := hk; cases hk
          | cons y k =>
            cases k with
            | cons z k => simp only [List.map_cons, List.cons.injEq] at hk; obtain ⟨_, _, hk⟩ := hk; cases hk
            | nil =>
              simp only [List.map_cons, List.map_nil, List.cons.injEq, PyData.int.injEq, and_true] at hk
              obtain ⟨rfl, rfl⟩ := hk
              exact ⟨_, rfl, h⟩
section
variable {X : Cx} {pins : List (Addr × Obj)} {σ : L2.St} {H : Hp} {s : Shared}
end
section
variable {X : Cx} {Γ : List VD} {B B1 B2 B' : Bag} {a b e : Expr} {es : List Expr} {d : VD} {y : PyData} {pos p pos' : Pos}
end
end Gd
namespace HT
open PySem PySem.Spec PyProof.Rows L2
section
variable {prog : Program} {w : World} {A : Around} {E : Value → Shared → Prop} {s : Shared}
end
end HT
namespace Gd
open PySem PySem.Spec PyProof.Rows L2
section
variable {X : Cx} {Γ : List VD} {B B1 : Bag} {a b e : Expr} {k : Nat} {p p1 p2 p3 pos : Pos} {ds : List PyData} {Φ : Post}
end
end Gd
namespace Gd
open PySem PySem.Spec PyProof.Rows L2
section
variable {X : Cx} {Γ : List VD} {B B1 B2 B3 B' : Bag} {a b e : Expr} {es : List Expr} {d : VD} {y : PyData} {pos p pos' p1 p2 p3 p4 : Pos}
def rLstE (K : PySem.W.Frag) (f : Bool → Bool) : R2 := fun x y H Q => ∃ ds : List PyData, Rp K H x (.list ds) ∧ Rp K H y (.list []) ∧ Q (.bl (f ds.isEmpty)) H
theorem lst_two {pins : List (Addr × Obj)} {σ : L2.St} {s : Shared} {H : Hp} {ds : List PyData} {x y : V} {v u : Value} (I : Inv X pins σ H s) (hx : Rp X.K H x (.list ds)) (hy : Rp X.K H y (.list [])) (rx : RelV x v) (ry : RelV y u) :
    ∃ (l b : Addr) (its : Array Value), v = .ref l ∧ u = .ref b ∧ s.heap.IsList l its ∧ s.heap.IsList b #[] ∧ its.size = ds.length := by
  cases hx with
  | lst h r =>
    cases hy with
    | lst h' r' =>
      cases r'
      cases rx
      cases ry
      obtain ⟨its, rv, ⟨o, k, ho, hc, hn, hd⟩, _⟩ := I.list (SqL.of h)
      obtain ⟨its', rv', ⟨o', k', ho', hc', hn', hd'⟩, _⟩ := I.list (SqL.of h')
      cases rv'
      exact ⟨_, _, its.toArray, rfl, rfl, ⟨o, ho, hc, k, hd⟩, ⟨o', ho', hc', k', hd'⟩, by have := rv.length; have := r.length; simp; omega⟩
theorem op_neLE (hu : X.A.units + 64 < cLine) : OpR X (compareOp .NotEq) (rLstE X.K not) := by
  intro pins s σ H x y v u Q I rx ry h
  obtain ⟨ds, hx, hy, q⟩ := h
  obtain ⟨l, b, its, rfl, rfl, h1, h2, hl⟩ := lst_two I hx hy rx ry
  cases ds with
  | nil =>
    have hz : its.size = (#[] : Array Value).size := hl
    have k := SeqAt.RcNeAt.lists (A := X.A) (e := fun _ => true) h1 h2 hz (by omega) (fun j j1 z => absurd z (Nat.not_lt_zero j))
    refine k X.prog X.w _ _ ⟨.bl _, H, I, rfl, ?_⟩
    rw [show its.size = 0 from hl]
    exact q
  | cons d0 ds =>
    have hz : (its.size != (#[] : Array Value).size) = true := by
      rw [hl]; rfl
    have k := SeqAt.RcNeAt.lists_lengths (A := X.A) h1 h2 hz (by omega)
    exact k X.prog X.w _ _ ⟨.bl _, H, I, rfl, q⟩
theorem tj_neLE {ds : List PyData} (hu : X.A.units + 64 < cLine) (ha : EJ X Γ B a (.da (.list ds)) B1) (hb : EJ X Γ B1 b (.da (.list [])) B2) : TJ X Γ B (.Compare a [.NotEq] [b] pos) (!ds.isEmpty) B2 :=
  tj_cmp ha hb (op_neLE hu) (nomark _) fun g v w H0 H O r1 r2 Q q => ⟨ds, Rp.mono O.ex r1, Rp.mono O.ex r2, q H0 H To.refl O⟩
end
end Gd
namespace Gd
open PySem PySem.Spec PyProof.Rows L2 RZ
section
variable {X : Cx} {Γ : List VD} {B B1 B2 B' : Bag} {e a b c : Expr} {elt : Expr} {scope : Scope} {j : Nat} {x : Str} {px : Pos} {ds ys : List PyData} {pos pos' : Pos} {acc : List PyData}
end
end Gd
namespace Gd
open PySem PySem.Spec PyProof.Rows L2
section
variable {X : Cx} {Γ : List VD} {B B1 B2 B' : Bag} {e a b c : Expr} {es : List Expr} {elt : Expr} {scope : Scope} {pos pos' : Pos} {acc : List PyData}
end
end Gd
namespace Gd
open PySem PySem.Spec PyProof.Rows L2
section
variable {P : Program} {w : World} {A : Around} {E : Value → Shared → Prop} {s : Shared} {a : Addr} {l0 : Addr} {l : List Str} {items : Array Value}
theorem collect_tup {Q : List Value → Shared → Prop} (hl : s.heap.IsTuple l0 items) (hsz : items.size ≤ sizeLine)
    (h : Q items.toList { s with heap := (s.heap.push (seqObj "list" #[] 0)).update s.heap.objs.size (Obj.mapSeq fun x => x ++ items) }) : wpAny (model P w) A (collect (.ref l0)) Q E s := by
  obtain ⟨o, ho, hc, n, hd⟩ := hl
  unfold collect
  refine wpAny_bind (wpAny_runValue (codeAny_builtin F.entry_proto_collect ?_))
  unfold Builtin.«proto.collect»
  refine wpAny_bind (wpAny_newList ?_ (Nat.zero_le _))
  refine wpAny_pure ⟨Code.quiet_builtin _ (by decide +kernel), codeAny_builtin F.entry_list_iadd ?_⟩
  show wpAny _ _ (Builtin.List.listExtendWith (.ref s.heap.objs.size) (.ref l0) (.ref s.heap.objs.size)) _ _ _
  unfold Builtin.List.listExtendWith
  have ho' := Heap.get?_push_of_some (seqObj "list" #[] 0) ho
  have hS : (s.heap.push (seqObj "list" #[] 0)).get? s.heap.objs.size = some (seqObj "list" #[] 0) := Heap.get?_push_size _ rfl
  refine wpAny_bind (wpAny_typeOf ⟨o, ho', hc⟩ ?_)
  rw [if_pos (by simp)]
  refine wpAny_bind (listItems_at ho' hd (wpAny_bind (listItems_at hS rfl ?_)))
  rw [if_neg (by simp)]
  have hS₂ := Heap.get?_update_self (Obj.mapSeq fun x => x ++ items) hS rfl
  have fin' : wpAny (model P w) A (do let d ← load s.heap.objs.size; match d.data with | .seq xs _ => pure xs.toList | _ => unsupported "internal:collect") Q E { s with heap := (s.heap.push (seqObj "list" #[] 0)).update s.heap.objs.size (Obj.mapSeq fun x => x ++ items) } := by
    refine wpAny_bind (wpAny_load hS₂ (wpAny_pure ?_))
    have e : (#[] ++ items).toList = items.toList := by simp
    show Q (#[] ++ items).toList _
    rw [e]; exact h
  exact wpAny_bind (listUpdate_at hS rfl (wpAny_pure fin') (Nat.zero_le _) (by simpa using Nat.le_succ_of_le hsz))
end
section
variable {X : Cx} {Γ : List VD} {B B1 : Bag} {b : Expr} {pos p : Pos} {Φ : Post}
end
end Gd
namespace Gd
open PySem PySem.Spec PyProof.Rows L2
theorem inv_cells {X : Cx} {pins : List (Addr × Obj)} {σ : L2.St} {H : Hp} {s : Shared} {h' : Heap} {t' : Nat} {ch : List Addr} (I : Inv X pins σ H s) (hf : ∀ b ∈ ch, FpOk X pins H b)
    (k : ∀ b o, b ∉ ch → s.heap.get? b = some o → h'.get? b = some o) : Inv X pins σ H { heap := h', gens := s.gens, drawn := s.drawn, toks := t', os := s.os } := by
  have nit : ∀ b u, H b = some u → b ∉ ch := fun b u e z => by
    have q := (hf b z).1
    rw [q] at e; cases e
  refine I.step (g' := s.gens) (d' := s.drawn) (ch := ch) (fun b hb => ⟨(hf b hb).2.2.2.1, (hf b hb).2.1, (hf b hb).2.2.2.2.1, (hf b hb).2.2.2.2.2⟩) (fun b o _ _ hc e _ => k b o hc e) (fun b o _ _ hc e _ => ⟨o.slots, k b o hc e⟩)
    (fun _ _ _ _ n => n) (fun b o hc e => ⟨o, k b o hc e⟩) (fun _ _ e => e) (fun _ _ _ e => e) (fun b ps e => ⟨#[], by rw [e]; simp⟩) (fun m hm2 => ?_) (fun b u e => ?_) I.bare
  · obtain ⟨o, es, ep, ho, r⟩ := hm2
    exact ⟨o, es, ep, k _ o (fun z => (hf _ z).2.1 rfl) ho, r⟩
  · refine (I.hok b u e).stay (fun c v hc q => k c v ?_ q) (fun _ q => q) fun _ _ q => q
    rcases hc with z | z
    · rw [z]; exact nit b u e
    · exact nit c _ z
theorem key_turn2 {X : Cx} {pins : List (Addr × Obj)} {σ : L2.St} {g : Gh} {B : Bag} {H0 H : Hp} {it S f : Addr} {s : Shared} {fd : FuncData} {ps : List Str} {R : Rel} {k : Nat} {x : V} {v : Value} {d kd : PyData} {o oi : Obj} {Q E : Value → Shared → Prop} {Z : Hp × Hp}
    (F : FnG X.prog X.w X.K X.mg X.base k f fd ps (DefSp X.K R)) (gx : Gx (k + 2) X) (hb : Binds X.K fd ps []) (hx : Rp X.K H0 x d) (hR : R [.da d] B kd B) (rv : RelV x v)
    (fs : S ∉ X.fs ∧ S ≠ X.env.locals) (fi : it ∉ X.fs ∧ it ≠ X.env.locals) (G : Good X pins σ g B H0 H it S s Z) (hS : s.heap.get? S = some o) (hI : s.heap.get? it = some oi)
    (hQ : ∀ u s' Z' z, s'.heap.get? S = some o → s'.heap.get? it = some oi → Good X pins σ g B H0 H it S s' Z' → To g Z.1 Z.2 Z'.1 Z'.2 → RelV z u → Rp X.K Z'.1 z kd → Q u s') :
    wpAny (model X.prog X.w) X.A.in1.in1 (call (.ref f) [v]) Q E s := by
  have I := G.inv
  have hsp : DefSp X.K R [x] Z.2 (fun z H' => ∃ H0', To g Z.1 Z.2 H0' H' ∧ On X.K g B H0' H' ∧ Rp X.K H0' z kd) E0 :=
    ⟨g, [.da d], B, Z.1, kd, B, ⟨hx.mono G.to.ex, trivial⟩, G.on, hR, fun z H0' H' t o' r => ⟨H0', t, o', r⟩⟩
  have e : [v].length = ps.length := by have := F.len _ _ _ _ hsp; simpa using this
  have hz := hb s [v] I.kIn (by rw [List.append_nil]; exact e)
  rw [List.append_nil] at hz
  have cc := F.run X.A.in1.in1 X.stack s Z.2 ⟨[v], []⟩ [v] [x] _ E0 gx.gd gx.rm.in1.in1 I.env0.in1.in1 hz (.cons rv .nil) hsp
  refine wpAny_call (codeAny_mono cc fun res s2 q => ?_)
  match res, q with
  | .ok (.ret u), q =>
    obtain ⟨z, H', os, bare, un, hok, r, H0', t, o', rz⟩ := q
    obtain ⟨hh, gg, dd, tt, os'⟩ := s2
    obtain rfl : os' = s.os := os
    have I2 : Inv X pins σ H' ⟨hh, gg, dd, tt, s.os⟩ := I.call (h' := hh) (g' := gg) (d' := dd) (t' := tt) (ch := []) un hok bare (fun b z => absurd z (by simp))
    have nf : ∀ b, b ∉ X.fs → b ≠ X.env.locals → b ∉ frs X.stack := fun b h1 h2 h3 => by
      rcases List.mem_cons.mp (I.stkSub b h3) with z | z
      · exact h2 z
      · exact h1 z
    exact hQ u _ (H0', H') z (un.keep S o hS G.ns (nf S fs.1 fs.2) (by simp)) (un.keep it oi hI G.ni (nf it fi.1 fi.2) (by simp)) ⟨I2, G.to.trans t, o', un.free it oi hI G.ni (by simp), un.free S o hS G.ns (by simp)⟩ t r rz
  | .ok .next, q => exact q.elim
  | .ok .brk, q => exact q.elim
  | .ok .cont, q => exact q.elim
  | .error _, q => exact q.elim
theorem each_get {α β : Type} {R : α → β → Prop} : ∀ {as : List α} {bs : List β}, as.length = bs.length → (∀ (j : Nat) a b, as[j]? = some a → bs[j]? = some b → R a b) → PySem.W.EachIs R as bs
  | [], [], _, _ => .nil
  | a :: as, b :: bs, hl, h => .cons (h 0 a b rfl rfl) (each_get (by simpa using hl) fun j a' b' h1 h2 => h (j + 1) a' b' (by simpa using h1) (by simpa using h2))
  | [], _ :: _, hl, _ => by simp at hl
  | _ :: _, [], hl, _ => by simp at hl
theorem freed_at {h : Heap} {a : Addr} {o : Obj} (ha : h.get? a = some o) : ∃ h1 : Heap, h1.get? a = none ∧ ∀ b, b ≠ a → h1.get? b = h.get? b := by
  refine ⟨h.update a (fun o => { o with data := .freed }), ?_, fun b hb => Heap.get?_update_ne _ _ _ _ hb⟩
  cases e : (h.update a (fun o => { o with data := .freed })).get? a with
  | none => rfl
  | some u =>
    obtain ⟨e1, e2⟩ := Heap.get?_some_iff.mp e
    obtain ⟨g1, g2⟩ := Heap.get?_some_iff.mp ha
    obtain ⟨objs, l⟩ := h
    have e1 : (objs.modify a (fun o => { o with data := .freed }))[a]? = some u := e1
    have g1 : objs[a]? = some o := g1
    rw [Array.getElem?_modify, if_pos rfl, g1] at e1
    injection e1 with e1
    subst e1
    cases e2
theorem key_treeG {X : Cx} {pins : List (Addr × Obj)} {σ : L2.St} {g : Gh} {B : Bag} {H0 H : Hp} {D f : Addr} {s : Shared} {fd : FuncData} {ps : List Str} {R : Rel} {k : Nat} {xs : List V} {vs : List Value} {ds : List PyData} {kf : PyData → PyData} {n : Nat} {P : PySem.Fin → Shared → Prop} {E : Value → Shared → Prop}
    (F : FnG X.prog X.w X.K X.mg X.base k f fd ps (DefSp X.K R)) (gx : Gx (k + 2) X) (hb : Binds X.K fd ps []) (hxs : RpAll X.K H0 xs ds) (rv : Vals xs vs) (hR : ∀ d ∈ ds, R [.da d] B (kf d) B)
    (al : PySem.W.AllAlike (ds.map kf)) (so : PySem.W.Sortable (ds.map kf)) (hl : ds.length ≤ 1000) (dp : ∀ d ∈ ds, (kf d).depth ≤ 8)
    (I : Inv X pins σ H s) (O : On X.K g B H0 H) (hD : s.heap.get? D = some (seqObj "list" vs.toArray n)) (fD : FpOk X pins H D)
    (hQ : ∀ s' (Z : Hp × Hp) (out : List Value) c, Inv X pins σ Z.2 s' → To g H0 H Z.1 Z.2 → On X.K g B Z.1 Z.2 → Z.2 D = none → FpOk X pins Z.2 D → s'.heap.get? D = some (seqObj "list" out.toArray c) → PySem.W.KeyedOut false (ds.map kf) vs out → P (Fin.done (Flow.ret Value.none)) s') :
    wpAny (model X.prog X.w) X.A.in1.in1 (ksk_tree D (.ref f) false) P E s := by
  have hvl : vs.length = ds.length := by rw [← rv.length, hxs.length]
  have sz : vs.length ≤ sizeLine := by rw [sizeLine_eq]; omega
  unfold ksk_tree
  refine wpAny_bind (listItems_at hD rfl (wpAny_bind (listUpdate_at hD rfl ?_ (by simpa using sz) (Nat.zero_le _))))
  obtain ⟨e1, hD1⟩ : ∃ e1, (s.heap.update D (Obj.mapSeq fun _ => #[])).get? D = some (seqObj "list" #[] e1) := ⟨_, Heap.get?_update_self (Obj.mapSeq fun _ => #[]) hD rfl⟩
  have I1 : Inv X pins σ H { heap := s.heap.update D (Obj.mapSeq fun _ => #[]), gens := s.gens, drawn := s.drawn, toks := s.toks, os := s.os } := inv_cells (ch := [D]) I (fun b hb => by rw [List.mem_singleton.mp hb]; exact fD) (fun b o hb e => by
    rw [Heap.get?_update_ne _ _ _ _ (fun z => hb (by rw [z]; exact List.mem_singleton_self _))]; exact e)
  generalize s.heap.update D (Obj.mapSeq fun _ => #[]) = hp1 at *
  refine wpAny_bind (seqEpoch_at hD1 rfl (wpAny_bind (wpAny_newTuple ?_ (by simpa using sz))))
  have I2 : Inv X pins σ H { heap := hp1.push { cls := Value.type "tuple", data := Data.seq vs.toArray.toList.toArray }, gens := s.gens, drawn := s.drawn, toks := s.toks, os := s.os } := I1.kept (t' := s.toks) fun b o e => Heap.get?_push_of_some _ e
  have hD2 := Heap.get?_push_of_some { cls := Value.type "tuple", data := Data.seq vs.toArray.toList.toArray } hD1
  generalize hp1.push { cls := Value.type "tuple", data := Data.seq vs.toArray.toList.toArray } = hp2 at *
  refine wpAny_bind (wpAny_newList ?_ (Nat.zero_le _))
  have fS : FpOk X pins H hp2.objs.size := I2.fpOk (Nat.le_refl _) (I2.hok.fresh (Nat.le_refl _))
  have hne : D ≠ hp2.objs.size := Nat.ne_of_lt (Heap.lt_size hD2)
  have I3 : Inv X pins σ H { heap := hp2.push (seqObj "list" [].toArray 0), gens := s.gens, drawn := s.drawn, toks := s.toks, os := s.os } := I2.kept (t' := s.toks) fun b o e => Heap.get?_push_of_some _ e
  have hD3 := Heap.get?_push_of_some (seqObj "list" [].toArray 0) hD2
  have hS3 : (hp2.push (seqObj "list" [].toArray 0)).get? hp2.objs.size = some (seqObj "list" [].toArray 0) := Heap.get?_push_size _ rfl
  show wpAny _ _ (holding [_, Value.ref hp2.objs.size] (ksk_rest D (.ref f) false vs.toArray e1 (.ref hp2.objs.size))) _ _ { heap := hp2.push (seqObj "list" [].toArray 0), gens := s.gens, drawn := s.drawn, toks := s.toks, os := s.os }
  refine wpAny_holding ?_
  generalize hp2.objs.size = S at *
  generalize hp2.push (seqObj "list" [].toArray 0) = hp3 at *
  unfold ksk_rest
  refine wpAny_bind (wpAny_rule (wpAny_bind ?_))
  rw [List.forIn_toArray]
  refine ksk_fold (fun i s' => ∃ (Z : Hp × Hp) (keys : List Value) (e : Nat), Good X pins σ g B H0 H D S s' Z ∧ s'.heap.get? D = some (seqObj "list" #[] e1) ∧ s'.heap.get? S = some (seqObj "list" keys.toArray e) ∧ keys.length = i ∧
      ∀ (j : Nat) ky, keys[j]? = some ky → ∃ z d, ds[j]? = some d ∧ RelV z ky ∧ Rp X.K Z.1 z (kf d)) vs 0 _ ⟨(H0, H), [], 0, ⟨I3, To.refl, O, fD.1, fS.1⟩, hD3, hS3, rfl, fun j ky h => by rw [List.getElem?_nil] at h; cases h⟩ ?_ ?_
  · rintro j x s' hx ⟨Z, keys, e, G, h1, h2, hlen, hk⟩
    rw [Nat.zero_add] at hlen ⊢
    have hj : j < ds.length := by rw [← hvl]; exact (List.getElem?_eq_some_iff.mp hx).1
    obtain ⟨xv, hxv⟩ : ∃ xv, xs[j]? = some xv := ⟨_, List.getElem?_eq_getElem (by rw [hxs.length]; exact hj)⟩
    obtain ⟨u, hu, ru⟩ := rv.get hxv
    have : u = x := by rw [hx] at hu; injection hu with hu; exact hu.symm
    subst this
    obtain ⟨d, hd, rd⟩ := hxs.get hxv
    refine wpAny_bind (wpAny_attempt (key_turn2 F gx hb rd (hR d (List.mem_of_getElem? hd)) ru ⟨fS.2.2.1, fS.2.1⟩ ⟨fD.2.2.1, fD.2.1⟩ G h2 h1 fun ky s2 Z2 z g1 g2 G2 t2 rz kz => ?_))
    have hks : keys.length ≤ sizeLine := by rw [sizeLine_eq]; omega
    refine wpAny_bind (listUpdate_at g1 rfl (wpAny_pure ?_) (by simpa using hks) (by simp; omega))
    obtain ⟨e2, q2⟩ : ∃ e2, (s2.heap.update S (Obj.mapSeq fun x => x.push ky)).get? S = some (seqObj "list" (keys ++ [ky]).toArray e2) := by
      have q := Heap.get?_update_self (Obj.mapSeq fun x => x.push ky) g1 rfl
      have e3 : keys.toArray.push ky = (keys ++ [ky]).toArray := by simp
      rw [q, ← e3]
      exact ⟨_, rfl⟩
    refine ⟨rfl, Z2, keys ++ [ky], e2, ⟨inv_cells (ch := [S]) G2.inv (fun b hb => by rw [List.mem_singleton.mp hb]; exact ⟨G2.ns, fS.2⟩) (fun b o hb e => ?_), G2.to, G2.on, G2.ni, G2.ns⟩, ?_, ?_, by simp [hlen], fun j' ky' h' => ?_⟩
    · rw [Heap.get?_update_ne _ _ _ _ (fun z => hb (by rw [z]; exact List.mem_singleton_self _))]; exact e
    · rw [Heap.get?_update_ne _ _ _ _ hne]; exact g2
    · exact q2
    · by_cases hlt : j' < keys.length
      · rw [List.getElem?_append_left hlt] at h'
        obtain ⟨z', d', q1, q2, q3⟩ := hk j' ky' h'
        exact ⟨z', d', q1, q2, q3.mono t2.ex⟩
      · have : j' = keys.length := by
          have := (List.getElem?_eq_some_iff.mp h').1
          simp at this; omega
        subst this
        rw [List.getElem?_append_right (Nat.le_refl _), Nat.sub_self] at h'
        have : ky = ky' := by simpa using h'
        subst this
        exact ⟨z, d, by rw [hlen]; exact hd, rz, kz⟩
  · rintro s' ⟨Z, keys, e, G, h1, h2, hlen, hk⟩
    rw [Nat.zero_add] at hlen
    refine wpAny_bind (listItems_at h2 rfl ?_)
    have each : PySem.W.EachIs (fun v d => ∃ as, Reads s'.heap v d as) keys (ds.map kf) := by
      refine each_get (by rw [hlen, hvl, List.length_map]) fun j ky kd h3 h4 => ?_
      obtain ⟨z, d, q1, q2, q3⟩ := hk j ky h3
      rw [List.getElem?_map, q1] at h4
      injection h4 with h4
      subst h4
      have hm : kf d ∈ ds.map kf := List.mem_map_of_mem (List.mem_of_getElem? q1)
      exact Dp.reads G.inv _ _ _ ((Rp.mono G.on.ex q3).dp (alike_nd _ (al _ hm _ hm))) q2
    obtain ⟨hx, hx1, hx2⟩ := freed_at h2
    refine PySem.W.keyH_end (h₁ := hx) (fun b o hb e => ?_) hx1 h2 h1 (Ne.symm hne) (PySem.W.SortsAt.data (by simpa using each) al so fun d hd => ?_) (by simpa using hlen) sz fun h' tk c kb hc => ?_
    · by_cases hbS : b = S
      · subst hbS; rw [hx1] at e; cases e
      · rw [← hx2 b hbS]; exact e
    · obtain ⟨d0, hd0, rfl⟩ := List.mem_map.mp hd
      have := dp d0 hd0
      have := gx.hu
      show X.A.units + 1 + 1 + _ < _
      omega
    · refine hQ _ Z _ c (inv_cells (ch := [D, S]) G.inv (fun b hb => ?_) (fun b o hb e => ?_)) G.to G.on G.ni ?_ hc ⟨s'.heap, keys, al, by simp, each⟩
      · rcases List.mem_cons.mp hb with rfl | hb
        · exact ⟨G.ni, fD.2⟩
        · rw [List.mem_singleton.mp hb]; exact ⟨G.ns, fS.2⟩
      · have h3 : b ≠ D := fun z => hb (by rw [z]; exact List.mem_cons_self)
        have h4 : b ≠ S := fun z => hb (by rw [z]; exact List.mem_cons_of_mem _ List.mem_cons_self)
        exact kb b o h3 (by rw [hx2 b h4]; exact e)
      · exact ⟨G.ni, fD.2⟩
theorem inv_learn {X : Cx} {pins : List (Addr × Obj)} {σ : L2.St} {H : Hp} {s : Shared} {D : Addr} {o : HO} (I : Inv X pins σ H s) (fD : FpOk X pins H D) (hO : ObjOk X.prog X.w (upd H D o) s.heap D o) : Inv X pins σ (upd H D o) s := by
  have ne : ∀ b u, H b = some u → b ≠ D := fun b u e z => by rw [z, fD.1] at e; cases e
  have J := I.call (h' := s.heap) (g' := s.gens) (t' := s.toks) (d' := s.drawn) (ch := [D]) (H' := upd H D o) ⟨fun b o e _ _ _ => e, fun b o e _ _ _ => ⟨o.slots, e⟩, fun b o e hb hc => by rw [upd_ne (fun z => hc (by rw [z]; exact List.mem_singleton_self _))]; exact hb, fun b o e _ => ⟨o, e⟩,
    fun b xs e => by rw [upd_ne (ne _ _ e)]; exact e, fun b o u e => by rw [upd_ne (ne _ _ e)]; exact e, fun b ps e => ⟨#[], by rw [upd_ne (ne _ _ e), e]; simp⟩⟩ (fun b u e => ?_) I.bare (fun b hb => by
      rw [List.mem_singleton.mp hb]; exact ⟨fD.2.2.2.1, fD.2.1, fD.2.2.2.2.1, fD.2.2.2.2.2⟩)
  · exact J
  · by_cases hb : b = D
    · subst hb; rw [upd_same] at e; injection e with e; subst e; exact hO
    · rw [upd_ne hb] at e
      exact (I.hok b u e).stay (fun c v _ q => q) (fun c q => by rw [upd_ne (ne _ _ q)]; exact q) fun c xs q => by rw [upd_ne (ne _ _ q)]; exact q
def rSortK (X : Cx) : List V → List V → Hp → VK → Prop := fun vs zs H Q =>
  ∃ (t f : Addr) (xs : List V) (fd : FuncData) (ps : List Str) (R : Rel) (k : Nat) (g : Gh) (B : Bag) (H0 : Hp) (ds : List PyData) (kf : PyData → PyData),
    vs = [.ref t] ∧ zs = [.ref f] ∧ (H0 t = some (.lst xs) ∨ SqT X.K H0 t xs) ∧ FnG X.prog X.w X.K X.mg X.base k f fd ps (DefSp X.K R) ∧ Gx (k + 2) X ∧ Binds X.K fd ps [] ∧ On X.K g B H0 H ∧ RpAll X.K H0 xs ds ∧
    (∀ d ∈ ds, R [.da d] B (kf d) B) ∧ PySem.W.AllAlike (ds.map kf) ∧ PySem.W.Sortable (ds.map kf) ∧ ds.length ≤ 1000 ∧ (∀ d ∈ ds, (kf d).depth ≤ 8) ∧
    ∀ a zs' H0' H', To g H0 H H0' H' → On X.K g B H0' H' → RpAll X.K H0' zs' (ds.mergeSort (PySem.W.dataLe false kf)) → H a = none → H0' a = none → H' a = some (.lst zs') → Q (.ref a) H'
theorem rp_zip {K : PySem.W.Frag} {H : Hp} : ∀ {xs : List V} {ds : List PyData}, RpAll K H xs ds → ∀ b ∈ xs.zip ds, Rp K H b.1 b.2
  | _, _, .nil, _, h => nomatch h
  | x :: xs, d :: ds, .cons r rs, b, h => by
    rcases List.mem_cons.mp h with rfl | h
    · exact r
    · exact rp_zip rs b h
theorem rp_maps {K : PySem.W.Frag} {H : Hp} : ∀ {L : List (V × PyData)}, (∀ b ∈ L, Rp K H b.1 b.2) → RpAll K H (L.map (·.1)) (L.map (·.2))
  | [], _ => .nil
  | b :: L, h => .cons (h b List.mem_cons_self) (rp_maps fun c hc => h c (List.mem_cons_of_mem _ hc))
theorem vals_each : ∀ {out : List Value} {L : List (V × PyData)}, PySem.W.EachIs (fun v (b : V × PyData) => RelV b.1 v) out L → Vals (L.map (·.1)) out
  | [], [], _ => .nil
  | _ :: _, _ :: _, .cons r rs => .cons r (vals_each rs)
theorem each_vals : ∀ {xs : List V} {vs : List Value} {ds : List PyData}, Vals xs vs → xs.length = ds.length → PySem.W.EachIs (fun v (b : V × PyData) => RelV b.1 v) vs (xs.zip ds)
  | [], [], [], _, _ => .nil
  | _ :: _, _ :: _, _ :: _, .cons r rs, h => .cons r (each_vals rs (by simpa using h))
  | [], [], _ :: _, _, h => by simp at h
  | _ :: _, _ :: _, [], _, h => by simp at h
theorem cr_sortedK {X : Cx} : CallRK X (.builtin "sorted") [Str.ofString "key"] (rSortK X) := by
  intro pins s σ H vs zs us ws Q I r rz h
  obtain ⟨t, f, xs, fd, ps, R, k, g, B, H0, ds, kf, rfl, rfl, ht, F, gx, hb, O, rs, hR, al, so, hl, dp, q⟩ := h
  obtain rfl := Vals.ref1 r
  obtain rfl := Vals.ref1 rz
  have hxl : xs.length = ds.length := rs.length
  show wpAny _ _ (call (.builtin "sorted") [.ref t] [(Str.ofString "key", .ref f)]) _ _ _
  refine call_function_entry_kw kind_sorted plain_sorted entry_sorted (by first | exact rfl | decide) ?_
  unfold Builtin.«sorted»
  refine wpAny_bind (m := checkCount "sorted" 1 1 _) (wpAny_pure ?_)
  obtain ⟨its, rv, hz, col⟩ : ∃ its : List Value, Vals xs its ∧ xs.length ≤ sizeLine ∧ ∀ (Q' : List Value → Shared → Prop) (E' : Value → Shared → Prop), Q' its { s with heap := (s.heap.push (seqObj "list" #[] 0)).update s.heap.objs.size (Obj.mapSeq fun x => x ++ its.toArray) } → wpAny (model X.prog X.w) X.A.in1 (collect (.ref t)) Q' E' s := by
    rcases ht with ht | ht
    · obtain ⟨its, rv, pl, hz⟩ := I.list (SqL.of (O.ex _ _ ht))
      exact ⟨its, rv, hz, fun Q' E' h => collect_list pl.isList h (by rw [← rv.length]; exact hz)⟩
    · obtain ⟨its, rv, pl, hz⟩ := I.tuple (seqT O.ex ht)
      exact ⟨its, rv, hz, fun Q' E' h => collect_tup pl (by simpa using (by rw [← rv.length]; exact hz : its.length ≤ sizeLine)) (by simpa using h)⟩
  refine wpAny_bind (col _ _ ?_)
  have k1 : ∀ b o, s.heap.get? b = some o → ((s.heap.push (seqObj "list" #[] 0)).update s.heap.objs.size (Obj.mapSeq fun x => x ++ its.toArray)).get? b = some o := fun b o e => by
    rw [Heap.get?_update_ne _ _ _ _ (Nat.ne_of_lt (Heap.lt_size e))]; exact Heap.get?_push_of_some _ e
  have hzs : s.heap.objs.size ≤ ((s.heap.push (seqObj "list" #[] 0)).update s.heap.objs.size (Obj.mapSeq fun x => x ++ its.toArray)).objs.size := by
    have := size_push' s.heap (seqObj "list" #[] 0)
    rw [Heap.size_update]; omega
  generalize ((s.heap.push (seqObj "list" #[] 0)).update s.heap.objs.size (Obj.mapSeq fun x => x ++ its.toArray)) = h1 at *
  refine wpAny_bind (wpAny_newList ?_ (by rw [← rv.length]; exact hz))
  have I1 : Inv X pins σ H { heap := h1.push (seqObj "list" its.toArray 0), gens := s.gens, drawn := s.drawn, toks := s.toks, os := s.os } := I.kept (t' := s.toks) fun b o e => Heap.get?_push_of_some _ (k1 b o e)
  have hD : (h1.push (seqObj "list" its.toArray 0)).get? h1.objs.size = some (seqObj "list" its.toArray 0) := Heap.get?_push_size _ rfl
  have hn : H h1.objs.size = none := I.hok.fresh hzs
  have fD : FpOk X pins H h1.objs.size := I.fpOk hzs hn
  show wpAny _ _ (do let _ ← holding [Value.ref h1.objs.size] (call (.builtin "list.sort") [.ref h1.objs.size] [(Str.ofString "key", .ref f)]); ret (.ref h1.objs.size)) _ _ { heap := h1.push (seqObj "list" its.toArray 0), gens := s.gens, drawn := s.drawn, toks := s.toks, os := s.os }
  generalize h1.objs.size = D at *
  generalize h1.push (seqObj "list" its.toArray 0) = h2 at *
  refine wpAny_bind (wpAny_holding (wpAny_call_entry_kw slot_list_sort ⟨_, hD, rfl⟩ entry_list_sort ?_ (by first | exact rfl | decide)))
  show wpAny _ _ (ksk_tree D (.ref f) false) _ _ _
  refine key_treeG F gx hb rs rv hR al so hl dp I1 O hD fD fun s' Z out c I2 t2 o2 nD fD2 hout ko => ⟨_, rfl, ?_⟩
  refine wpAny_pure ⟨.ref D, rfl, ?_⟩
  have e1 : (xs.zip ds).map (fun b : V × PyData => kf b.2) = ds.map kf := by
    have e2 : (xs.zip ds).map (·.2) = ds := List.map_snd_zip (by omega)
    have e3 := List.map_map (f := fun b : V × PyData => b.2) (g := kf) (l := xs.zip ds)
    rw [e2] at e3
    exact e3.symm
  have each := PySem.W.keyedOut_each (R := fun v (b : V × PyData) => RelV b.1 v) (bs := xs.zip ds) (fun b => kf b.2) (by rw [e1]; exact ko) (each_vals rv hxl)
  have hds : ((xs.zip ds).mergeSort (PySem.W.dataLe false fun b : V × PyData => kf b.2)).map (·.2) = ds.mergeSort (PySem.W.dataLe false kf) := by
    have e2 : (xs.zip ds).map (·.2) = ds := List.map_snd_zip (by omega)
    have e3 := PySem.W.sort_maps (r := PySem.W.dataLe false fun b : V × PyData => kf b.2) (s := PySem.W.dataLe false kf) (fun b : V × PyData => b.2) (l := xs.zip ds) (fun a _ b _ => rfl)
    rw [e2] at e3
    exact e3
  have rr : RpAll X.K Z.1 (((xs.zip ds).mergeSort (PySem.W.dataLe false fun b : V × PyData => kf b.2)).map (·.1)) (ds.mergeSort (PySem.W.dataLe false kf)) := by
    rw [← hds]
    exact rp_maps fun b hb => (rp_zip rs b (List.mem_mergeSort.mp hb)).mono t2.ex
  have hv := vals_each each
  generalize ((xs.zip ds).mergeSort (PySem.W.dataLe false fun b : V × PyData => kf b.2)).map (·.1) = zs' at *
  have hlen : zs'.length ≤ sizeLine := by rw [rr.length, List.length_mergeSort, ← hxl]; exact hz
  obtain ⟨n0, off, o3⟩ := hid (o := .lst zs') o2 nD
  refine ⟨.ref D, upd Z.2 D (.lst zs'), inv_learn I2 fD2 ⟨hlen, out, c, hv, hout⟩, rfl, q D zs' Z.1 _ ⟨t2.ex, fun b u e a1 a2 => ?_⟩ o3 rr hn n0 upd_same⟩
  obtain ⟨p1, p2⟩ := t2.un b u e a1 a2
  exact ⟨p1, by rw [upd_ne (ne_of_none a2 hn)]; exact p2⟩
section
variable {X : Cx} {Γ : List VD} {B B1 B2 : Bag} {a e : Expr} {pos p p' kp : Pos} {rest : List Stmt} {ds : List PyData}
theorem fj2_sortedK {fn : Str} {k : Nat} {R : Rel} {tl : Bool} (kf : PyData → PyData) (c : Cal X.prog X.w X.K X.mg X.base fn k R) (gx : Gx (k + 2) X) (hm : X.mg "sorted" = none) (ha : EJ X Γ B a (.da (if tl = true then .list ds else .tuple ds)) B1)
    (hR : ∀ d ∈ ds, R [.da d] B1 (kf d) B1) (al : PySem.W.AllAlike (ds.map kf)) (so : PySem.W.Sortable (ds.map kf)) (hl : ds.length ≤ 1000) (dp : ∀ d ∈ ds, (kf d).depth ≤ 8) (hg : Gl X "sorted" := by rfl) (hgf : Gl X fn := by rfl) (hdf : (fn == ("__debug__" : Str)) = false := by decide)
    (hs : starEach [a] X.env = [(false, eval a X.env)] := by rfl)
    (he : backTo pos (starEach [a] X.env) = (false, eval a X.env) :: backTo pos (starEach [] X.env) := by rfl) (hpl : (backTo pos (starEach [a] X.env)).any (·.1) = false := by rfl)
    (hall : (backToKw pos (keywordEach [⟨some (Str.ofString "key"), .Name fn p', kp⟩] X.env)).all (·.1.isSome) = true := by rfl) (hnone : (backToKw pos (keywordEach [⟨some (Str.ofString "key"), .Name fn p', kp⟩] X.env)).any (·.1.isNone) = false := by rfl)
    (hks : (backToKw pos (keywordEach [⟨some (Str.ofString "key"), .Name fn p', kp⟩] X.env)).filterMap (·.1) = [Str.ofString "key"] := by rfl) :
    FJ2 X Γ B (.Call (.Name "sorted" p) [a] [⟨some (Str.ofString "key"), .Name fn p', kp⟩] pos) (ds.mergeSort (PySem.W.dataLe false kf)) B1 := fun g σ H0 H E O Q q => by
  obtain ⟨f, fd, ps, F, hmf, hk, hb⟩ := c
  exact ⟨_, pe_callBK cr_sortedK hg hm (by decide +kernel) (wa [a]) (pk_cons (pe_glob (v := .ref f) hgf hmf rfl hdf) pk_nil) (by decide) (by decide) he hpl hall hnone hks, (aj_cons (ds := []) ha aj_nil hs) g σ H0 H E O _ fun vs H1 H' t o r => by
    obtain ⟨v, rfl, h⟩ := rv1 r
    have fin : ∀ a zs' H0' H2, To g H1 H' H0' H2 → On X.K g B1 H0' H2 → RpAll X.K H0' zs' (ds.mergeSort (PySem.W.dataLe false kf)) → H' a = none → H0' a = none → H2 a = some (.lst zs') → Q (.ref a) H2 := fun a zs' H0' H2 t2 o2 rr n1 n2 n3 => q a zs' H0' H2 (t.trans t2) o2 rr (new_start t o (off_none o n1) n1) n2 n3
    cases tl with
    | true =>
      obtain ⟨tp, xs, rfl, hx, rs⟩ := rvL h
      exact ⟨tp, f, xs, fd, ps, R, k, g, B1, H1, ds, kf, rfl, rfl, .inl hx, F, gx, hb, o, rs, hR, al, so, hl, dp, fin⟩
    | false =>
      obtain ⟨tp, xs, rfl, hx, rs⟩ := rvT h
      exact ⟨tp, f, xs, fd, ps, R, k, g, B1, H1, ds, kf, rfl, rfl, .inr hx, F, gx, hb, o, rs, hR, al, so, hl, dp, fin⟩⟩
theorem sjf_retF (h : FJ2 X Γ B e ds B1) : SJF X Γ B (.Return (some e) pos :: rest) ds B1 := fun g σ H0 H Ev O D G =>
  ⟨_, pss_cons (ps_ret (we e)) (ws rest), h g σ H0 H Ev O _ fun a zs H0' H' t o r n1 n2 n3 => G a zs H0' H' t o r n1 n2 n3⟩
end
end Gd
namespace Gd
open PySem PySem.Spec PyProof.Rows L2
def leT (a b : Str) : Bool := decide (a.cps.toList ≤ b.cps.toList)
def outT (xs : List Str) : List Str := xs.mergeSort leT
theorem str_ext {a b : Str} (h : a.cps.toList = b.cps.toList) : a = b := by
  cases a; cases b; simp at h; simp [h]
theorem leT_tr (a b c : Str) (h : leT a b = true) (k : leT b c = true) : leT a c = true := by
  unfold leT at *
  exact decide_eq_true (List.le_trans (of_decide_eq_true h) (of_decide_eq_true k))
theorem leT_tot (a b : Str) : (leT a b || leT b a) = true := by
  unfold leT
  rw [Bool.or_eq_true, decide_eq_true_iff, decide_eq_true_iff]
  exact List.le_total _ _
theorem outT_pw (xs : List Str) : (outT xs).Pairwise fun a b => leT a b = true := List.pairwise_mergeSort leT_tr leT_tot xs
theorem outT_perm (xs : List Str) : (outT xs).Perm xs := List.mergeSort_perm xs leT
theorem rising_pw : ∀ (l : List Str) (x : Str), risingS x l = true → (x :: l).Pairwise fun a b => leT a b = true
  | [], x, _ => by simp
  | y :: r, x, h => by
    rw [risingS.eq_2, Bool.and_eq_true, Bool.not_eq_true', ltCps_eq, decide_eq_false_iff_not] at h
    have p := rising_pw r y h.2
    have hxy : leT x y = true := decide_eq_true h.1
    refine List.Pairwise.cons (fun z hz => ?_) p
    rcases List.mem_cons.mp hz with rfl | hz
    · exact hxy
    · exact leT_tr _ _ _ hxy ((List.pairwise_cons.mp p).1 z hz)
theorem sortedS_pw {l : List Str} (h : sortedS l = true) : l.Pairwise fun a b => leT a b = true := by
  cases l with
  | nil => exact .nil
  | cons x r => exact rising_pw r x h
theorem sorted_one {l m : List Str} (h1 : l.Pairwise fun a b => leT a b = true) (h2 : m.Pairwise fun a b => leT a b = true) (p : l.Perm m) : l = m :=
  List.Perm.eq_of_pairwise (fun a b _ _ h k => str_ext (List.le_antisymm (of_decide_eq_true h) (of_decide_eq_true k))) h1 h2 p
theorem outT_one {xs ns : List Str} (p : ns.Perm xs) (h : sortedS ns = true) : ns = outT xs := sorted_one (sortedS_pw h) (outT_pw xs) (p.trans (outT_perm xs).symm)
theorem outT_eq {xs ys : List Str} (p : xs.Perm ys) : outT xs = outT ys := sorted_one (outT_pw xs) (outT_pw ys) (((outT_perm xs).trans p).trans (outT_perm ys).symm)
section
variable {X : Cx} {Γ : List VD} {B B1 B2 : Bag} {a b c elt : Expr} {scope : Scope} {pos p : Pos}
theorem ej_sortedLS {xs : List Str} (hm : X.mg "sorted" = none) (ha : EJ X Γ B b (.da (.list (xs.map .str))) B1) (hl : xs.length < 64)
    (hs : starEach [b] X.env = [(false, eval b X.env)] := by rfl) (hg : Gl X "sorted" := by rfl) :
    EJ X Γ B (.Call (.Name "sorted" p) [b] [] pos) (.da (.list ((outT xs).map .str))) B1 := fun g σ H0 H Ev O Q q =>
  ⟨_, pe_callB cr_sortedS hg hm (by decide +kernel) (wa [b]) (by decide) (by decide) hs rfl,
   (aj_cons (ds := []) ha aj_nil hs) g σ H0 H Ev O _ fun vs H1 H' t o r => by
    obtain ⟨v, rfl, hv⟩ := rv1 r
    obtain ⟨l, zs, rfl, hx, rs⟩ := rvL hv
    have e := rs.strs_of
    subst e
    refine ⟨l, xs, rfl, SqL.of (o.ex _ _ hx), hl, fun ns m q1 q2 hm1 => ?_⟩
    obtain rfl := outT_one q1 q2
    obtain ⟨t2, o2⟩ := laid (o := .lst ((outT xs).map V.str)) o hm1
    exact q _ _ _ (t.trans t2) o2 (Rp.lst upd_same (RpAll.strs _))⟩
theorem ej_repL01 {ds : List PyData} {k : Bool} {i : Int} (ha : EJ X Γ B a (.da (.list ds)) B1) (hb : EJ X Γ B1 b (.da (.int i)) B2) (hi : i = if k = true then 1 else 0) (hl : ds.length ≤ 1000) :
    EJ X Γ B (.BinOp a .Mult b pos) (.da (.list (if k = true then ds else []))) B2 :=
  ej_bin ha hb (fun _ _ h1 h2 => pe_op op_rep h1 h2) fun g v w H0 H O r1 r2 Q q => by
    obtain ⟨p, xs, rfl, hx, rs⟩ := rvL r1
    obtain rfl := rvI r2
    have hxl : xs.length = ds.length := rs.length
    refine ⟨p, i, xs, rfl, rfl, O.ex _ _ hx, by rw [hi]; split <;> decide, by rw [hi]; split <;> decide, ?_, fun m hm => ?_⟩
    · rw [sizeLine_eq, hi]
      split
      · show xs.length * 1 ≤ _; omega
      · show xs.length * 0 ≤ _; omega
    · subst hi
      cases k with
      | true =>
        have e : (List.replicate (if true = true then (1 : Int) else 0).toNat xs).flatten = xs := by simp
        rw [e]
        obtain ⟨t2, o2⟩ := laid (o := .lst xs) O hm
        exact q _ _ _ t2 o2 (Rp.lst upd_same (rs.mono t2.ex))
      | false =>
        have e : (List.replicate (if false = true then (1 : Int) else 0).toNat xs).flatten = [] := by simp
        rw [e]
        obtain ⟨t2, o2⟩ := laid (o := .lst []) O hm
        exact q _ _ _ t2 o2 (Rp.lst upd_same .nil)
theorem ej_isnotN {j} {y : PyData} {pos' : Pos} (ha : EJ X Γ B a (.da y) B1) : EJ X Γ B (.Compare a [.IsNot] [.Constant .none j pos'] pos) (.da (.bool (!isNone y))) B1 :=
  ej_bin ha ej_non (fun _ _ h1 h2 => pe_cmpR op_notN h1 h2 (nomark _)) fun g v w H0 H O r1 r2 Q q => by
    have r2 : Rp X.K H0 w .none := r2
    cases r2
    refine ⟨rfl, ?_⟩
    rw [rv_non (show Rp X.K H0 v y from r1)]; exact q _ _ _ To.refl O (Rp.bl _)
theorem lc_zipLS {K : PySem.W.Frag} {a b : Addr} {xs ys : List V} {g : TG} {tt : TT} {te : TE} {vs : List Nat} {σ : L2.St} {H1 : Hp} {D : Addr} {Qd : Hp → Prop} (hl : ys.length ≤ xs.length) (Pv : Nat → Hp → Prop) (h0 : Pv 0 (upd H1 D (.lst []))) (hq : ∀ i H, Pv i H → SqL K H a xs ∧ SqL K H b ys)
    (hs : ∀ i x y T H, xs[i]? = some x → ys[i]? = some y → Pv i H → H T = none → g (.ref T) (wipe σ vs) (upd H T (.tup [x, y])) fun σ2 H2 => wipe σ2 vs = wipe σ vs ∧ tt σ2 H2 fun b H3 =>
      if b = true then te σ2 H3 fun y H4 => ∃ acc, H4 D = some (.lst acc) ∧ acc.length < sizeLine ∧ Pv (i + 1) (upd H4 D (.lst (acc ++ [y]))) else Pv (i + 1) H3) (hd : ∀ H, Pv ys.length H → Qd H) :
    ∃ W : Nat → Nat → Hp → Prop, (∃ m, W 0 m (upd H1 D (.lst []))) ∧ ∀ i m H, W i m H →
      ((Itz K a b).stop i H ∧ Qd H) ∨ ((Itz K a b).go i H ∧ ∃ Nx : Hp → Prop, (∀ H', Nx H' → ∃ m', m' < m ∧ W (i + 1) m' H') ∧ ∀ x H', (Itz K a b).yld i H x H' → g x (wipe σ vs) H' fun σ2 H2 => wipe σ2 vs = wipe σ vs ∧ tt σ2 H2 fun b H3 =>
        if b = true then te σ2 H3 fun y H4 => ∃ acc, H4 D = some (.lst acc) ∧ acc.length < sizeLine ∧ Nx (upd H4 D (.lst (acc ++ [y]))) else Nx H3) := by
  refine ⟨fun i m H => m = ys.length - i ∧ i ≤ ys.length ∧ Pv i H, ⟨ys.length, rfl, Nat.zero_le _, h0⟩, ?_⟩
  rintro i m H ⟨rfl, hi, p⟩
  obtain ⟨qx, qy⟩ := hq i H p
  by_cases hlt : i < ys.length
  · have hx : ys[i]? = some ys[i] := List.getElem?_eq_getElem hlt
    have hlt2 : i < xs.length := by omega
    have hy : xs[i]? = some xs[i] := List.getElem?_eq_getElem hlt2
    refine .inr ⟨⟨xs, ys, _, _, qx, qy, hy, hx⟩, fun H => Pv (i + 1) H, fun H' p' => ⟨ys.length - (i + 1), by omega, rfl, hlt, p'⟩, fun v H' y => ?_⟩
    obtain ⟨T, x', y', rfl, hT, rfl, f1, f2⟩ := y
    exact hs i x' y' T H (f1 xs qx) (f2 ys qy) p hT
  · have e : i = ys.length := by omega
    subst e
    exact .inl ⟨⟨xs, ys, qx, qy, Or.inr (Nat.le_refl _)⟩, hd H p⟩
theorem rj_lcZF0 {j1 j2 : Nat} {ds es : List PyData} (hj : j1 ≠ j2) (ha : AJ X Γ B [a, b] [.da (.list ds), .da (.list es)] B1) (hl : es.length ≤ ds.length)
    (ht : ∀ (i : Nat) p q, ds[i]? = some p → es[i]? = some q → Blk X scope fun Y => TJ Y ((Γ.set j1 (.da p)).set j2 (.da q)) B1 c false B1) :
    RJ X Γ B (tLc (iZip X.K (WA X [a, b])) (gTup X.K 2 (gNames [j1, j2])) (WTB X scope c) (WB X scope elt) [j1, j2]) (.da (.list [])) B1 := fun g σ H0 H Ev O Q' q =>
  ha g σ H0 H Ev O _ fun vs H1 H' t o r => by
    obtain ⟨v, v', rfl, r1, r2⟩ := rv2 r
    obtain ⟨p1, xs, rfl, hxs, rs1⟩ := rvL r1
    obtain ⟨p2, ys, rfl, hys, rs2⟩ := rvL r2
    refine ⟨p1, p2, xs, ys, rfl, SqL.of (o.ex _ _ hxs), SqL.of (o.ex _ _ hys), fun A hA => ?_⟩
    obtain ⟨off, I0⟩ := lcI_start o hA
    refine lc_zipLS (xs := xs) (ys := ys) (by rw [rs1.length, rs2.length]; exact hl) (fun i H'' => ∃ H2, LcI X.K g H1 H' A [] B1 H2 H'') ⟨_, I0⟩ ?_ ?_ ?_
    · rintro i H'' ⟨H2, I⟩
      exact ⟨SqL.of (I.on.ex _ _ (I.to.ex _ _ hxs)), SqL.of (I.on.ex _ _ (I.to.ex _ _ hys))⟩
    · rintro i x y T H'' hx hy ⟨H2, I⟩ hT
      obtain ⟨d1, hd1, rd1⟩ := rs1.get hx
      obtain ⟨d2, hd2, rd2⟩ := rs2.get hy
      obtain ⟨t3, o3⟩ := laid (o := .tup [x, y]) I.on hT
      have I2 := lcI_step off I t3 o3
      have rr : Rp X.K (upd H2 T (.tup [x, y])) (.ref T) (.tuple [d1, d2]) := Rp.tup (SqT.of upd_same) (.cons ((rd1.mono I.to.ex).mono t3.ex) (.cons ((rd2.mono I.to.ex).mono t3.ex) .nil))
      exact lc_turn2 (z := .none) hj off (Ev.mono t.ex) I2 rr (by decide) (ht i d1 d2 hd1 hd2) (fun h => Bool.noConfusion h) fun H3 H3' J => ⟨H3, J⟩
    · rintro H'' ⟨H2, I⟩
      obtain ⟨H3, t3, o3, r3⟩ := lcI_end off t I
      exact q _ H3 H'' t3 o3 r3
end
end Gd
set_option exponentiation.threshold 20000
namespace Lw
open PySem PySem.Spec PyProof PyProof.Rows L2 Gd Fr
open scoped Rat
def leV (u v : Va) : Bool := !PySem.W.dataLt (plD v) (plD u)
open Classical in
noncomputable def kfV (d : PyData) : PyData := if h : ∃ v : Va, v.d = d then plD (Classical.choose h) else .none
theorem kfV_d (v : Va) : kfV v.d = plD v := by
  have h : ∃ u : Va, u.d = v.d := ⟨v, rfl⟩
  unfold kfV
  rw [dif_pos h, vad_inj (Classical.choose_spec h)]
def inoV (L : List Va) : List Va := L.mergeSort leV
theorem ino_eq (L : List Va) : (L.map Va.d).mergeSort (PySem.W.dataLe false kfV) = (inoV L).map Va.d := by
  refine (PySem.W.sort_maps (r := leV) (s := PySem.W.dataLe false kfV) Va.d (l := L) fun a _ b _ => ?_).symm
  rw [PySem.W.dataLe_eq]
  show leV a b = !PySem.W.dataLt (kfV b.d) (kfV a.d)
  rw [kfV_d, kfV_d]; rfl
theorem ino_al (L : List Va) : PySem.W.AllAlike ((L.map Va.d).map kfV) := by
  intro d hd d' hd'
  rw [List.map_map] at hd hd'
  obtain ⟨u, _, rfl⟩ := List.mem_map.mp hd
  obtain ⟨v, _, rfl⟩ := List.mem_map.mp hd'
  show PySem.W.alike (kfV u.d) (kfV v.d) = true
  rw [kfV_d, kfV_d]; exact t3_alike _ _
theorem ino_so (L : List Va) : PySem.W.Sortable ((L.map Va.d).map kfV) := .inl fun d hd => by
  rw [List.map_map] at hd
  obtain ⟨u, _, rfl⟩ := List.mem_map.mp hd
  exact ⟨_, _, kfV_d u⟩
theorem ino_dp (L : List Va) : ∀ d ∈ L.map Va.d, (kfV d).depth ≤ 8 := fun d hd => by
  obtain ⟨u, _, rfl⟩ := List.mem_map.mp hd
  rw [kfV_d]
  show PyData.depth (t3 _) ≤ 8
  simp only [t3, PyData.depth, PyData.depthAll]; decide
theorem ino_perm (L : List Va) : (inoV L).Perm L := List.mergeSort_perm L leV
theorem ino_len (L : List Va) : (inoV L).length = L.length := (ino_perm L).length_eq
theorem leV_iff (u v : Va) : leV u v = true ↔ ¬ lex3 (plT v) (plT u) := by
  unfold leV plD
  rw [t3_lt, Bool.not_eq_true', decide_eq_false_iff_not]
theorem leV_tr (a b c : Va) (h : leV a b = true) (k : leV b c = true) : leV a c = true := by
  rw [leV_iff] at *
  unfold lex3 at *
  omega
theorem leV_tot (a b : Va) : (leV a b || leV b a) = true := by
  rw [Bool.or_eq_true, leV_iff, leV_iff]
  by_cases h : lex3 (plT b) (plT a)
  · exact .inr (lex3_asym h)
  · exact .inl h
theorem ino_pw (L : List Va) : (inoV L).Pairwise fun a b => leV a b = true := List.pairwise_mergeSort leV_tr leV_tot L
theorem ino_next {L : List Va} {i : Nat} {x y : Va} (hx : (inoV L)[i]? = some x) (hy : ((inoV L).drop 1)[i]? = some y) : leV x y = true := by
  rw [List.getElem?_drop] at hy
  obtain ⟨h1, rfl⟩ := List.getElem?_eq_some_iff.mp hx
  obtain ⟨h2, rfl⟩ := List.getElem?_eq_some_iff.mp hy
  exact List.pairwise_iff_getElem.mp (ino_pw L) i (1 + i) h1 h2 (by omega)
inductive R_inord : Rel
  | mk (b p : Nat) (low high : Int) (tl : Bool) (L : List Va) (B : Bag) (hl : L.length ≤ 1000) : R_inord [.da (fmP b p low high), .da (if tl = true then .list (L.map Va.d) else .tuple (L.map Va.d))] B (.list ((inoV L).map Va.d)) B
inductive R_stands : Rel
  | mk (b p : Nat) (low high : Int) (x y : Va) (B : Bag) (F : Fm b p low high) (hx : Vcan b p low high x) (hy : Vcan b p low high y) (h : leV x y = true) : R_stands [.da (fmP b p low high), .da x.d, .da y.d] B (.bool true) B
theorem plT_lt {v : Va} (h : v.isNan = false) : (plT v).1 < 2 := by
  cases v with
  | nan => cases h
  | inf s =>
    show (if s = 0 then ((1 : Int), (0 : Int), (0 : Int)) else (-2, 0, 0)).1 < 2
    by_cases c : s = 0
    · rw [if_pos c]; decide
    · rw [if_neg c]; decide
  | num s c e =>
    show (if s = 0 then ((0 : Int), e, c) else (-1, -e, -c)).1 < 2
    by_cases d : s = 0
    · rw [if_pos d]; show (0 : Int) < 2; decide
    · rw [if_neg d]; show (-1 : Int) < 2; decide
theorem leV_nan {x y : Va} (h : leV x y = true) (hn : x.isNan = true) : y.isNan = true := by
  rw [leV_iff] at h
  cases hy : y.isNan with
  | true => rfl
  | false =>
    refine absurd (Or.inl ?_) h
    cases x with
    | nan => exact plT_lt hy
    | _ => cases hn
theorem leV_ord {b p : Nat} {low high : Int} (F : Fm b p low high) {x y : Va} (hx : Vcan b p low high x) (hy : Vcan b p low high y) (nx : x.isNan = false) (ny : y.isNan = false) (h : leV x y = true) : ordI b b x y < 0 ∨ (ordI b b x y = 0 ∧ y.sg ≤ x.sg) := by
  rw [leV_iff] at h
  have h1 := pl_ord F hx hy nx ny h
  by_cases h2 : ordI b b x y < 0
  · exact .inl h2
  · refine .inr ⟨by omega, ?_⟩
    have h0 : ordI b b x y = 0 := by omega
    have hl := (less_iff F hx hy nx ny).mpr h
    unfold ordI at h0
    unfold isLess at hl
    by_cases c : plI x ≠ 0 ∨ plI y ≠ 0
    · rw [if_pos c] at h0
      have e : plI x = plI y := by
        unfold cmpI at h0
        by_cases a1 : plI y < plI x
        · rw [if_pos a1, if_neg (by omega)] at h0; omega
        · by_cases a2 : plI x < plI y
          · rw [if_neg a1, if_pos a2] at h0; omega
          · omega
      have ez : plI x ≠ 0 := by rcases c with c | c <;> omega
      have ex : x.isNum = false := by
        cases g : x.isNum with
        | false => rfl
        | true => exact absurd (by unfold plI; rw [if_pos g]) ez
      have ey : y.isNum = false := by
        cases g : y.isNum with
        | false => rfl
        | true => exact absurd (by unfold plI; rw [if_pos g]) (e ▸ ez)
      have q1 : plI x = 1 - 2 * x.sg := by unfold plI; rw [if_neg (by rw [ex]; decide)]
      have q2 : plI y = 1 - 2 * y.sg := by unfold plI; rw [if_neg (by rw [ey]; decide)]
      omega
    · rw [if_neg c] at h0
      have c1 : plI x = 0 := by omega
      have c2 : plI y = 0 := by omega
      have ew : x.wQ b = y.wQ b := by
        unfold cmp at h0
        by_cases a1 : x.wQ b < y.wQ b
        · rw [if_pos a1] at h0; omega
        · by_cases a2 : y.wQ b < x.wQ b
          · rw [if_neg a1, if_pos a2] at h0; omega
          · grind
      have num : ∀ {v : Va}, Vcan b p low high v → v.isNan = false → plI v = 0 → v.isNum = true := fun {v} hv nv h => by
        cases v with
        | nan => cases nv
        | inf s => exfalso; rcases hv with rfl | rfl <;> revert h <;> decide
        | num s c e => rfl
      have e1 : hqQ b x = x.wQ b := by unfold hqQ; rw [if_pos (num hx nx c1)]
      have e2 : hqQ b y = y.wQ b := by unfold hqQ; rw [if_pos (num hy ny c2)]
      rcases hl with hl | ⟨_, hl | ⟨_, hl⟩⟩
      · omega
      · rw [e1, e2, ew] at hl; exact absurd hl Rat.lt_irrefl
      · omega
theorem strOk_app {x y : Str} (h : PyData.strOk x = true) (k : PyData.strOk y = true) : PyData.strOk (x ++ y) = true := by
  unfold PyData.strOk at *
  show (x.cps ++ y.cps).all _ = true
  rw [Array.all_append, h, k]; rfl
theorem strOk_ofS (s : String) : PyData.strOk (Str.ofString s) = true := by
  rw [Str.ofString_eq_toList]
  unfold PyData.strOk
  rw [Array.all_eq_true']
  intro c hc
  simp only [List.mem_toArray, List.mem_map] at hc
  obtain ⟨ch, _, rfl⟩ := hc
  have h := ch.valid
  simp only [UInt32.isValidChar, Nat.isValidChar] at h
  have e : ch.toNat = ch.val.toNat := rfl
  exact decide_eq_true (by omega)
theorem strOk_join {sep : Str} (hs : PyData.strOk sep = true) : ∀ {l : List Str}, (∀ x ∈ l, PyData.strOk x = true) → PyData.strOk (Str.join sep l) = true
  | [], _ => by simp only [Str.join]; decide +kernel
  | [x], h => by simp only [Str.join]; exact h x (List.mem_singleton_self _)
  | x :: y :: r, h => by
    simp only [Str.join]
    first
      | exact strOk_app (strOk_app (h x List.mem_cons_self) hs) (strOk_join hs fun z hz => h z (List.mem_cons_of_mem _ hz))
      | exact strOk_app (h x List.mem_cons_self) (strOk_app hs (strOk_join hs fun z hz => h z (List.mem_cons_of_mem _ hz)))
theorem va_strOk {v : Va} (h : v.isNan = true ∨ v.sg = 0 ∨ v.sg = 1) : PyData.strOk v.d.shown = true := by
  cases v with
  | nan => decide +kernel
  | inf s =>
    have h : s = 0 ∨ s = 1 := by rcases h with h | h; cases h; exact h
    rcases h with rfl | rfl <;> decide +kernel
  | num s c e =>
    have w : PyData.strOk (PyData.shown (.str "num")) = true := by decide +kernel
    have c1 : PyData.strOk (Str.ofString ", ") = true := strOk_ofS _
    have i : ∀ z : Int, PyData.strOk (PyData.shown (.int z)) = true := fun z => strOk_ofS _
    show PyData.strOk (tupleText [PyData.shown (.str "num"), PyData.shown (.int s), PyData.shown (.int c), PyData.shown (.int e)]) = true
    unfold tupleText
    refine strOk_app (strOk_app (strOk_ofS _) (strOk_join c1 fun x hx => ?_)) (strOk_ofS _)
    simp only [List.mem_cons, List.not_mem_nil, or_false] at hx
    rcases hx with rfl | rfl | rfl | rfl
    · exact w
    · exact i _
    · exact i _
    · exact i _
theorem shown_shaped {L : List Str} (h : ∀ x ∈ L, PyData.strOk x = true) : SeqAt.shaped (.list (L.map .str)) = true := by
  have key : ∀ {L : List Str}, (∀ x ∈ L, PyData.strOk x = true) → PyData.canLayAll0 (L.map .str) = true ∧ PyData.depthAll (L.map .str) = 0 := by
    intro L
    induction L with
    | nil => intro _; exact ⟨by simp only [List.map_nil, PyData.canLayAll0], by simp only [List.map_nil, PyData.depthAll]⟩
    | cons x r ih =>
      intro h
      obtain ⟨a, b⟩ := ih fun z hz => h z (List.mem_cons_of_mem _ hz)
      refine ⟨?_, ?_⟩
      · simp only [List.map_cons, PyData.canLayAll0, PyData.canLay0, a, h x List.mem_cons_self, Bool.and_true]
      · simp only [List.map_cons, PyData.depthAll, PyData.depth, b]; rfl
  obtain ⟨a, b⟩ := key h
  unfold SeqAt.shaped
  simp only [PyData.canLay0, a, Bool.true_and, decide_eq_true_eq, PyData.depth, b]
  decide
theorem ord_shaped (b b' : Nat) (x y : Va) : SeqAt.shaped (ordP b b' x y) = true := by unfold ordP; split <;> rfl
inductive R_ordis (k : Int) : Rel
  | mk (b p : Nat) (low high : Int) (x y : Va) (B : Bag) (F : Fm b p low high) (hx : Vok b p low high x) (hy : Vok b p low high y) : R_ordis k [.da (fmP b p low high), .da x.d, .da y.d] B (.bool (PyData.eqv (ordP b b x y) (.int k))) B
theorem ord_turn (b b' : Nat) (x y : Va) : ordI b' b y x = -ordI b b' x y := by
  unfold ordI
  by_cases c : plI x ≠ 0 ∨ plI y ≠ 0
  · rw [if_pos c, if_pos (by omega)]; unfold cmpI; omega
  · rw [if_neg c, if_neg (by omega)]
    unfold cmp
    by_cases a1 : x.wQ b < y.wQ b'
    · rw [if_pos a1, if_neg (by grind), if_pos a1]; rfl
    · by_cases a2 : y.wQ b' < x.wQ b
      · rw [if_pos a2, if_neg a1, if_pos a2]
      · rw [if_neg a1, if_neg a2, if_neg a2, if_neg a1]; rfl
theorem ordP_turn (b b' : Nat) (x y : Va) : ordP b' b y x = if x.isNan = true ∨ y.isNan = true then .none else .int (-ordI b b' x y) := by
  unfold ordP
  rw [ord_turn]
  by_cases c : x.isNan = true ∨ y.isNan = true
  · rw [if_pos c, if_pos c.symm]
  · rw [if_neg c, if_neg fun z => c z.symm]
def Pre_sv (Γ : List VD) (B : Bag) : Prop := ∃ b p low high b' p' low' high', Γ = [.bag, .da (fmP b p low high), .da (fmP b' p' low' high')] ∧ Fm b p low high ∧ Fm b' p' low' high' ∧ Bok B
def Post_sv (Γ : List VD) (_ : Bag) (r : PyData) (B' : Bag) : Prop := Bok B' ∧ ∀ b p low high b' p' low' high', Γ = [.bag, .da (fmP b p low high), .da (fmP b' p' low' high')] → ∃ L : List Va, r = .list (L.map Va.d) ∧ L.length ≤ 10 ∧ ∀ v ∈ L, Vcan b p low high v
theorem ordI_bd (b b' : Nat) (x y : Va) : Bd 3 (ordI b b' x y) := by
  unfold ordI
  split
  · unfold cmpI Bd; split <;> split <;> decide
  · unfold cmp Bd; split
    · decide
    · split <;> decide
theorem ord_nd (b b' : Nat) (x y : Va) : Nd 1 4 (ordP b b' x y) := by
  unfold ordP
  split
  · exact ⟨by simp only [nice], by simp only [PyData.depth]; omega, by simp only [PyData.bulk]; omega⟩
  · exact (Nd.int (ordI_bd b b' x y)).le (by decide) (by decide)
theorem two_okd {n W m W' : Nat} {x y : PyData} (hx : Nd n W x) (hy : Nd m W' y) (h1 : n ≤ 5 := by decide) (h2 : m ≤ 5 := by decide) (h3 : W ≤ 100 := by decide) (h4 : W' ≤ 100 := by decide) : Okd (.list [x, y]) :=
  ((Nd.list (NdA.cons (hx.le h1 h3) (NdA.cons (hy.le h2 h4) (NdA.nil (W := 0))))).le (D' := 6) (W' := 300) (Nat.le_refl _) (by omega)).okd
theorem ordP_int {b b' : Nat} {x y : Va} (h : isNone (ordP b b' x y) = false) : ordP b b' x y = .int (ordI b b' x y) := by
  unfold ordP at *
  by_cases c : x.isNan = true ∨ y.isNan = true
  · rw [if_pos c] at h; cases h
  · rw [if_neg c]
theorem ordP_non {b b' : Nat} {x y : Va} (h : isNone (ordP b b' x y) = true) : ordP b' b y x = .none := by
  rw [ordP_turn]
  unfold ordP at h
  by_cases c : x.isNan = true ∨ y.isNan = true
  · rw [if_pos c]
  · rw [if_neg c] at h; cases h
theorem ordP_opp {b b' : Nat} {x y : Va} (h : isNone (ordP b b' x y) = false) : PyData.int (-ordI b b' x y) = ordP b' b y x := by
  rw [ordP_turn]
  unfold ordP at h
  by_cases c : x.isNan = true ∨ y.isNan = true
  · rw [if_pos c] at h; cases h
  · rw [if_neg c]
theorem va_sg {b p : Nat} {low high : Int} {v : Va} (h : Vcan b p low high v) : v.isNan = true ∨ v.sg = 0 ∨ v.sg = 1 := by
  cases g : v.isNan with
  | true => exact .inl rfl
  | false => exact .inr (sg_01 g h.ok)
theorem cut_all (L : List Va) (h : ¬ 4 ≤ L.length) : cutP (L.map Va.d) none (some 4) = (L.take 4).map Va.d := by
  rw [List.take_of_length_le (by omega)]
  match L, h with
  | [], _ => rfl
  | [_], _ => rfl
  | [_, _], _ => rfl
  | [_, _, _], _ => rfl
  | _ :: _ :: _ :: _ :: _, h => simp at h
end Lw
set_option exponentiation.threshold 20000
namespace K07
open PySem PySem.Spec PyProof.Rows L2 Gd Fr Lw
open scoped Rat

def topS (i : Nat) : Stmt := PySem.Challenge.pw_nearestheld_k07_whole_orders_over_format.main.body.getD i (.Pass ⟨0, 0, 0, 0⟩)
variable {P : Program} {w : World} {K : PySem.W.Frag} {mg : Str → Option Value} {base : Heap}

abbrev s_integer_power : Stmt := topS 2
theorem sc_integer_power : FnScope ["base", "e", "power"] ["base", "e"] (defScope s_integer_power) := ⟨rfl, rfl, rfl, by decide +kernel, rfl, by decide +kernel, by decide +kernel⟩

theorem c_of_integer_power (T : At K mg "integer_power" s_integer_power ["base", "e"]) : Cal P w K mg base "integer_power" 4 R_pow :=
  cal_at T sc_integer_power (by rintro _ _ _ _ ⟨⟩; rfl) fun f cd0 A out s H E G Γ B r B' hR => by
  obtain ⟨b, e, B, hb, he⟩ := hR
  refine sj_set 2 G.nd ej_int ?_
  refine sj_while G.nd (fun Γ' B' => ∃ k m j : Nat, Γ' = [.da (.int ((b ^ k : Nat) : Int)), .da (.int m), .da (.int ((b ^ j : Nat) : Int))] ∧ j + k * m = e ∧ B' = B) (fun Γ' _ => (intAt Γ' 1).toNat)
    ⟨1, e, 0, by rw [Nat.pow_one]; rfl, by omega, rfl⟩ ?_
  rintro Γ' B' ⟨k, m, j, rfl, hk, rfl⟩
  refine ⟨_, tj_gt (ej_dat 1) ej_int, fun h => ?_, fun h => ?_⟩
  · have hm : 0 < m := by have := of_decide_eq_true h; omega
    obtain ⟨k1, j1⟩ := k_le hk hm
    refine sj_ifM (fun Γ' B2 => ∃ j' : Nat, Γ' = [.da (.int ((b ^ k : Nat) : Int)), .da (.int m), .da (.int ((b ^ j' : Nat) : Int))] ∧ j' + (k + k) * (m / 2) = e ∧ B2 = B') (tj_eqI G.hu (ej_mod (ej_dat 1) ej_int (by decide)) ej_int) (fun h1 => ?_) (fun h1 => ?_) ?_
    · refine sj_set 2 G.nd (ej_mul (ej_dat 2) (ej_dat 0) (cm (bd_pow j hb) (bd_pow k hb) (by omega))) (sj_nil ?_)
      rw [pow_up]
      exact ⟨j + k, rfl, turn_odd hk (by have := of_decide_eq_true h1; omega), rfl⟩
    · exact sj_nil ⟨j, rfl, turn_even hk (by have := of_decide_eq_false h1; omega), rfl⟩
    · rintro Γ2 B2 ⟨j', rfl, hj', rfl⟩
      refine sj_set 0 G.nd (ej_mul (ej_dat 0) (ej_dat 0) (cm (bd_pow k hb) (bd_pow k hb) (by omega))) ?_
      refine sj_set 1 G.nd (ej_fdiv (ej_dat 1) ej_int (cdv (show Bd 2 2 from by unfold Bd; decide) (by decide))) (sj_nil ?_)
      rw [pow_sq, half]
      exact ⟨⟨k + k, m / 2, j', rfl, hj', rfl⟩, show ((m / 2 : Nat) : Int).toNat < (m : Int).toNat by omega⟩
  · have hm : ¬ 0 < m := by have := of_decide_eq_false h; omega
    have := j_end hk hm
    subst this
    exact sj_ret (ej_dat 2) ⟨rfl, rfl⟩

abbrev s_place_of : Stmt := topS 3
theorem sc_place_of : FnScope ["value"] ["value"] (defScope s_place_of) := ⟨rfl, rfl, rfl, by decide +kernel, rfl, by decide +kernel, by decide +kernel⟩

theorem c_of_place_of (T : At K mg "place_of" s_place_of ["value"]) : Cal P w K mg base "place_of" 4 (R_val plD (fun _ => True)) :=
  cal_at T sc_place_of (by rintro _ _ _ _ ⟨⟩; rfl) fun f cd0 A out s0 H E0 G Γ B r B' hR => by
  obtain ⟨v, B, _⟩ := hR
  cases v with
  | nan => exact sj_when (x := true) (tj_is (tj_eqS (ej_at (ej_dat (d := .tuple (Va.l .nan)) 0)) ej_str) rfl) (fun _ => sj_ret (ej_tupD (ad_cons ej_int (ad_cons ej_int (ad_cons ej_int ad_nil))) (Nat.le_of_ble_eq_true rfl)) ⟨rfl, rfl⟩) (fun z => Bool.noConfusion z)
  | inf s =>
    refine sj_when (x := false) (tj_is (tj_eqS (ej_at (ej_dat (d := .tuple (Va.l (.inf s))) 0)) ej_str) (tag_nan (.inf s))) (fun z => Bool.noConfusion z) (fun _ => ?_)
    refine sj_when (x := true) (tj_is (tj_eqS (ej_at (ej_dat (d := .tuple (Va.l (.inf s))) 0)) ej_str) (tag_inf (.inf s))) (fun _ => ?_) (fun z => Bool.noConfusion z)
    rw [show plD (.inf s) = t3 (if s = 0 then (1, 0, 0) else (-2, 0, 0)) from rfl]
    by_cases h : s = 0
    · rw [if_pos h]; exact sj_ret (ej_ifT (tj_is (tj_eqI G.hu (ej_at (ej_dat (d := .tuple (Va.l (.inf s))) 0)) ej_int) (decide_eq_true h)) (ej_tupD (ad_cons ej_int (ad_cons ej_int (ad_cons ej_int ad_nil))) (Nat.le_of_ble_eq_true rfl))) ⟨rfl, rfl⟩
    · rw [if_neg h]; exact sj_ret (ej_ifF (tj_is (tj_eqI G.hu (ej_at (ej_dat (d := .tuple (Va.l (.inf s))) 0)) ej_int) (decide_eq_false h)) (ej_tupD (ad_cons (ej_neg ej_int) (ad_cons ej_int (ad_cons ej_int ad_nil))) (Nat.le_of_ble_eq_true rfl))) ⟨rfl, rfl⟩
  | num s c e =>
    refine sj_when (x := false) (tj_is (tj_eqS (ej_at (ej_dat (d := .tuple (Va.l (.num s c e))) 0)) ej_str) (tag_nan (.num s c e))) (fun z => Bool.noConfusion z) (fun _ => ?_)
    refine sj_when (x := false) (tj_is (tj_eqS (ej_at (ej_dat (d := .tuple (Va.l (.num s c e))) 0)) ej_str) (tag_inf (.num s c e))) (fun z => Bool.noConfusion z) (fun _ => ?_)
    rw [show plD (.num s c e) = t3 (if s = 0 then (0, e, c) else (-1, -e, -c)) from rfl]
    refine sj_when (x := decide (s = 0)) (tj_eqI G.hu (ej_at (ej_dat (d := .tuple (Va.l (.num s c e))) 0)) ej_int) (fun h => ?_) (fun h => ?_)
    · rw [if_pos (of_decide_eq_true h)]; exact sj_ret (ej_tupD (ad_cons ej_int (ad_cons (ej_at (ej_dat (d := .tuple (Va.l (.num s c e))) 0)) (ad_cons (ej_at (ej_dat (d := .tuple (Va.l (.num s c e))) 0)) ad_nil))) (Nat.le_of_ble_eq_true rfl)) ⟨rfl, rfl⟩
    · rw [if_neg (of_decide_eq_false h)]; exact sj_ret (ej_tupD (ad_cons (ej_neg ej_int) (ad_cons (ej_neg (ej_at (ej_dat (d := .tuple (Va.l (.num s c e))) 0))) (ad_cons (ej_neg (ej_at (ej_dat (d := .tuple (Va.l (.num s c e))) 0))) ad_nil))) (Nat.le_of_ble_eq_true rfl)) ⟨rfl, rfl⟩

abbrev s_reduced : Stmt := topS 5
theorem sc_reduced : FnScope ["n", "d", "ahead", "behind", "twos", "common"] ["n", "d"] (defScope s_reduced) := ⟨rfl, rfl, rfl, by decide +kernel, rfl, by decide +kernel, by decide +kernel⟩

theorem c_of_reduced (m_gcd : mg "gcd" = some (.builtin "math.gcd")) (m_min : mg "min" = none) (c_u_twos_in : Cal P w K mg base "_twos_in" 1 R_twos) (T : At K mg "reduced" s_reduced ["n", "d"]) : Cal P w K mg base "reduced" 3 R_reduced :=
  cal_at T sc_reduced (by rintro _ _ _ _ ⟨⟩; rfl) fun f cd0 A out s H E G Γ B r B' hR => by
  obtain ⟨n, d, B, hd, hb⟩ := hR
  refine sj_when (tj_eqI G.hu (ej_dat 0) ej_int) (fun h => ?_) (fun h => ?_)
  · have h0 : n = 0 := of_decide_eq_true h
    subst h0
    exact sj_ret (ej_tupD (ad_cons ej_int (ad_cons ej_int ad_nil)) (Nat.le_of_ble_eq_true rfl)) ⟨by rw [Rat.zero_divInt]; rfl, rfl⟩
  · have hn : n ≠ 0 := of_decide_eq_false h
    obtain ⟨i, a, rfl⟩ := tw_ex hn
    obtain ⟨j, b, rfl⟩ := tw_ex hd
    refine sj_par 2 3 G.nd G.calm (aj_cons (ej_call c_u_twos_in (G.le (by decide)) (aj_cons (ej_dat 0) aj_nil) (R_twos.mk i a B)) (aj_cons (ej_call c_u_twos_in (G.le (by decide)) (aj_cons (ej_dat 1) aj_nil) (R_twos.mk j b B)) aj_nil)) ?_ (by decide) (by rfl)
    obtain ⟨t, hi, hj, ht, em⟩ : ∃ t : Nat, t ≤ i ∧ t ≤ j ∧ (t = i ∨ t = j) ∧ min (i : Int) (j : Int) = (t : Int) := ⟨min i j, by omega, by omega, by omega, by omega⟩
    refine sj_set 4 G.nd (ej_is (ej_min G.calm m_min (ej_dat 2) (ej_dat 3)) (congrArg PyData.int em)) ?_
    refine sj_par 0 1 G.nd G.calm (aj_cons (ej_is (ej_shr (ej_dat 0) (ej_dat 4)) (congrArg PyData.int (tw_shr hi a))) (aj_cons (ej_is (ej_shr (ej_dat 1) (ej_dat 4)) (congrArg PyData.int (tw_shr hj b))) aj_nil)) ?_ (by decide) (by rfl)
    have ek : (j : Int) - (t : Int) = ((j - t : Nat) : Int) := by omega
    have e0 : tw (j - t) b / 2 ^ (j - t) = tw 0 b := by rw [tw_shr (Nat.le_refl _), Nat.sub_self]
    refine sj_set 5 G.nd (ej_gcd m_gcd (ej_dat 0) (ej_is (ej_shr (ej_dat 1) (ej_is (ej_sub (ej_dat 3) (ej_dat 4)) (congrArg PyData.int ek))) (congrArg PyData.int e0))) ?_
    have hd' : tw (j - t) b ≠ 0 := tw_ne _ _
    have eg : Nat.gcd (tw (i - t) a).natAbs (tw 0 b).natAbs = Nat.gcd (tw (i - t) a).natAbs (tw (j - t) b).natAbs := by
      refine (gcd_odd _ b ?_).symm
      rcases ht with rfl | rfl
      · left; rw [Nat.sub_self]; exact tw_odd a
      · right; exact Nat.sub_self _
    rw [eg, divInt_tw hi hj a b]
    have hb' : Bd 8900 (tw (j - t) b) := bd_tw hb (Nat.sub_le _ _)
    have cx : ∀ m, CDivX m (com (tw (i - t) a) (tw (j - t) b)) := fun m => cdx (com_bd hd' hb') (com_ne hd')
    refine sj_if (tj_lt (ej_dat 1) ej_int) (fun h => ?_) (fun h => ?_)
    · refine sj_set 5 G.nd (ej_neg (ej_dat 5)) (sj_nil ?_)
      have e : -((Nat.gcd (tw (i - t) a).natAbs (tw (j - t) b).natAbs : Nat) : Int) = com (tw (i - t) a) (tw (j - t) b) := (if_pos (of_decide_eq_true h)).symm
      rw [e]
      exact sj_ret (ej_tupD (ad_cons (ej_fdivX (ej_dat 0) (ej_dat 5) (cx _)) (ad_cons (ej_fdivX (ej_dat 1) (ej_dat 5) (cx _)) ad_nil)) (Nat.le_of_ble_eq_true rfl)) ⟨by rw [red_num hd', red_den hd']; rfl, rfl⟩
    · refine sj_nil ?_
      have e : ((Nat.gcd (tw (i - t) a).natAbs (tw (j - t) b).natAbs : Nat) : Int) = com (tw (i - t) a) (tw (j - t) b) := (if_neg (of_decide_eq_false h)).symm
      rw [e]
      exact sj_ret (ej_tupD (ad_cons (ej_fdivX (ej_dat 0) (ej_dat 5) (cx _)) (ad_cons (ej_fdivX (ej_dat 1) (ej_dat 5) (cx _)) ad_nil)) (Nat.le_of_ble_eq_true rfl)) ⟨by rw [red_num hd', red_den hd']; rfl, rfl⟩

abbrev s_times : Stmt := topS 6
theorem sc_times : FnScope ["one", "other", "first", "right", "second", "left"] ["one", "other"] (defScope s_times) := ⟨rfl, rfl, rfl, by decide +kernel, rfl, by decide +kernel, by decide +kernel⟩

theorem c_of_times (c_reduced : Cal P w K mg base "reduced" 3 R_reduced) (T : At K mg "times" s_times ["one", "other"]) : Cal P w K mg base "times" 4 (R_two (· * ·)) :=
  cal_at T sc_times (by rintro _ _ _ _ ⟨⟩; rfl) fun f cd0 A out s H E G Γ B r B' hR => by
  obtain ⟨n, d, m, c, x, y, B, hx, hy, h1, h2, h3⟩ := hR
  obtain ⟨b1, b2⟩ := divInt_bd (den_ne y) hx.nu hy.de
  obtain ⟨b3, b4⟩ := divInt_bd (den_ne x) hy.nu hx.de
  refine sj_unpack [2, 3] (ds := [.int (x.num /. (y.den : Int)).num, .int ((x.num /. (y.den : Int)).den : Int)]) G.calm (ej_call c_reduced (G.le (by decide)) (aj_cons (ej_at (ej_dat (d := fq x) 0)) (aj_cons (ej_at (ej_dat (d := fq y) 1)) aj_nil)) (R_reduced.mk _ _ _ (den_ne y) (hy.de.le (by omega)))) (pgs_cons (pg_name (i := 2) G.nd rfl (Or.inl rfl)) (pgs_cons (pg_name (i := 3) G.nd rfl (Or.inl rfl)) pgs_nil)) rfl ?_
  refine sj_unpack [4, 5] (ds := [.int (y.num /. (x.den : Int)).num, .int ((y.num /. (x.den : Int)).den : Int)]) G.calm (ej_call c_reduced (G.le (by decide)) (aj_cons (ej_at (ej_dat (d := fq y) 1)) (aj_cons (ej_at (ej_dat (d := fq x) 0)) aj_nil)) (R_reduced.mk _ _ _ (den_ne x) (hx.de.le (by omega)))) (pgs_cons (pg_name (i := 4) G.nd rfl (Or.inl rfl)) (pgs_cons (pg_name (i := 5) G.nd rfl (Or.inl rfl)) pgs_nil)) rfl ?_
  exact sj_ret (ej_tupD (ad_cons (ej_mul (ej_dat 2) (ej_dat 4) (cmz b1 b3)) (ad_cons (ej_mul (ej_dat 5) (ej_dat 3) (cmz b4 b2)) ad_nil)) (Nat.le_of_ble_eq_true rfl)) ⟨mul_by x y, rfl⟩

abbrev s_power_of : Stmt := topS 7
theorem sc_power_of : FnScope ["base", "e"] ["base", "e"] (defScope s_power_of) := ⟨rfl, rfl, rfl, by decide +kernel, rfl, by decide +kernel, by decide +kernel⟩

theorem c_of_power_of (c_integer_power : Cal P w K mg base "integer_power" 4 R_pow) (T : At K mg "power_of" s_power_of ["base", "e"]) : Cal P w K mg base "power_of" 5 R_power_of :=
  cal_at T sc_power_of (by rintro _ _ _ _ ⟨⟩; rfl) fun f cd0 A out s H E G Γ B r B' hR => by
  obtain ⟨b, e, B, h0, hb, h1, h2⟩ := hR
  refine sj_when (tj_lt (ej_dat 1) ej_int) (fun h => ?_) (fun h => ?_)
  · have he : e < 0 := of_decide_eq_true h
    have hn : -e = ((-e).toNat : Int) := by omega
    refine sj_ret (ej_tupD (ad_cons ej_int (ad_cons (ej_call c_integer_power (G.le (by decide)) (aj_cons (ej_dat 0) (aj_cons (ej_is (ej_neg (ej_dat 1)) (congrArg PyData.int hn)) aj_nil)) (R_pow.mk b (-e).toNat B hb (by omega))) ad_nil)) (Nat.le_of_ble_eq_true rfl)) ⟨?_, rfl⟩
    unfold pw
    rw [if_pos he, fq_inv (Nat.pow_pos h0)]
  · have he : ¬ e < 0 := of_decide_eq_false h
    have hn : e = (e.toNat : Int) := by omega
    refine sj_ret (ej_tupD (ad_cons (ej_call c_integer_power (G.le (by decide)) (aj_cons (ej_dat 0) (aj_cons (ej_is (ej_dat 1) (congrArg PyData.int hn)) aj_nil)) (R_pow.mk b e.toNat B hb (by omega))) (ad_cons ej_int ad_nil)) (Nat.le_of_ble_eq_true rfl)) ⟨?_, rfl⟩
    unfold pw
    rw [if_neg he, fq_nat]


abbrev s_compared : Stmt := topS 8
theorem sc_compared : FnScope ["one", "other", "left", "right"] ["one", "other"] (defScope s_compared) := ⟨rfl, rfl, rfl, by decide +kernel, rfl, by decide +kernel, by decide +kernel⟩

theorem c_of_compared (T : At K mg "compared" s_compared ["one", "other"]) : Cal P w K mg base "compared" 4 R_cmp :=
  cal_at T sc_compared (by rintro _ _ _ _ ⟨⟩; rfl) fun f cd0 A out s H E G Γ B r B' hR => by
  obtain ⟨n, d, m, c, x, y, B, hx, hy, h1, h2⟩ := hR
  refine sj_par 2 3 G.nd G.calm (aj_cons (ej_mul (ej_at (ej_dat 0)) (ej_at (ej_dat 1)) (cmz hx.nu hy.de)) (aj_cons (ej_mul (ej_at (ej_dat 1)) (ej_at (ej_dat 0)) (cmz hy.nu hx.de)) aj_nil)) ?_ (by decide) (by rfl)
  refine sj_when (tj_lt (ej_dat 2) (ej_dat 3)) (fun h => ?_) (fun h => ?_)
  · have h1 : x < y := (Rat.lt_iff x y).mpr (of_decide_eq_true h)
    exact sj_ret (ej_neg ej_int) ⟨by unfold cmp; rw [if_pos h1], rfl⟩
  · have h1 : ¬ x < y := fun z => of_decide_eq_false h ((Rat.lt_iff x y).mp z)
    refine sj_ret (ej_ifI (tj_gt (ej_dat 2) (ej_dat 3)) (fun _ => ej_int) fun _ => ej_int) ⟨?_, rfl⟩
    unfold cmp
    rw [if_neg h1]
    by_cases h2 : y < x
    · rw [if_pos h2, decide_eq_true ((Rat.lt_iff y x).mp h2)]; rfl
    · rw [if_neg h2, decide_eq_false fun z => h2 ((Rat.lt_iff y x).mpr z)]; rfl

abbrev s_u_twos_in : Stmt := topS 9
theorem sc_u_twos_in : FnScope ["n"] ["n"] (defScope s_u_twos_in) := ⟨rfl, rfl, rfl, by decide +kernel, rfl, by decide +kernel, by decide +kernel⟩

theorem c_of_u_twos_in (T : At K mg "_twos_in" s_u_twos_in ["n"]) : Cal P w K mg base "_twos_in" 1 R_twos :=
  cal_at T sc_u_twos_in (by rintro _ _ _ _ ⟨⟩; rfl) fun f cd0 A out s H E G Γ B r B' hR => by
  obtain ⟨k, a, B⟩ := hR
  exact sj_ret (ej_sub (ej_bits (ej_band (ej_dat 0) (ej_neg (ej_dat 0)))) ej_int) ⟨by rw [tw_low, bits_two], rfl⟩

abbrev s_worth : Stmt := topS 11
theorem sc_worth : FnScope ["form", "number", "_", "s", "c", "e"] ["form", "number"] (defScope s_worth) := ⟨rfl, rfl, rfl, by decide +kernel, rfl, by decide +kernel, by decide +kernel⟩

theorem c_of_worth (c_times : Cal P w K mg base "times" 4 (R_two (· * ·))) (c_power_of : Cal P w K mg base "power_of" 5 R_power_of) (T : At K mg "worth" s_worth ["form", "number"]) : Cal P w K mg base "worth" 6 R_worth :=
  cal_at T sc_worth (by rintro _ _ _ _ ⟨⟩; rfl) fun f cd0 A out s H E G Γ B r B' hR => by
  obtain ⟨b, p, low, high, s, c, e, B, F, hv⟩ := hR
  obtain ⟨h1, h3, h4, h5, h6⟩ := hv
  have b2 := F.b2; have bp := F.bp; have lo := F.lo; have hi := F.hi
  refine sj_unpack [2, 3, 4, 5] G.calm (ej_dat (d := .tuple [.str "num", .int s, .int c, .int e]) 1) (pgs_cons (pg_name (i := 2) G.nd rfl (Or.inl rfl)) (pgs_cons (pg_name (i := 3) G.nd rfl (Or.inl rfl)) (pgs_cons (pg_name (i := 4) G.nd rfl (Or.inl rfl)) (pgs_cons (pg_name (i := 5) G.nd rfl (Or.inl rfl)) pgs_nil)))) rfl ?_
  have hc : Qz 700 1 (((if s = 1 then -c else c : Int)) : Rat) := by
    refine ⟨?_, by rw [Rat.den_intCast]; unfold Bd; decide⟩
    rw [Rat.num_intCast]; unfold Bd
    split <;> omega
  refine sj_ret (ej_call c_times (G.le (by decide)) (aj_cons (ej_is (y := fq ((if s = 1 then -c else c : Int) : Rat)) (ej_tupD (ad_cons (ej_if (d := .da (.int (if s = 1 then -c else c))) (tj_eqI G.hu (ej_dat 3) ej_int) (fun h => ?_) (fun h => ?_)) (ad_cons ej_int ad_nil)) (Nat.le_of_ble_eq_true rfl)) (fq_int _).symm)
    (aj_cons (ej_call c_power_of (G.le (by decide)) (aj_cons (ej_at (ej_dat (d := .tuple [.int b, .int p, .int low, .int high]) 0)) (aj_cons (ej_dat 5) aj_nil)) (R_power_of.mk b e B (by omega) F.b6 (by omega) (by omega))) aj_nil))
    (R_two.mk _ _ _ _ _ _ B hc (F.qz h5 h6) (by decide) (by decide) (by decide))) ⟨rfl, rfl⟩
  · rw [if_pos (of_decide_eq_true h)]; exact ej_neg (ej_dat 4)
  · rw [if_neg (of_decide_eq_false h)]; exact ej_dat 4

abbrev s_is_finite : Stmt := topS 12
theorem sc_is_finite : FnScope ["value"] ["value"] (defScope s_is_finite) := ⟨rfl, rfl, rfl, by decide +kernel, rfl, by decide +kernel, by decide +kernel⟩

theorem c_of_is_finite (T : At K mg "is_finite" s_is_finite ["value"]) : Cal P w K mg base "is_finite" 4 (R_val (fun v => .bool v.isNum) (fun _ => True)) :=
  cal_at T sc_is_finite (by rintro _ _ _ _ ⟨⟩; rfl) fun f cd0 A out s H E G Γ B r B' hR => by
  obtain ⟨v, B, _⟩ := hR
  exact sj_ret (ej_eqS (ej_at (ej_dat (d := .tuple v.l) 0) v.at0) ej_str) ⟨by rw [tag_num], rfl⟩

abbrev s_order_of : Stmt := topS 14
theorem sc_order_of : FnScope ["form", "x", "other", "y"] ["form", "x", "other", "y"] (defScope s_order_of) := ⟨rfl, rfl, rfl, by decide +kernel, rfl, by decide +kernel, by decide +kernel⟩

theorem c_of_order_of (c_is_finite : Cal P w K mg base "is_finite" 4 (R_val (fun v => .bool v.isNum) (fun _ => True))) (c_compared : Cal P w K mg base "compared" 4 R_cmp) (c_worth : Cal P w K mg base "worth" 6 R_worth) (c_u_height : Cal P w K mg base "_height" 5 (R_val (fun v => .int (plI v)) (fun v => v.isNan = false ∧ (v.sg = 0 ∨ v.sg = 1))))
    (T : At K mg "order_of" s_order_of ["form", "x", "other", "y"]) : Cal P w K mg base "order_of" 7 R_order :=
  cal_at T sc_order_of (by rintro _ _ _ _ ⟨⟩; rfl) fun f cd0 A out s H E0 G Γ B r B' hR => by
  obtain ⟨b, p, low, high, b', p', low', high', x, y, B, F, F', hx, hy⟩ := hR
  unfold ordP
  refine sj_when (x := decide (x.isNan = true ∨ y.isNan = true)) (tj_is (tj_w (wj_or (tj_is (tj_eqS (ej_at (ej_dat (d := .tuple x.l) 1) x.at0) ej_str) (tag_nan x)) fun _ => wj_or1 (tj_is (tj_eqS (ej_at (ej_dat (d := .tuple y.l) 3) y.at0) ej_str) (tag_nan y)))) (by cases x.isNan <;> cases y.isNan <;> rfl)) (fun h => ?_) (fun h => ?_)
  · rw [if_pos (of_decide_eq_true h)]; exact sj_ret ej_non ⟨rfl, rfl⟩
  have hnn := of_decide_eq_false h
  rw [if_neg hnn]
  have hxn : x.isNan = false := by cases hh : x.isNan; rfl; exact absurd (.inl hh) hnn
  have hyn : y.isNan = false := by cases hh : y.isNan; rfl; exact absurd (.inr hh) hnn
  have sx := sg_01 hxn hx; have sy := sg_01 hyn hy
  refine sj_when (x := x.isNum && y.isNum) (tj_w (wj_and (tj_val (ej_call c_is_finite (G.le (by decide)) (aj_cons (ej_dat 1) aj_nil) (R_val.mk x B trivial))) fun _ => wj_and1 (tj_val (ej_call c_is_finite (G.le (by decide)) (aj_cons (ej_dat 3) aj_nil) (R_val.mk y B trivial))))) (fun h => ?_) (fun h => ?_)
  · obtain ⟨ix, iy⟩ := Bool.and_eq_true_iff.mp h
    obtain ⟨s1, c1, e1, rfl⟩ : ∃ s c e, x = .num s c e := by cases x <;> first | exact ⟨_, _, _, rfl⟩ | cases ix
    obtain ⟨s2, c2, e2, rfl⟩ : ∃ s c e, y = .num s c e := by cases y <;> first | exact ⟨_, _, _, rfl⟩ | cases iy
    rw [ord_num]
    exact sj_ret (ej_call c_compared (G.le (by decide)) (aj_cons (ej_call c_worth (G.le (by decide)) (aj_cons (ej_dat 0) (aj_cons (ej_dat 1) aj_nil)) (R_worth.mk b p low high s1 c1 e1 B F hx)) (aj_cons (ej_call c_worth (G.le (by decide)) (aj_cons (ej_dat 2) (aj_cons (ej_dat 3) aj_nil)) (R_worth.mk b' p' low' high' s2 c2 e2 B F' hy)) aj_nil)) (R_cmp.mk _ _ _ _ _ _ B (F.wz hx) (F'.wz hy) (by decide) (by decide))) ⟨rfl, rfl⟩
  · have hp : plI x ≠ 0 ∨ plI y ≠ 0 := by
      rcases Bool.and_eq_false_iff.mp h with z | z
      · exact .inl fun w => by rw [plI_num hxn sx w] at z; cases z
      · exact .inr fun w => by rw [plI_num hyn sy w] at z; cases z
    unfold ordI
    rw [if_pos hp, ← cmp_int]
    have b1 : Bd 3 (plI x) := by unfold plI Bd; split <;> omega
    have b2 : Bd 3 (plI y) := by unfold plI Bd; split <;> omega
    exact sj_ret (ej_call c_compared (G.le (by decide)) (aj_cons (ej_is (y := fq (plI x : Rat)) (ej_tupD (ad_cons (ej_call c_u_height (G.le (by decide)) (aj_cons (ej_dat 1) aj_nil) (R_val.mk x B ⟨hxn, sx⟩)) (ad_cons ej_int ad_nil)) (Nat.le_of_ble_eq_true rfl)) (fq_int _).symm) (aj_cons (ej_is (y := fq (plI y : Rat)) (ej_tupD (ad_cons (ej_call c_u_height (G.le (by decide)) (aj_cons (ej_dat 3) aj_nil) (R_val.mk y B ⟨hyn, sy⟩)) (ad_cons ej_int ad_nil)) (Nat.le_of_ble_eq_true rfl)) (fq_int _).symm) aj_nil)) (R_cmp.mk _ _ _ _ _ _ B (int_qz b1) (int_qz b2) (by decide) (by decide))) ⟨rfl, rfl⟩

abbrev s_less : Stmt := topS 15
theorem sc_less : FnScope ["form", "x", "y"] ["form", "x", "y"] (defScope s_less) := ⟨rfl, rfl, rfl, by decide +kernel, rfl, by decide +kernel, by decide +kernel⟩

theorem c_of_less /-H-/ (c_order_of : Cal P w K mg base "order_of" 7 R_order) /-E-/ (T : At K mg "less" s_less ["form", "x", "y"]) : Cal P w K mg base "less" 8 (R_ordis (-1)) :=
  cal_at T sc_less (by rintro _ _ _ _ ⟨⟩; rfl) fun f cd0 A out s0 H E0 G Γ B r B' hR => by
  obtain ⟨b, p, low, high, x, y, B, F, hx, hy⟩ := hR
  exact sj_ret (ej_eq G.hu (ej_call c_order_of (G.le (by decide)) (aj_cons (ej_dat 0) (aj_cons (ej_dat (d := x.d) 1) (aj_cons (ej_dat 0) (aj_cons (ej_dat (d := y.d) 2) aj_nil)))) (R_order.mk b p low high b p low high x y B F F hx hy)) (ej_neg ej_int) (ord_shaped _ _ _ _) rfl) ⟨rfl, rfl⟩

abbrev s_same : Stmt := topS 16
theorem sc_same : FnScope ["form", "x", "y"] ["form", "x", "y"] (defScope s_same) := ⟨rfl, rfl, rfl, by decide +kernel, rfl, by decide +kernel, by decide +kernel⟩

theorem c_of_same /-H-/ (c_order_of : Cal P w K mg base "order_of" 7 R_order) /-E-/ (T : At K mg "same" s_same ["form", "x", "y"]) : Cal P w K mg base "same" 8 (R_ordis 0) :=
  cal_at T sc_same (by rintro _ _ _ _ ⟨⟩; rfl) fun f cd0 A out s0 H E0 G Γ B r B' hR => by
  obtain ⟨b, p, low, high, x, y, B, F, hx, hy⟩ := hR
  exact sj_ret (ej_eq G.hu (ej_call c_order_of (G.le (by decide)) (aj_cons (ej_dat 0) (aj_cons (ej_dat (d := x.d) 1) (aj_cons (ej_dat 0) (aj_cons (ej_dat (d := y.d) 2) aj_nil)))) (R_order.mk b p low high b p low high x y B F F hx hy)) ej_int (ord_shaped _ _ _ _) rfl) ⟨rfl, rfl⟩

abbrev s_in_order : Stmt := topS 17
theorem sc_in_order : FnScope ["form", "values"] ["form", "values"] (defScope s_in_order) := ⟨rfl, rfl, rfl, by decide +kernel, rfl, by decide +kernel, by decide +kernel⟩

theorem c_of_in_order /-H-/ (m_sorted : mg "sorted" = none) (c_place_of : Cal P w K mg base "place_of" 4 (R_val plD (fun _ => True))) /-E-/ (T : At K mg "in_order" s_in_order ["form", "values"]) : CalF P w K mg base "in_order" 7 R_inord :=
  calf_at T sc_in_order (by rintro _ _ _ _ ⟨⟩; rfl) fun f cd0 A out s0 H E0 G Γ B ds B' hR => by
  generalize hr : PyData.list ds = r at hR
  obtain ⟨b, p, low, high, tl, L, B, hl⟩ := hR
  injection hr with hr
  subst hr
  rw [← ino_eq]
  exact sjf_retF (fj2_sortedK (tl := tl) (ds := L.map Va.d) kfV c_place_of (G.le (by decide)) m_sorted (ej_dat 1) (fun d hd => by
    obtain ⟨u, _, rfl⟩ := List.mem_map.mp hd
    rw [kfV_d]; exact R_val.mk u B trivial) (ino_al L) (ino_so L) (by rw [List.length_map]; exact hl) (ino_dp L))

abbrev s_u_height : Stmt := topS 18
theorem sc_u_height : FnScope ["value"] ["value"] (defScope s_u_height) := ⟨rfl, rfl, rfl, by decide +kernel, rfl, by decide +kernel, by decide +kernel⟩

theorem c_of_u_height (c_is_finite : Cal P w K mg base "is_finite" 4 (R_val (fun v => .bool v.isNum) (fun _ => True))) (T : At K mg "_height" s_u_height ["value"]) : Cal P w K mg base "_height" 5 (R_val (fun v => .int (plI v)) (fun v => v.isNan = false ∧ (v.sg = 0 ∨ v.sg = 1))) :=
  cal_at T sc_u_height (by rintro _ _ _ _ ⟨⟩; rfl) fun f cd0 A out s H E0 G Γ B r B' hR => by
  obtain ⟨v, B, hn, hs⟩ := hR
  unfold plI
  refine sj_when (tj_val (ej_call c_is_finite (G.le (by decide)) (aj_cons (ej_dat 0) aj_nil) (R_val.mk v B trivial))) (fun h => ?_) (fun h => ?_)
  · rw [if_pos h]; exact sj_ret ej_int ⟨rfl, rfl⟩
  · rw [if_neg (by rw [h]; decide)]
    refine sj_ret (ej_if (d := .da (.int (1 - 2 * v.sg))) (tj_eqI G.hu (ej_at (ej_dat (d := .tuple v.l) 0) (at1 hn)) ej_int) (fun hz => ?_) (fun hz => ?_)) ⟨rfl, rfl⟩
    · rw [of_decide_eq_true hz]; exact ej_int
    · have := of_decide_eq_false hz
      have h1 : v.sg = 1 := by omega
      rw [h1]; exact ej_neg ej_int

abbrev s_l_bag : Stmt := topS 20
theorem sc_l_bag : FnScope ["_law_script", "_law_cell"] ["_law_script"] (defScope s_l_bag) := ⟨rfl, rfl, rfl, by decide +kernel, rfl, by decide +kernel, by decide +kernel⟩

theorem c_of_l_bag (m_abs : mg "abs" = none) (T : At K mg "_law_bag" s_l_bag ["_law_script"]) : Cal P w K mg base "_law_bag" 4 R_bag :=
  cal_at T sc_l_bag (by rintro _ _ _ _ ⟨⟩; rfl) fun f cd0 A out s H E G Γ B r B' hR => by
  obtain ⟨ns, B, hl⟩ := hR
  refine sj_ret (ej_lstD (ad_cons ej_int (ad_cons ej_int (ad_cons ej_int (ad_cons (ej_lc (j := 1) (x := "_law_cell") G.nd G.calm (blkOk_by (N := ["_law_script", "_law_cell"]) (sc := defScope s_l_bag) (by decide +kernel)) (fun _ _ _ _ _ => pg_name (i := 1) G.nd rfl (Or.inl rfl))
    (rj_lc (ds := (ns.take 63).map .int) (ys := ((ns.take 63).map absI).map .int) (fun _ => B) (ej_is (ej_sliceScr (ej_var 0 (d := .scr ns) rfl (fun z => nomatch z)) oj_none (oj_some ej_int)) (congrArg PyData.list (cut_head ns 63)))
      (by simp) (by rw [List.length_map, List.length_take]; omega) ?_)) ad_nil)))) (Nat.le_of_ble_eq_true rfl)) ⟨rfl, rfl⟩
  intro i y z hy hz s H C cl fp
  rw [List.getElem?_map] at hy hz
  rw [List.getElem?_map] at hz
  obtain ⟨n, hn, rfl⟩ := Option.map_eq_some_iff.mp hy
  rw [hn] at hz
  cases hz
  exact ej_abs m_abs (ej_dat 1)

abbrev s_l_take : Stmt := topS 21
theorem sc_l_take : FnScope ["_law_bag_here", "_law_many", "_law_cell", "_law_stirred", "_law_value_here", "_law_begin", "_law_second"] ["_law_bag_here", "_law_many"] (defScope s_l_take) := ⟨rfl, rfl, rfl, by decide +kernel, rfl, by decide +kernel, by decide +kernel⟩

theorem c_of_l_take (m_int : mg "int" = none) (T : At K mg "_law_take" s_l_take ["_law_bag_here", "_law_many"]) : Cal P w K mg base "_law_take" 4 R_take :=
  cal_at T sc_l_take (by rintro _ _ _ _ ⟨⟩; rfl) fun f cd0 A out s H E G Γ B r B' hR => by
  obtain ⟨B, m, hm, hb, hc⟩ := hR
  refine sj_ifM (fun Γ' B2 => B2 = stir B ∧ Γ'[0]? = some .bag ∧ Γ'[1]? = some (.da (.int m)) ∧ Γ'.length = 7) (tj_eqI G.hu (ej_bagAt (k := 0) (ej_bag 0) ej_int rfl (.inl ⟨rfl, rfl⟩) fun _ _ => rfl) ej_int) (fun h => ?_) (fun h => ?_) ?_
  · have hx : B.x = 0 := of_decide_eq_true h
    refine sj_set 2 G.nd (ej_ixL (ej_catL (ej_sliceL (ej_bagAt (k := 3) (ej_bag 0) ej_int rfl (.inr (.inr (.inr ⟨rfl, rfl⟩))) fun _ _ => rfl) (oj_some (ej_bagAt (k := 2) (ej_bag 0) ej_int rfl (.inr (.inr (.inl ⟨rfl, rfl⟩))) fun _ _ => rfl)) oj_none) (ej_lstD (ad_cons ej_int ad_nil) (Nat.le_of_ble_eq_true rfl)) ?_) ej_int (drop_cell B) fun _ _ => rfl) ?_
    · have h63 : B.cs.length ≤ 63 := hc
      show (cutP (B.cs.map PyData.int) (some B.z) none).length + 1 ≤ 1000
      unfold cutP
      rw [List.length_take, List.length_drop, List.length_map]; omega
    refine sj_bagAug (ej_bag 0) ej_int ej_int rfl ?_
    refine sj_ifM (fun Γ' B2 => Γ' = [.bag, .da (.int m), .da (.int (cell B)), .no, .no, .no, .no] ∧ B2 = ⟨if 10 ^ 18 ≤ cell B then cell B else B.x, B.y, B.z + 1, B.cs⟩)
      (tj_ge (ej_dat 2) (ej_pow ej_int ej_int ⟨by decide, by decide, by decide⟩)) (fun h => ?_) (fun h => ?_) ?_
    · refine sj_bagSet (ej_dat 2) (ej_bag 0) ej_int (k := 0) rfl (.inl ⟨rfl, rfl⟩) (sj_nil ⟨rfl, ?_⟩)
      have h' : (10 : Int) ^ 18 ≤ cell B := of_decide_eq_true h
      rw [if_pos h']
    · refine sj_nil ⟨rfl, ?_⟩
      have h' : ¬ (10 : Int) ^ 18 ≤ cell B := of_decide_eq_false h
      rw [if_neg h']
    · rintro Γ2 B2 ⟨rfl, rfl⟩
      refine sj_set 3 G.nd (ej_add (ej_add (ej_mulC (ej_bagAt (k := 1) (ej_bag 0) ej_int rfl (.inr (.inl ⟨rfl, rfl⟩)) fun _ _ => rfl) ej_int (.inr (by decide))) (ej_mod (ej_int1 m_int (ej_dat 2)) ej_int (by decide)))
        (ej_mulC ej_int (ej_bagAt (k := 2) (ej_bag 0) ej_int rfl (.inr (.inr (.inl ⟨rfl, rfl⟩))) fun _ _ => rfl) (.inl (by decide)))) ?_
      refine sj_bagSet (ej_mod (ej_int1 m_int (ej_dat 3)) ej_int (by decide)) (ej_bag 0) ej_int (k := 1) rfl (.inr (.inl ⟨rfl, rfl⟩)) (sj_nil ⟨?_, rfl, rfl, rfl⟩)
      unfold stir
      rw [if_pos hx]
  · refine sj_nil ⟨?_, rfl, rfl, rfl⟩
    unfold stir
    rw [if_neg (of_decide_eq_false h)]
  · rintro Γ2 B2 ⟨rfl, g0, g1, gl⟩
    refine sj_when (tj_gt (ej_bagAt (k := 0) (ej_bag 0 g0) ej_int rfl (.inl ⟨rfl, rfl⟩) fun _ _ => rfl) ej_int) (fun h => ?_) (fun h => ?_)
    · have h' : 0 < (stir B).x := of_decide_eq_true h
      refine sj_set 4 G.nd (ej_mod (ej_int1 m_int (ej_bagAt (k := 0) (ej_bag 0 g0) ej_int rfl (.inl ⟨rfl, rfl⟩) fun _ _ => rfl)) (ej_dat 1 g1) hm) ?_
      have g0' : (Γ2.set 4 (.da (.int ((stir B).x % m))))[0]? = some .bag := by rw [List.getElem?_set_ne (by decide)]; exact g0
      have g1' : (Γ2.set 4 (.da (.int ((stir B).x % m))))[1]? = some (.da (.int m)) := by rw [List.getElem?_set_ne (by decide)]; exact g1
      have g4 : (Γ2.set 4 (.da (.int ((stir B).x % m))))[4]? = some (.da (.int ((stir B).x % m))) := List.getElem?_set_self (by omega)
      refine sj_bagSet (ej_fdiv (ej_int1 m_int (ej_bagAt (k := 0) (ej_bag 0 g0') ej_int rfl (.inl ⟨rfl, rfl⟩) fun _ _ => rfl)) (ej_dat 1 g1') (cdv hb hm)) (ej_bag 0 g0') ej_int (k := 0) rfl (.inl ⟨rfl, rfl⟩) ?_
      refine sj_ret (ej_dat 4 g4) ⟨?_, ?_⟩
      · unfold tkV; rw [if_pos h']
      · unfold tkB; rw [if_pos h']
    · have h' : ¬ 0 < (stir B).x := of_decide_eq_false h
      refine sj_set 5 G.nd (ej_mod (ej_int1 m_int (ej_mulC (ej_add (ej_bagAt (k := 1) (ej_bag 0 g0) ej_int rfl (.inr (.inl ⟨rfl, rfl⟩)) fun _ _ => rfl) ej_int) ej_int (.inr (by decide)))) ej_int (by decide)) ?_
      generalize hbg : (((stir B).y + 1) * 39373) % 1000000007 = bg
      have hb5 : 0 ≤ bg ∧ bg < 1000000007 := by rw [← hbg]; exact ⟨Int.emod_nonneg _ (by decide), Int.emod_lt_of_pos _ (by decide)⟩
      have g5 : (Γ2.set 5 (.da (.int bg)))[5]? = some (.da (.int bg)) := List.getElem?_set_self (by omega)
      refine sj_set 6 G.nd (ej_mod (ej_int1 m_int (ej_mulC (ej_mod (ej_int1 m_int (ej_mulC (ej_dat 5 g5) (ej_dat 5 g5) (.inl (by omega)))) ej_int (by decide)) ej_int (.inr (by decide)))) ej_int (by decide)) ?_
      have g6 : ((Γ2.set 5 (.da (.int bg))).set 6 (.da (.int ((bg * bg) % 998244353 * 30011 % 998244353))))[6]? = some (.da (.int ((bg * bg) % 998244353 * 30011 % 998244353))) := List.getElem?_set_self (by rw [List.length_set]; omega)
      have g1' : ((Γ2.set 5 (.da (.int bg))).set 6 (.da (.int ((bg * bg) % 998244353 * 30011 % 998244353))))[1]? = some (.da (.int m)) := by
        rw [List.getElem?_set_ne (by decide), List.getElem?_set_ne (by decide)]; exact g1
      refine sj_ret (ej_mod (ej_int1 m_int (ej_fdiv (ej_dat 6 g6) ej_int (cdv (show Bd 3 7 from by unfold Bd; decide) (by decide)))) (ej_dat 1 g1') hm) ⟨?_, ?_⟩
      · unfold tkV low; rw [if_neg h', hbg]
      · unfold tkB; rw [if_neg h']

abbrev s_l_some : Stmt := topS 22
theorem sc_l_some : FnScope ["_law_bag_here", "_law_things"] ["_law_bag_here", "_law_things"] (defScope s_l_some) := ⟨rfl, rfl, rfl, by decide +kernel, rfl, by decide +kernel, by decide +kernel⟩

theorem c_of_l_some (m_len : mg "len" = none) (c_l_take : Cal P w K mg base "_law_take" 4 R_take) (T : At K mg "_law_some" s_l_some ["_law_bag_here", "_law_things"]) : Cal P w K mg base "_law_some" 5 R_some :=
  cal_at T sc_l_some (by rintro _ _ _ _ ⟨⟩; rfl) fun f cd0 A out s H E G Γ B r B' hR => by
  obtain ⟨B, ds, h, hl, hc⟩ := hR
  have hb : Bd 8000 (ds.length : Int) := by
    have h10 : ds.length < 2 ^ 10 := by omega
    exact (Bd.nat h10).le (by decide)
  exact sj_ret (ej_ixL (ej_dat 1) (ej_call c_l_take (G.le (by decide)) (aj_cons (ej_bag 0) (aj_cons (ej_lenL m_len (ej_dat 1)) aj_nil)) (R_take.mk B _ (by omega) hb hc)) (pick_at ds B h) fun _ _ => rfl) ⟨rfl, rfl⟩


abbrev s_l_mixed : Stmt := topS 23
theorem sc_l_mixed : FnScope ["_law_bag_here", "_law_things", "_law_found", "_law_thing"] ["_law_bag_here", "_law_things"] (defScope s_l_mixed) := ⟨rfl, rfl, rfl, by decide +kernel, rfl, by decide +kernel, by decide +kernel⟩

theorem c_of_l_mixed (m_len : mg "len" = none) (c_l_take : Cal P w K mg base "_law_take" 4 R_take) (T : At K mg "_law_mixed" s_l_mixed ["_law_bag_here", "_law_things"]) : CalX P w K mg base "_law_mixed" 5 Pre_mixed Post_mixed :=
  calx_at T sc_l_mixed (by rintro _ _ ⟨t, ds, rfl, _⟩; rfl) fun f cd0 A out s0 H E0 G Γ B hPre => by
  obtain ⟨t, ds, rfl, hl, hf, okB⟩ := hPre
  have body : ∀ (z : VD) (zs : VD) (B' : Bag) (acc : List PyData) (k : Nat) (y : PyData) (fx : List VD → Bag → Prop) (rt : PyData → Bag → Prop) (bk ct : List VD → Bag → List PyData → Prop), Bok B' → acc.Perm (ds.take k) → ds[k]? = some y →
      OwJ (cxOf CX0 P w K mg base ["_law_bag_here", "_law_things", "_law_found", "_law_thing"] "_law_mixed" (defScope s_l_mixed) f cd0 A out s0 H E0).nox 2 [.bag, zs, .no, .da y] B' acc
        (match (defBody s_l_mixed).getD 1 (.Pass ⟨0, 0, 0, 0⟩) with | .For _ _ b _ _ => b | _ => [])
        { nx := fun Γ' B' acc' => (∃ z, Γ' = [.bag, zs, .no, z]) ∧ Bok B' ∧ acc'.Perm (ds.take (k + 1)), fx := fx, rt := rt, bk := bk, ct := ct } := by
    intro z zs B' acc k y fx rt bk ct ok hp hy
    have hk : k < ds.length := (List.getElem?_eq_some_iff.mp hy).1
    have hal : acc.length = k := by rw [hp.length_eq, List.length_take]; omega
    have t0 := tkV_ge B' (m := (acc.length : Int) + 1) (by omega)
    have t1 := tkV_lt B' (m := (acc.length : Int) + 1) (by omega)
    have ek : tkV B' ((acc.length : Int) + 1) = ((tkV B' ((acc.length : Int) + 1)).toNat : Int) := by omega
    refine ow_ins (k0 := (tkV B' ((acc.length : Int) + 1)).toNat) G.nd (oe_fz (ej_is (ej_call c_l_take (G.le (by decide)) (aj_cons (ej_bag 0) (aj_cons (ej_add (ej_lenL m_len (ej_dat 2)) ej_int) aj_nil)) (R_take.mk B' ((acc.length : Int) + 1) (by omega) (by unfold Bd; exact Nat.lt_of_lt_of_le (show _ < 2 ^ 20 by omega) (Nat.pow_le_pow_right (by decide) (by decide))) ok)) (congrArg PyData.int ek)) rfl)
      (oe_ej (ej_dat 3)) (by omega) (by omega) (ow_nil ⟨⟨_, rfl⟩, tkB_ok ok _, ?_⟩)
    rw [List.take_add_one, hy]
    refine List.Perm.trans ?_ (hp.append_right [y])
    generalize (tkV B' ((acc.length : Int) + 1)).toNat = n
    refine List.Perm.trans (List.Perm.append_right _ List.perm_append_comm) ?_
    rw [List.append_assoc, List.take_append_drop]
    exact List.perm_append_comm
  refine sj_own 2 G.nd (fj_lst (ds := []) aj_nil (by decide)) (show 3 ≤ _ from Nat.le_of_ble_eq_true rfl) ?_
  cases t with
  | true =>
    refine ow_forL (ds := ds) 3 G.nd G.calm (by decide) (fun k Γ' B' acc => (∃ z, Γ' = [.bag, .da (.list ds), .no, z]) ∧ Bok B' ∧ acc.Perm (ds.take k)) (ej_dat (d := .list ds) 1) ⟨⟨_, rfl⟩, okB, List.Perm.refl _⟩ (fun k y Γ' B' acc hy hP => ?_) (fun Γ' B' acc hP => ?_)
    · obtain ⟨⟨z, rfl⟩, ok, hp⟩ := hP
      exact body .no _ B' acc k y _ _ _ _ ok hp hy
    · obtain ⟨⟨z, rfl⟩, ok, hp⟩ := hP
      rw [List.take_length] at hp
      exact ow_end (sj_ret (ej_dat 2) ⟨ok, fun t2 ds2 e => by injection e with _ e; injection e with e _; injection e with e; cases t2 <;> (cases e) ; exact ⟨acc, rfl, hp⟩⟩)
  | false =>
    refine ow_forT (ds := ds) 3 G.nd G.calm (by decide) (fun k Γ' B' acc => (∃ z, Γ' = [.bag, .da (.tuple ds), .no, z]) ∧ Bok B' ∧ acc.Perm (ds.take k)) (ej_dat (d := .tuple ds) 1) ⟨⟨_, rfl⟩, okB, List.Perm.refl _⟩ (fun k y Γ' B' acc hy hP => ?_) (fun Γ' B' acc hP => ?_)
    · obtain ⟨⟨z, rfl⟩, ok, hp⟩ := hP
      exact body .no _ B' acc k y _ _ _ _ ok hp hy
    · obtain ⟨⟨z, rfl⟩, ok, hp⟩ := hP
      rw [List.take_length] at hp
      exact ow_end (sj_ret (ej_dat 2) ⟨ok, fun t2 ds2 e => by injection e with _ e; injection e with e _; injection e with e; cases t2 <;> (cases e) ; exact ⟨acc, rfl, hp⟩⟩)

abbrev s_l_alike : Stmt := topS 24
theorem sc_l_alike : FnScope ["_law_found", "_law_due"] ["_law_found", "_law_due"] (defScope s_l_alike) := ⟨rfl, rfl, rfl, by decide +kernel, rfl, by decide +kernel, by decide +kernel⟩

theorem c_of_l_alike (m_repr : mg "repr" = none) (T : At K mg "_law_alike" s_l_alike ["_law_found", "_law_due"]) : Cal P w K mg base "_law_alike" 4 R_alike :=
  cal_at T sc_l_alike (by rintro _ _ _ _ ⟨⟩; rfl) fun f cd0 A out s H E G Γ B r B' hR => by
  obtain ⟨d, B, h, hb⟩ := hR
  refine sj_ret (ej_and (ej_eq G.hu (ej_dat 0) (ej_dat 1) h.shaped h.shaped) fun _ => (ej_one (ej_eqS (ej_repr G m_repr (ej_dat 0) hb h.shows) (ej_repr G m_repr (ej_dat 1) hb h.shows)))) ⟨?_, rfl⟩
  rw [eqv_refl_of h.shaped, decide_eq_true rfl]; rfl

abbrev s_l_common : Stmt := topS 25
theorem sc_l_common : FnScope ["_law_one", "_law_other"] ["_law_one", "_law_other"] (defScope s_l_common) := ⟨rfl, rfl, rfl, by decide +kernel, rfl, by decide +kernel, by decide +kernel⟩

theorem c_of_l_common (m_abs : mg "abs" = none) (m_int : mg "int" = none) (T : At K mg "_law_common" s_l_common ["_law_one", "_law_other"]) : Cal P w K mg base "_law_common" 4 R_common :=
  cal_at T sc_l_common (by rintro _ _ _ _ ⟨⟩; rfl) fun f cd0 A out s H E G Γ B r B' hR => by
  obtain ⟨n, d, B⟩ := hR
  refine sj_par 0 1 G.nd G.calm (aj_cons (ej_abs m_abs (ej_dat 0)) (aj_cons (ej_abs m_abs (ej_dat 1)) aj_nil)) ?_ (by decide) (by rfl)
  refine sj_while G.nd (fun Γ' B' => ∃ a c : Nat, Γ' = [.da (.int a), .da (.int c)] ∧ Nat.gcd a c = Nat.gcd n.natAbs d.natAbs ∧ B' = B) (fun Γ' _ => (intAt Γ' 1).toNat)
    ⟨n.natAbs, d.natAbs, by rw [absI_nat, absI_nat]; rfl, rfl, rfl⟩ ?_
  rintro Γ' B' ⟨a, c, rfl, hg, rfl⟩
  refine ⟨_, tj_gt (ej_dat 1) ej_int, fun h => ?_, fun h => ?_⟩
  · have hc : 0 < c := by have := of_decide_eq_true h; omega
    refine sj_par 0 1 G.nd G.calm (aj_cons (ej_dat 1) (aj_cons (ej_mod (ej_int1 m_int (ej_dat 0)) (ej_dat 1) (by omega)) aj_nil)) (sj_nil ?_) (by decide) (by rfl)
    rw [← Int.natCast_emod]
    refine ⟨⟨c, a % c, rfl, ?_, rfl⟩, show ((a % c : Nat) : Int).toNat < (c : Int).toNat from ?_⟩
    · rw [← hg, Nat.gcd_comm a c, Nat.gcd_rec c a, Nat.gcd_comm]
    · have := Nat.mod_lt a hc; omega
  · have hc : c = 0 := by have := of_decide_eq_false h; omega
    subst hc
    rw [Nat.gcd_zero_right] at hg
    exact sj_ret (ej_dat 0) ⟨by rw [hg], rfl⟩

abbrev s_l_to : Stmt := topS 26
theorem sc_l_to : FnScope ["_law_base", "_law_n", "_law_found", "_law_factor"] ["_law_base", "_law_n"] (defScope s_l_to) := ⟨rfl, rfl, rfl, by decide +kernel, rfl, by decide +kernel, by decide +kernel⟩

theorem c_of_l_to (m_int : mg "int" = none) (T : At K mg "_law_to" s_l_to ["_law_base", "_law_n"]) : Cal P w K mg base "_law_to" 4 R_pow :=
  cal_at T sc_l_to (by rintro _ _ _ _ ⟨⟩; rfl) fun f cd0 A out s H E G Γ B r B' hR => by
  obtain ⟨b, e, B, hb, he⟩ := hR
  refine sj_par 2 3 G.nd G.calm (aj_cons ej_int (aj_cons (ej_dat 0) aj_nil)) ?_ (by decide) (by rfl)
  refine sj_while G.nd (fun Γ' B' => ∃ k m j : Nat, Γ' = [.da (.int b), .da (.int m), .da (.int ((b ^ j : Nat) : Int)), .da (.int ((b ^ k : Nat) : Int))] ∧ j + k * m = e ∧ B' = B) (fun Γ' _ => (intAt Γ' 1).toNat)
    ⟨1, e, 0, by rw [Nat.pow_one]; rfl, by omega, rfl⟩ ?_
  rintro Γ' B' ⟨k, m, j, rfl, hk, rfl⟩
  refine ⟨_, tj_gt (ej_dat 1) ej_int, fun h => ?_, fun h => ?_⟩
  · have hm : 0 < m := by have := of_decide_eq_true h; omega
    obtain ⟨k1, j1⟩ := k_le hk hm
    refine sj_ifM (fun Γ' B2 => ∃ j' : Nat, Γ' = [.da (.int b), .da (.int m), .da (.int ((b ^ j' : Nat) : Int)), .da (.int ((b ^ k : Nat) : Int))] ∧ j' + (k + k) * (m / 2) = e ∧ B2 = B') (tj_eqI G.hu (ej_mod (ej_int1 m_int (ej_dat 1)) ej_int (by decide)) ej_int) (fun h1 => ?_) (fun h1 => ?_) ?_
    · refine sj_set 2 G.nd (ej_mul (ej_dat 2) (ej_dat 3) (cm (bd_pow j hb) (bd_pow k hb) (by omega))) (sj_nil ?_)
      rw [pow_up]
      exact ⟨j + k, rfl, turn_odd hk (by have := of_decide_eq_true h1; omega), rfl⟩
    · exact sj_nil ⟨j, rfl, turn_even hk (by have := of_decide_eq_false h1; omega), rfl⟩
    · rintro Γ2 B2 ⟨j', rfl, hj', rfl⟩
      refine sj_par 3 1 G.nd G.calm (aj_cons (ej_mul (ej_dat 3) (ej_dat 3) (cm (bd_pow k hb) (bd_pow k hb) (by omega))) (aj_cons (ej_fdiv (ej_int1 m_int (ej_dat 1)) ej_int (cdv (show Bd 2 2 from by unfold Bd; decide) (by decide))) aj_nil)) (sj_nil ?_) (by decide) (by rfl)
      rw [pow_sq, half]
      exact ⟨⟨k + k, m / 2, j', rfl, hj', rfl⟩, show ((m / 2 : Nat) : Int).toNat < (m : Int).toNat by omega⟩
  · have hm : ¬ 0 < m := by have := of_decide_eq_false h; omega
    have := j_end hk hm
    subst this
    exact sj_ret (ej_dat 2) ⟨rfl, rfl⟩

abbrev s_l_over : Stmt := topS 27
theorem sc_l_over : FnScope ["_law_n", "_law_d", "_law_shared"] ["_law_n", "_law_d"] (defScope s_l_over) := ⟨rfl, rfl, rfl, by decide +kernel, rfl, by decide +kernel, by decide +kernel⟩

theorem c_of_l_over (m_int : mg "int" = none) (c_l_common : Cal P w K mg base "_law_common" 4 R_common) (T : At K mg "_law_over" s_l_over ["_law_n", "_law_d"]) : Cal P w K mg base "_law_over" 5 R_reduced :=
  cal_at T sc_l_over (by rintro _ _ _ _ ⟨⟩; rfl) fun f cd0 A out s H E G Γ B r B' hR => by
  obtain ⟨n, d, B, hd, hb⟩ := hR
  have cx : ∀ m, CDivX m (com n d) := fun m => cdx (com_bd hd hb) (com_ne hd)
  refine sj_set 2 G.nd (ej_call c_l_common (G.le (by decide)) (aj_cons (ej_dat 0) (aj_cons (ej_dat 1) aj_nil)) (R_common.mk n d B)) ?_
  refine sj_set 2 G.nd (ej_is (ej_ifI (tj_gt (ej_dat 1) ej_int) (fun _ => (ej_dat 2)) fun _ => (ej_neg (ej_dat 2))) (congrArg PyData.int (com_if (n := n) hd))) ?_
  exact sj_ret (ej_tupD (ad_cons (ej_fdivX (ej_int1 m_int (ej_dat 0)) (ej_dat 2) (cx _)) (ad_cons (ej_fdivX (ej_int1 m_int (ej_dat 1)) (ej_dat 2) (cx _)) ad_nil)) (Nat.le_of_ble_eq_true rfl)) ⟨by rw [red_num hd, red_den hd]; rfl, rfl⟩

abbrev s_l_multiplied : Stmt := topS 28
theorem sc_l_multiplied : FnScope ["_law_x", "_law_y"] ["_law_x", "_law_y"] (defScope s_l_multiplied) := ⟨rfl, rfl, rfl, by decide +kernel, rfl, by decide +kernel, by decide +kernel⟩

theorem c_of_l_multiplied (c_l_over : Cal P w K mg base "_law_over" 5 R_reduced) (T : At K mg "_law_multiplied" s_l_multiplied ["_law_x", "_law_y"]) : Cal P w K mg base "_law_multiplied" 6 (R_two (· * ·)) :=
  cal_at T sc_l_multiplied (by rintro _ _ _ _ ⟨⟩; rfl) fun f cd0 A out s H E G Γ B r B' hR => by
  obtain ⟨n, d, m, c, x, y, B, hx, hy, h1, h2, h3⟩ := hR
  have hne : (x.den : Int) * (y.den : Int) ≠ 0 := Int.mul_ne_zero (den_ne x) (den_ne y)
  exact sj_ret (ej_call c_l_over (G.le (by decide)) (aj_cons (ej_mul (ej_at (ej_dat 0)) (ej_at (ej_dat 1)) (cmz hx.nu hy.nu))
    (aj_cons (ej_mul (ej_at (ej_dat 0)) (ej_at (ej_dat 1)) (cmz hx.de hy.de)) aj_nil)) (R_reduced.mk _ _ _ hne ((hx.de.mul hy.de).le (by omega)))) ⟨by rw [mul_div], rfl⟩

abbrev s_l_is_below : Stmt := topS 29
theorem sc_l_is_below : FnScope ["_law_x", "_law_y"] ["_law_x", "_law_y"] (defScope s_l_is_below) := ⟨rfl, rfl, rfl, by decide +kernel, rfl, by decide +kernel, by decide +kernel⟩

theorem c_of_l_is_below (T : At K mg "_law_is_below" s_l_is_below ["_law_x", "_law_y"]) : Cal P w K mg base "_law_is_below" 4 R_below :=
  cal_at T sc_l_is_below (by rintro _ _ _ _ ⟨⟩; rfl) fun f cd0 A out s H E G Γ B r B' hR => by
  obtain ⟨n, d, m, c, x, y, B, hx, hy, h1, h2⟩ := hR
  refine sj_ret (ej_lt (ej_mul (ej_at (ej_dat 0)) (ej_at (ej_dat 1)) (cmz hx.nu hy.de)) (ej_mul (ej_at (ej_dat 1)) (ej_at (ej_dat 0)) (cmz hy.nu hx.de))) ⟨?_, rfl⟩
  congr 1
  by_cases h : x < y
  · rw [decide_eq_true h, decide_eq_true ((Rat.lt_iff x y).mp h)]
  · rw [decide_eq_false h, decide_eq_false fun z => h ((Rat.lt_iff x y).mpr z)]

abbrev s_l_sized : Stmt := topS 30
theorem sc_l_sized : FnScope ["_law_x"] ["_law_x"] (defScope s_l_sized) := ⟨rfl, rfl, rfl, by decide +kernel, rfl, by decide +kernel, by decide +kernel⟩

theorem c_of_l_sized (m_abs : mg "abs" = none) (T : At K mg "_law_sized" s_l_sized ["_law_x"]) : Cal P w K mg base "_law_sized" 4 (R_one fun x => fq (absQ x)) :=
  cal_at T sc_l_sized (by rintro _ _ _ _ ⟨⟩; rfl) fun f cd0 A out s H E G Γ B r B' hR => by
  obtain ⟨x, B⟩ := hR
  refine sj_ret (ej_tupD (ad_cons (ej_abs m_abs (ej_at (ej_dat 0))) (ad_cons (ej_at (ej_dat 0)) ad_nil)) (Nat.le_of_ble_eq_true rfl)) ⟨?_, rfl⟩
  unfold fq
  rw [(absQ_num x).1, (absQ_num x).2]

abbrev s_l_power : Stmt := topS 31
theorem sc_l_power : FnScope ["_law_base", "_law_e"] ["_law_base", "_law_e"] (defScope s_l_power) := ⟨rfl, rfl, rfl, by decide +kernel, rfl, by decide +kernel, by decide +kernel⟩

theorem c_of_l_power (c_l_to : Cal P w K mg base "_law_to" 4 R_pow) (T : At K mg "_law_power" s_l_power ["_law_base", "_law_e"]) : Cal P w K mg base "_law_power" 5 R_power_of :=
  cal_at T sc_l_power (by rintro _ _ _ _ ⟨⟩; rfl) fun f cd0 A out s H E G Γ B r B' hR => by
  obtain ⟨b, e, B, h0, hb, h1, h2⟩ := hR
  refine sj_ret (ej_if (d := .da (fq (pw b e))) (tj_ge (ej_dat 1) ej_int) (fun h => ?_) (fun h => ?_)) ⟨rfl, rfl⟩
  · have he : ¬ e < 0 := by have := of_decide_eq_true h; omega
    have hn : e = (e.toNat : Int) := by omega
    unfold pw
    rw [if_neg he, fq_nat]
    exact ej_tupD (ad_cons (ej_call c_l_to (G.le (by decide)) (aj_cons (ej_dat 0) (aj_cons (ej_is (ej_dat 1) (congrArg PyData.int hn)) aj_nil)) (R_pow.mk b e.toNat B hb (by omega))) (ad_cons ej_int ad_nil)) (Nat.le_of_ble_eq_true rfl)
  · have he : e < 0 := by have := of_decide_eq_false h; omega
    have hn : -e = ((-e).toNat : Int) := by omega
    unfold pw
    rw [if_pos he, fq_inv (Nat.pow_pos h0)]
    exact ej_tupD (ad_cons ej_int (ad_cons (ej_call c_l_to (G.le (by decide)) (aj_cons (ej_dat 0) (aj_cons (ej_is (ej_neg (ej_dat 1)) (congrArg PyData.int hn)) aj_nil)) (R_pow.mk b (-e).toNat B hb (by omega))) ad_nil)) (Nat.le_of_ble_eq_true rfl)

abbrev s_l_worth : Stmt := topS 32
theorem sc_l_worth : FnScope ["_law_form", "_law_number_here", "_law_size"] ["_law_form", "_law_number_here"] (defScope s_l_worth) := ⟨rfl, rfl, rfl, by decide +kernel, rfl, by decide +kernel, by decide +kernel⟩

theorem c_of_l_worth (c_l_multiplied : Cal P w K mg base "_law_multiplied" 6 (R_two (· * ·))) (c_l_power : Cal P w K mg base "_law_power" 5 R_power_of) (T : At K mg "_law_worth" s_l_worth ["_law_form", "_law_number_here"]) : Cal P w K mg base "_law_worth" 7 R_worth :=
  cal_at T sc_l_worth (by rintro _ _ _ _ ⟨⟩; rfl) fun f cd0 A out s H E G Γ B r B' hR => by
  obtain ⟨b, p, low, high, s, c, e, B, F, hv⟩ := hR
  obtain ⟨h1, h3, h4, h5, h6⟩ := hv
  have b2 := F.b2; have bp := F.bp; have lo := F.lo; have hi := F.hi
  have hc : Qz 700 1 (c : Rat) := ⟨by rw [Rat.num_intCast]; unfold Bd; omega, by rw [Rat.den_intCast]; unfold Bd; decide⟩
  refine sj_set 2 G.nd (ej_call c_l_multiplied (G.le (by decide)) (aj_cons (ej_is (y := fq (c : Rat)) (ej_tupD (ad_cons (ej_at (ej_dat (d := .tuple [.str "num", .int s, .int c, .int e]) 1)) (ad_cons ej_int ad_nil)) (Nat.le_of_ble_eq_true rfl)) (fq_int c).symm)
    (aj_cons (ej_call c_l_power (G.le (by decide)) (aj_cons (ej_at (ej_dat (d := .tuple [.int b, .int p, .int low, .int high]) 0)) (aj_cons (ej_at (ej_dat (d := .tuple [.str "num", .int s, .int c, .int e]) 1)) aj_nil)) (R_power_of.mk b e B (by omega) F.b6 (by omega) (by omega))) aj_nil))
    (R_two.mk _ _ _ _ _ _ B hc (F.qz h5 h6) (by decide) (by decide) (by decide))) ?_
  generalize hq : (c : Rat) * pw b e = q
  refine sj_ret (ej_if (d := .da (fq (Va.wQ b (.num s c e)))) (tj_eqI G.hu (ej_at (ej_dat (d := .tuple [.str "num", .int s, .int c, .int e]) 1)) ej_int) (fun h => ?_) (fun h => ?_)) ⟨rfl, rfl⟩
  · have e1 : Va.wQ b (.num s c e) = -q := by
      show ((if s = 1 then -c else c : Int) : Rat) * pw b e = -q
      rw [if_pos (of_decide_eq_true h), Rat.intCast_neg, ← hq]; grind
    have e2 : fq (-q) = .tuple [.int (-q.num), .int (q.den : Int)] := by unfold fq; rw [Rat.neg_num, Rat.neg_den]
    rw [e1, e2]
    exact ej_tupD (ad_cons (ej_neg (ej_at (ej_dat (d := .tuple [.int q.num, .int (q.den : Int)]) 2))) (ad_cons (ej_at (ej_dat (d := .tuple [.int q.num, .int (q.den : Int)]) 2)) ad_nil)) (Nat.le_of_ble_eq_true rfl)
  · have e1 : Va.wQ b (.num s c e) = q := by
      show ((if s = 1 then -c else c : Int) : Rat) * pw b e = q
      rw [if_neg (of_decide_eq_false h), ← hq]
    rw [e1]; exact ej_dat 2

abbrev s_l_formats : Stmt := topS 33
theorem sc_l_formats : FnScope ["_law_bag_here", "_law_small"] ["_law_bag_here"] (defScope s_l_formats) := ⟨rfl, rfl, rfl, by decide +kernel, rfl, by decide +kernel, by decide +kernel⟩

theorem c_of_l_formats (c_l_some : Cal P w K mg base "_law_some" 5 R_some) (T : At K mg "_law_formats" s_l_formats ["_law_bag_here"]) : Cal P w K mg base "_law_formats" 6 (R_fmt smallV smallB) :=
  cal_at T sc_l_formats (by rintro _ _ _ _ ⟨⟩; rfl) fun f cd0 A out s H E G Γ B r B' hR => by
  obtain ⟨B, hc⟩ := hR
  refine sj_set 1 G.nd (ej_is (y := .list (([(2, 2, 0, 0), (2, 2, -3, 2), (2, 3, -4, 3), (4, 2, -2, 1), (10, 2, -2, 1), (6, 2, -1, 2), (2, 4, -2, 2)] : List F4).map F4.d)) (ej_lstD (ad_cons (ej_tupD (ad_cons ej_int (ad_cons ej_int (ad_cons ej_int (ad_cons ej_int ad_nil)))) (Nat.le_of_ble_eq_true rfl)) (ad_cons (ej_tupD (ad_cons ej_int (ad_cons ej_int (ad_cons (ej_neg ej_int) (ad_cons ej_int ad_nil)))) (Nat.le_of_ble_eq_true rfl)) (ad_cons (ej_tupD (ad_cons ej_int (ad_cons ej_int (ad_cons (ej_neg ej_int) (ad_cons ej_int ad_nil)))) (Nat.le_of_ble_eq_true rfl)) (ad_cons (ej_tupD (ad_cons ej_int (ad_cons ej_int (ad_cons (ej_neg ej_int) (ad_cons ej_int ad_nil)))) (Nat.le_of_ble_eq_true rfl)) (ad_cons (ej_tupD (ad_cons ej_int (ad_cons ej_int (ad_cons (ej_neg ej_int) (ad_cons ej_int ad_nil)))) (Nat.le_of_ble_eq_true rfl)) (ad_cons (ej_tupD (ad_cons ej_int (ad_cons ej_int (ad_cons (ej_neg ej_int) (ad_cons ej_int ad_nil)))) (Nat.le_of_ble_eq_true rfl)) (ad_cons (ej_tupD (ad_cons ej_int (ad_cons ej_int (ad_cons (ej_neg ej_int) (ad_cons ej_int ad_nil)))) (Nat.le_of_ble_eq_true rfl)) ad_nil))))))) (Nat.le_of_ble_eq_true rfl)) rfl) ?_
  have r := R_some.mk B (smallF.map F4.d) (by decide) (by decide) hc
  rw [pick_fm smallF B (by decide)] at r
  exact sj_ret (ej_call c_l_some (G.le (by decide)) (aj_cons (ej_bag 0) (aj_cons (ej_is (y := .list (smallF.map F4.d)) (ej_catL (ej_dat 1) (ej_lstD (ad_cons (ej_tupD (ad_cons ej_int (ad_cons ej_int (ad_cons ej_int (ad_cons ej_int ad_nil)))) (Nat.le_of_ble_eq_true rfl)) (ad_cons (ej_tupD (ad_cons ej_int (ad_cons ej_int (ad_cons ej_int (ad_cons ej_int ad_nil)))) (Nat.le_of_ble_eq_true rfl)) (ad_cons (ej_tupD (ad_cons ej_int (ad_cons ej_int (ad_cons (ej_neg ej_int) (ad_cons (ej_neg ej_int) ad_nil)))) (Nat.le_of_ble_eq_true rfl)) ad_nil))) (Nat.le_of_ble_eq_true rfl)) (Nat.le_of_ble_eq_true rfl)) rfl) aj_nil)) r) ⟨rfl, rfl⟩

abbrev s_l_wide_format : Stmt := topS 34
theorem sc_l_wide_format : FnScope ["_law_bag_here", "_law_some_here", "_law_far"] ["_law_bag_here"] (defScope s_l_wide_format) := ⟨rfl, rfl, rfl, by decide +kernel, rfl, by decide +kernel, by decide +kernel⟩

theorem c_of_l_wide_format (c_l_some : Cal P w K mg base "_law_some" 5 R_some) (c_l_take : Cal P w K mg base "_law_take" 4 R_take) (T : At K mg "_law_wide_format" s_l_wide_format ["_law_bag_here"]) : Cal P w K mg base "_law_wide_format" 6 (R_fmt wideV wideB) :=
  cal_at T sc_l_wide_format (by rintro _ _ _ _ ⟨⟩; rfl) fun f cd0 A out s H E G Γ B r B' hR => by
  obtain ⟨B, hc⟩ := hR
  refine sj_set 1 G.nd (ej_is (y := .list (([(2, 24, -149, 104), (2, 11, -24, 5), (10, 7, -101, 90), (36, 3, -5, 4), (16, 6, -70, 57), (10, 34, -60, 40)] : List F4).map F4.d)) (ej_lstD (ad_cons (ej_tupD (ad_cons ej_int (ad_cons ej_int (ad_cons (ej_neg ej_int) (ad_cons ej_int ad_nil)))) (Nat.le_of_ble_eq_true rfl)) (ad_cons (ej_tupD (ad_cons ej_int (ad_cons ej_int (ad_cons (ej_neg ej_int) (ad_cons ej_int ad_nil)))) (Nat.le_of_ble_eq_true rfl)) (ad_cons (ej_tupD (ad_cons ej_int (ad_cons ej_int (ad_cons (ej_neg ej_int) (ad_cons ej_int ad_nil)))) (Nat.le_of_ble_eq_true rfl)) (ad_cons (ej_tupD (ad_cons ej_int (ad_cons ej_int (ad_cons (ej_neg ej_int) (ad_cons ej_int ad_nil)))) (Nat.le_of_ble_eq_true rfl)) (ad_cons (ej_tupD (ad_cons ej_int (ad_cons ej_int (ad_cons (ej_neg ej_int) (ad_cons ej_int ad_nil)))) (Nat.le_of_ble_eq_true rfl)) (ad_cons (ej_tupD (ad_cons ej_int (ad_cons ej_int (ad_cons (ej_neg ej_int) (ad_cons ej_int ad_nil)))) (Nat.le_of_ble_eq_true rfl)) ad_nil)))))) (Nat.le_of_ble_eq_true rfl)) rfl) ?_
  refine sj_set 1 G.nd (ej_is (y := .list ((([(2, 24, -149, 104), (2, 11, -24, 5), (10, 7, -101, 90), (36, 3, -5, 4), (16, 6, -70, 57), (10, 34, -60, 40)] : List F4) ++ ([(2, 8, -133, 120), (20, 2, 0, 3), (10, 16, -98, 69), (2, 53, -120, 60), (10, 20, 5, 60)] : List F4)).map F4.d)) (ej_catL (ej_dat 1) (ej_lstD (ad_cons (ej_tupD (ad_cons ej_int (ad_cons ej_int (ad_cons (ej_neg ej_int) (ad_cons ej_int ad_nil)))) (Nat.le_of_ble_eq_true rfl)) (ad_cons (ej_tupD (ad_cons ej_int (ad_cons ej_int (ad_cons ej_int (ad_cons ej_int ad_nil)))) (Nat.le_of_ble_eq_true rfl)) (ad_cons (ej_tupD (ad_cons ej_int (ad_cons ej_int (ad_cons (ej_neg ej_int) (ad_cons ej_int ad_nil)))) (Nat.le_of_ble_eq_true rfl)) (ad_cons (ej_tupD (ad_cons ej_int (ad_cons ej_int (ad_cons (ej_neg ej_int) (ad_cons ej_int ad_nil)))) (Nat.le_of_ble_eq_true rfl)) (ad_cons (ej_tupD (ad_cons ej_int (ad_cons ej_int (ad_cons ej_int (ad_cons ej_int ad_nil)))) (Nat.le_of_ble_eq_true rfl)) ad_nil))))) (Nat.le_of_ble_eq_true rfl)) (Nat.le_of_ble_eq_true rfl)) rfl) ?_
  refine sj_set 1 G.nd (ej_is (y := .list (worldF.map F4.d)) (ej_catL (ej_dat 1) (ej_lstD (ad_cons (ej_tupD (ad_cons ej_int (ad_cons ej_int (ad_cons (ej_neg ej_int) (ad_cons (ej_neg ej_int) ad_nil)))) (Nat.le_of_ble_eq_true rfl)) (ad_cons (ej_tupD (ad_cons ej_int (ad_cons ej_int (ad_cons (ej_neg ej_int) (ad_cons ej_int ad_nil)))) (Nat.le_of_ble_eq_true rfl)) (ad_cons (ej_tupD (ad_cons ej_int (ad_cons ej_int (ad_cons ej_int (ad_cons ej_int ad_nil)))) (Nat.le_of_ble_eq_true rfl)) ad_nil))) (Nat.le_of_ble_eq_true rfl)) (Nat.le_of_ble_eq_true rfl)) rfl) ?_
  refine sj_set 2 G.nd (ej_is (y := .list (([(2, 53, -1074, 971), (10, 16, -398, 369), (36, 120, -200, 200), (2, 120, -1200, 1080), (10, 100, -700, 700)] : List F4).map F4.d)) (ej_lstD (ad_cons (ej_tupD (ad_cons ej_int (ad_cons ej_int (ad_cons (ej_neg ej_int) (ad_cons ej_int ad_nil)))) (Nat.le_of_ble_eq_true rfl)) (ad_cons (ej_tupD (ad_cons ej_int (ad_cons ej_int (ad_cons (ej_neg ej_int) (ad_cons ej_int ad_nil)))) (Nat.le_of_ble_eq_true rfl)) (ad_cons (ej_tupD (ad_cons ej_int (ad_cons ej_int (ad_cons (ej_neg ej_int) (ad_cons ej_int ad_nil)))) (Nat.le_of_ble_eq_true rfl)) (ad_cons (ej_tupD (ad_cons ej_int (ad_cons ej_int (ad_cons (ej_neg ej_int) (ad_cons ej_int ad_nil)))) (Nat.le_of_ble_eq_true rfl)) (ad_cons (ej_tupD (ad_cons ej_int (ad_cons ej_int (ad_cons (ej_neg ej_int) (ad_cons ej_int ad_nil)))) (Nat.le_of_ble_eq_true rfl)) ad_nil))))) (Nat.le_of_ble_eq_true rfl)) rfl) ?_
  refine sj_set 2 G.nd (ej_is (y := .list (farF.map F4.d)) (ej_catL (ej_dat 2) (ej_lstD (ad_cons (ej_tupD (ad_cons ej_int (ad_cons ej_int (ad_cons (ej_neg ej_int) (ad_cons ej_int ad_nil)))) (Nat.le_of_ble_eq_true rfl)) (ad_cons (ej_tupD (ad_cons ej_int (ad_cons ej_int (ad_cons (ej_neg ej_int) (ad_cons ej_int ad_nil)))) (Nat.le_of_ble_eq_true rfl)) (ad_cons (ej_tupD (ad_cons ej_int (ad_cons ej_int (ad_cons (ej_neg ej_int) (ad_cons ej_int ad_nil)))) (Nat.le_of_ble_eq_true rfl)) ad_nil))) (Nat.le_of_ble_eq_true rfl)) (Nat.le_of_ble_eq_true rfl)) rfl) ?_
  unfold wideV wideB
  have hc4 := tkB_ok hc 4
  by_cases h : 0 < tkV B 4
  · rw [if_pos h, if_pos h]
    have r := R_some.mk (tkB B 4) (worldF.map F4.d) (by decide) (by decide) hc4
    rw [pick_fm worldF (tkB B 4) (by decide)] at r
    exact sj_ret (ej_call c_l_some (G.le (by decide)) (aj_cons (ej_bag 0) (aj_cons (ej_if (x := true) (d := .da (.list (worldF.map F4.d))) (tj_is (tj_gt (ej_call c_l_take (G.le (by decide)) (aj_cons (ej_bag 0) (aj_cons ej_int aj_nil)) (R_take.mk B 4 (by decide) (by unfold Bd; decide +kernel) hc)) ej_int) (decide_eq_true h)) (fun _ => ej_dat 1) (fun h => Bool.noConfusion h)) aj_nil)) r) ⟨rfl, rfl⟩
  · rw [if_neg h, if_neg h]
    have r := R_some.mk (tkB B 4) (farF.map F4.d) (by decide) (by decide) hc4
    rw [pick_fm farF (tkB B 4) (by decide)] at r
    exact sj_ret (ej_call c_l_some (G.le (by decide)) (aj_cons (ej_bag 0) (aj_cons (ej_if (x := false) (d := .da (.list (farF.map F4.d))) (tj_is (tj_gt (ej_call c_l_take (G.le (by decide)) (aj_cons (ej_bag 0) (aj_cons ej_int aj_nil)) (R_take.mk B 4 (by decide) (by unfold Bd; decide +kernel) hc)) ej_int) (decide_eq_false h)) (fun h => Bool.noConfusion h) (fun _ => ej_dat 2)) aj_nil)) r) ⟨rfl, rfl⟩

abbrev s_l_any_format : Stmt := topS 35
theorem sc_l_any_format : FnScope ["_law_bag_here"] ["_law_bag_here"] (defScope s_l_any_format) := ⟨rfl, rfl, rfl, by decide +kernel, rfl, by decide +kernel, by decide +kernel⟩

theorem c_of_l_any_format (c_l_take : Cal P w K mg base "_law_take" 4 R_take) (c_l_formats : Cal P w K mg base "_law_formats" 6 (R_fmt smallV smallB)) (c_l_wide_format : Cal P w K mg base "_law_wide_format" 6 (R_fmt wideV wideB))
    (T : At K mg "_law_any_format" s_l_any_format ["_law_bag_here"]) : Cal P w K mg base "_law_any_format" 7 (R_fmt afV afB) :=
  cal_at T sc_l_any_format (by rintro _ _ _ _ ⟨⟩; rfl) fun f cd0 A out s H E G Γ B r B' hR => by
  obtain ⟨B, hc⟩ := hR
  have hc3 := tkB_ok hc 3
  unfold afV afB
  by_cases h : 0 < tkV B 3
  · rw [if_pos h, if_pos h]
    exact sj_ret (ej_if (x := true) (tj_is (tj_gt (ej_call c_l_take (G.le (by decide)) (aj_cons (ej_bag 0) (aj_cons ej_int aj_nil)) (R_take.mk B 3 (by decide) (by unfold Bd; decide +kernel) hc)) ej_int) (decide_eq_true h)) (fun _ => ej_call c_l_formats (G.le (by decide)) (aj_cons (ej_bag 0) aj_nil) (R_fmt.mk _ hc3)) (fun h => Bool.noConfusion h)) ⟨rfl, rfl⟩
  · rw [if_neg h, if_neg h]
    exact sj_ret (ej_if (x := false) (tj_is (tj_gt (ej_call c_l_take (G.le (by decide)) (aj_cons (ej_bag 0) (aj_cons ej_int aj_nil)) (R_take.mk B 3 (by decide) (by unfold Bd; decide +kernel) hc)) ej_int) (decide_eq_false h)) (fun h => Bool.noConfusion h) (fun _ => ej_call c_l_wide_format (G.le (by decide)) (aj_cons (ej_bag 0) aj_nil) (R_fmt.mk _ hc3))) ⟨rfl, rfl⟩

abbrev s_l_edges : Stmt := topS 36
theorem sc_l_edges : FnScope ["_law_form", "_law_base", "_law_digits", "_law_low", "_law_high", "_law_lead", "_law_most", "_law_found"] ["_law_form"] (defScope s_l_edges) := ⟨rfl, rfl, rfl, by decide +kernel, rfl, by decide +kernel, by decide +kernel⟩

theorem c_of_l_edges (c_l_to : Cal P w K mg base "_law_to" 4 R_pow) (T : At K mg "_law_edges" s_l_edges ["_law_form"]) : Cal P w K mg base "_law_edges" 5 R_edges :=
  cal_at T sc_l_edges (by rintro _ _ _ _ ⟨⟩; rfl) fun f cd0 A out s H E G Γ B r B' hR => by
  obtain ⟨b, p, low, high, B, F⟩ := hR
  have p2 := F.p2; have p7 := F.p7
  have e1 : (p : Int) - 1 = ((p - 1 : Nat) : Int) := by omega
  refine sj_unpack [1, 2, 3, 4] G.calm (ej_dat (d := .tuple [.int b, .int p, .int low, .int high]) 0) (pgs_cons (pg_name (i := 1) G.nd rfl (Or.inl rfl)) (pgs_cons (pg_name (i := 2) G.nd rfl (Or.inl rfl)) (pgs_cons (pg_name (i := 3) G.nd rfl (Or.inl rfl)) (pgs_cons (pg_name (i := 4) G.nd rfl (Or.inl rfl)) pgs_nil)))) rfl ?_
  refine sj_par 5 6 G.nd G.calm (aj_cons (ej_call c_l_to (G.le (by decide)) (aj_cons (ej_dat 1) (aj_cons (ej_is (ej_sub (ej_dat 2) ej_int) (congrArg PyData.int e1)) aj_nil)) (R_pow.mk b (p - 1) B F.b6 (by omega))) (aj_cons (ej_sub (ej_call c_l_to (G.le (by decide)) (aj_cons (ej_dat 1) (aj_cons (ej_dat 2) aj_nil)) (R_pow.mk b p B F.b6 (by omega))) ej_int) aj_nil)) ?_ (by decide) (by rfl)
  refine sj_set 7 G.nd (ej_lstD (ad_cons (ej_tupD (ad_cons ej_str (ad_cons ej_int (ad_cons ej_int (ad_cons (ej_dat 3) ad_nil)))) (Nat.le_of_ble_eq_true rfl)) (ad_cons (ej_tupD (ad_cons ej_str (ad_cons ej_int (ad_cons ej_int (ad_cons (ej_dat 3) ad_nil)))) (Nat.le_of_ble_eq_true rfl)) (ad_cons (ej_tupD (ad_cons ej_str (ad_cons ej_int (ad_cons (ej_sub (ej_dat 5) ej_int) (ad_cons (ej_dat 3) ad_nil)))) (Nat.le_of_ble_eq_true rfl)) (ad_cons (ej_tupD (ad_cons ej_str (ad_cons ej_int (ad_cons (ej_dat 5) (ad_cons (ej_dat 3) ad_nil)))) (Nat.le_of_ble_eq_true rfl)) ad_nil)))) (Nat.le_of_ble_eq_true rfl)) ?_
  refine sj_set 7 G.nd (ej_catL (ej_dat 7) (ej_lstD (ad_cons (ej_tupD (ad_cons ej_str (ad_cons ej_int (ad_cons (ej_add (ej_dat 5) ej_int) (ad_cons (ej_dat 3) ad_nil)))) (Nat.le_of_ble_eq_true rfl)) (ad_cons (ej_tupD (ad_cons ej_str (ad_cons ej_int (ad_cons (ej_dat 6) (ad_cons (ej_dat 3) ad_nil)))) (Nat.le_of_ble_eq_true rfl)) (ad_cons (ej_tupD (ad_cons ej_str (ad_cons ej_int (ad_cons (ej_dat 5) (ad_cons (ej_dat 4) ad_nil)))) (Nat.le_of_ble_eq_true rfl)) (ad_cons (ej_tupD (ad_cons ej_str (ad_cons ej_int (ad_cons (ej_dat 6) (ad_cons (ej_dat 4) ad_nil)))) (Nat.le_of_ble_eq_true rfl)) ad_nil)))) (Nat.le_of_ble_eq_true rfl)) (Nat.le_of_ble_eq_true rfl)) ?_
  exact sj_ret (ej_catL (ej_dat 7) (ej_lstD (ad_cons (ej_tupD (ad_cons ej_str (ad_cons ej_int (ad_cons (ej_sub (ej_dat 6) ej_int) (ad_cons (ej_dat 4) ad_nil)))) (Nat.le_of_ble_eq_true rfl)) (ad_cons (ej_tupD (ad_cons ej_str (ad_cons ej_int (ad_cons (ej_add (ej_dat 5) (ej_fdiv (ej_dat 5) ej_int (cdv (show Bd 2 2 from by unfold Bd; decide) (by decide)))) (ad_cons (ej_dat 4) ad_nil)))) (Nat.le_of_ble_eq_true rfl)) ad_nil)) (Nat.le_of_ble_eq_true rfl)) (Nat.le_of_ble_eq_true rfl)) ⟨rfl, rfl⟩

abbrev s_l_number : Stmt := topS 37
theorem sc_l_number : FnScope ["_law_bag_here", "_law_form", "_law_base", "_law_digits", "_law_low", "_law_high", "_law_way", "_law_s", "_law_number_here", "_law_e", "_law_lead", "_law_c"] ["_law_bag_here", "_law_form"] (defScope s_l_number) := ⟨rfl, rfl, rfl, by decide +kernel, rfl, by decide +kernel, by decide +kernel⟩

theorem c_of_l_number (m_min : mg "min" = none) (m_max : mg "max" = none) (c_l_take : Cal P w K mg base "_law_take" 4 R_take) (c_l_some : Cal P w K mg base "_law_some" 5 R_some) (c_l_edges : Cal P w K mg base "_law_edges" 5 R_edges) (c_l_to : Cal P w K mg base "_law_to" 4 R_pow)
    (T : At K mg "_law_number" s_l_number ["_law_bag_here", "_law_form"]) : Cal P w K mg base "_law_number" 6 (R_draw numV numB) :=
  cal_at T sc_l_number (by rintro _ _ _ _ ⟨⟩; rfl) fun f cd0 A out s H E G Γ B r B' hR => by
  obtain ⟨b, p, low, high, B, F, hc⟩ := hR
  have p2 := F.p2; have p7 := F.p7; have lh := F.lh; have lo := F.lo; have hi := F.hi; have bp := F.bp
  have e1 : (p : Int) - 1 = ((p - 1 : Nat) : Int) := by omega
  obtain ⟨l2, ge, ee⟩ := lf F
  have hfl : Bd 8000 (full b p - lead b p) := by
    have : full b p = ((b ^ p : Nat) : Int) := rfl
    exact Bd.le (n := 700) (by unfold Bd; omega) (by decide)
  have hld : Bd 8000 (lead b p) := by
    have : full b p = ((b ^ p : Nat) : Int) := rfl
    exact Bd.le (n := 700) (by unfold Bd; omega) (by decide)
  have hhl : Bd 8000 (high - low + 1) := Bd.le (n := 12) (by unfold Bd; omega) (by decide)
  have mkT : ∀ (B : Bag) (m : Int), 0 < m → Bd 8000 m → Bok B → R_take [.bag, .da (.int m)] B (.int (tkV B m)) (tkB B m) := fun B m h1 h2 h3 => R_take.mk B m h1 h2 h3
  have t6 := mkT B 6 (by decide) (by unfold Bd; decide +kernel) hc
  have hc6 := tkB_ok hc 6
  have t2 := mkT (tkB B 6) 2 (by decide) (by unfold Bd; decide +kernel) hc6
  have hc2 : Bok (numB2 B) := numB2_ok hc
  refine sj_unpack [2, 3, 4, 5] G.calm (ej_dat (d := .tuple [.int b, .int p, .int low, .int high]) 1) (pgs_cons (pg_name (i := 2) G.nd rfl (Or.inl rfl)) (pgs_cons (pg_name (i := 3) G.nd rfl (Or.inl rfl)) (pgs_cons (pg_name (i := 4) G.nd rfl (Or.inl rfl)) (pgs_cons (pg_name (i := 5) G.nd rfl (Or.inl rfl)) pgs_nil)))) rfl ?_
  refine sj_par 6 7 G.nd G.calm (aj_cons (ej_call c_l_take (G.le (by decide)) (aj_cons (ej_bag 0) (aj_cons ej_int aj_nil)) t6) (aj_cons (ej_call c_l_take (G.le (by decide)) (aj_cons (ej_bag 0) (aj_cons ej_int aj_nil)) t2) aj_nil)) ?_ (by decide) (by rfl)
  unfold numV numB
  show SJ _ _ (numB2 B) _ _
  refine sj_ifM (fun Γ' B2 => ∃ c e : Int, Γ'.length = 12 ∧ Γ'[7]? = some (.da (.int (tkV (tkB B 6) 2))) ∧ Γ'[8]? = some (.da (Va.d (.num 0 c e))) ∧
      (if tkV B 6 < 2 then Va.num (tkV (tkB B 6) 2) (pickV (edgesV b p low high) (numB2 B)).c (pickV (edgesV b p low high) (numB2 B)).e
        else Va.num (tkV (tkB B 6) 2) (numC2 b p low (tkV B 6) (numE p low high (numB2 B)) (numC b p (tkV B 6) (numEB low high (numB2 B))) (numCB b p (tkV B 6) (numEB low high (numB2 B)))) (numE p low high (numB2 B))) = Va.num (tkV (tkB B 6) 2) c e ∧
      B2 = (if tkV B 6 < 2 then tkB (numB2 B) 10 else numC2B b p low (tkV B 6) (numE p low high (numB2 B)) (numCB b p (tkV B 6) (numEB low high (numB2 B)))))
    (tj_lt (ej_dat 6) ej_int) (fun h => ?_) (fun h => ?_) ?_
  · have h' : tkV B 6 < 2 := of_decide_eq_true h
    rw [if_pos h', if_pos h']
    have r := R_some.mk (numB2 B) ((edgesV b p low high).map Va.d) (Nat.le_of_ble_eq_true rfl) (Nat.le_of_ble_eq_true rfl) hc2
    rw [pick_va (edgesV b p low high) (numB2 B) (Nat.le_of_ble_eq_true rfl)] at r
    obtain ⟨c, e, h1, h3⟩ := edges_ok F _ (pickV_mem (edgesV b p low high) (numB2 B) (Nat.le_of_ble_eq_true rfl))
    rw [h1] at r ⊢
    exact sj_set 8 G.nd (ej_call c_l_some (G.le (by decide)) (aj_cons (ej_bag 0) (aj_cons (ej_call c_l_edges (G.le (by decide)) (aj_cons (ej_dat 1) aj_nil) (R_edges.mk b p low high _ F)) aj_nil)) r) (sj_nil ⟨c, e, rfl, rfl, rfl, rfl, rfl⟩)
  · have h' : ¬ tkV B 6 < 2 := of_decide_eq_false h
    rw [if_neg h', if_neg h']
    generalize tkV B 6 = wy at *
    generalize numB2 B = B2 at *
    have th := mkT B2 (high - low + 1) (by omega) hhl hc2
    have hch := tkB_ok hc2 (high - low + 1)
    refine sj_set 9 G.nd (some_int [low, high, low + tkV B2 (high - low + 1), min high (max low (-((p : Int) / 2)))] G (by decide) c_l_some (aj_cons (ej_bag 0) (aj_cons (ej_lstD (ad_cons (ej_dat 4) (ad_cons (ej_dat 5) (ad_cons (ej_add (ej_dat 4) (ej_call c_l_take (G.le (by decide)) (aj_cons (ej_bag 0) (aj_cons (ej_add (ej_sub (ej_dat 5) (ej_dat 4)) ej_int) aj_nil)) th))
      (ad_cons (ej_min G.calm m_min (ej_dat 5) (ej_max G.calm m_max (ej_dat 4) (ej_neg (ej_fdiv (ej_dat 3) ej_int (cdv (show Bd 2 2 from by unfold Bd; decide) (by decide)))))) ad_nil)))) (Nat.le_of_ble_eq_true rfl)) aj_nil)) (Nat.le_of_ble_eq_true rfl) (Nat.le_of_ble_eq_true rfl) hch) ?_
    show SJ _ _ (numEB low high B2) _ _
    have hce : Bok (numEB low high B2) := numEB_ok hc2
    refine sj_set 10 G.nd (ej_call c_l_to (G.le (by decide)) (aj_cons (ej_dat 2) (aj_cons (ej_is (ej_sub (ej_dat 3) ej_int) (congrArg PyData.int e1)) aj_nil)) (R_pow.mk b (p - 1) _ F.b6 (by omega))) ?_
    show SJ _ ((((([.bag, .da (fmP b p low high), .da (.int b), .da (.int p), .da (.int low), .da (.int high), .da (.int wy), .da (.int (tkV (tkB B 6) 2)), .no, .da (.int (numE p low high B2)), .da (.int (lead b p)), .no] : List VD)))) ) _ _ _
    generalize numE p low high B2 = ev at *
    generalize numEB low high B2 = B3 at *
    have tf := mkT B3 (full b p - lead b p) (by omega) hfl hce
    have hcf := tkB_ok hce (full b p - lead b p)
    refine sj_set 11 G.nd (ej_add (ej_dat 10) (ej_call c_l_take (G.le (by decide)) (aj_cons (ej_bag 0) (aj_cons (ej_is (y := .int (full b p - lead b p)) (ej_sub (ej_call c_l_to (G.le (by decide)) (aj_cons (ej_dat 2) (aj_cons (ej_dat 3) aj_nil)) (R_pow.mk b p _ F.b6 (by omega))) (ej_dat 10)) rfl) aj_nil)) tf)) ?_
    refine sj_ifM (fun Γ' B4 => Γ' = [.bag, .da (fmP b p low high), .da (.int b), .da (.int p), .da (.int low), .da (.int high), .da (.int wy), .da (.int (tkV (tkB B 6) 2)), .no, .da (.int ev), .da (.int (lead b p)), .da (.int (numC b p wy B3))] ∧ B4 = numCB b p wy B3)
      (tj_eqI G.hu (ej_dat 6) ej_int) (fun h => ?_) (fun h => ?_) ?_
    · have h2 : wy = 2 := of_decide_eq_true h
      refine sj_set 11 G.nd (some_int [lead b p, lead b p * (b - 1), lead b p + 1, full b p - 1] G (by decide) c_l_some (aj_cons (ej_bag 0) (aj_cons (ej_lstD (ad_cons (ej_dat 10) (ad_cons (ej_mul (ej_dat 10) (ej_sub (ej_dat 2) ej_int) (cmz hld (show Bd 8000 ((b : Int) - 1) from Bd.le (n := 7) (by have := F.b6; unfold Bd; omega) (by decide))))
        (ad_cons (ej_add (ej_dat 10) ej_int) (ad_cons (ej_is (y := .int (full b p - 1)) (ej_sub (ej_call c_l_to (G.le (by decide)) (aj_cons (ej_dat 2) (aj_cons (ej_dat 3) aj_nil)) (R_pow.mk b p _ F.b6 (by omega))) ej_int) rfl) ad_nil)))) (Nat.le_of_ble_eq_true rfl)) aj_nil)) (Nat.le_of_ble_eq_true rfl) (Nat.le_of_ble_eq_true rfl) hcf) (sj_nil ?_)
      unfold numC numCB; rw [if_pos h2, if_pos h2]; exact ⟨rfl, rfl⟩
    · have h2 : ¬ wy = 2 := of_decide_eq_false h
      refine sj_nil ?_
      unfold numC numCB; rw [if_neg h2, if_neg h2]; exact ⟨rfl, rfl⟩
    · rintro Γ4 B4 ⟨rfl, rfl⟩
      have hc4 : Bok (numCB b p wy B3) := numCB_ok hce
      generalize numC b p wy B3 = cv at *
      generalize numCB b p wy B3 = B4 at *
      refine sj_ifM (fun Γ' B5 => Γ' = [.bag, .da (fmP b p low high), .da (.int b), .da (.int p), .da (.int low), .da (.int high), .da (.int wy), .da (.int (tkV (tkB B 6) 2)), .no, .da (.int ev), .da (.int (lead b p)), .da (.int (numC2 b p low wy ev cv B4))] ∧ B5 = numC2B b p low wy ev B4)
        (tj_w (wj_and (tj_eqI G.hu (ej_dat 9) (ej_dat 4)) fun _ => wj_and1 (tj_eqI G.hu (ej_dat 6) ej_int))) (fun h => ?_) (fun h => ?_) ?_
      · have h2 : ev = low ∧ wy = 3 := by simpa using h
        refine sj_set 11 G.nd (ej_call c_l_take (G.le (by decide)) (aj_cons (ej_bag 0) (aj_cons (ej_dat 10) aj_nil)) (mkT B4 (lead b p) (by omega) hld hc4)) (sj_nil ?_)
        unfold numC2 numC2B; rw [if_pos h2, if_pos h2]; exact ⟨rfl, rfl⟩
      · have h2 : ¬ (ev = low ∧ wy = 3) := by simpa using h
        refine sj_nil ?_
        unfold numC2 numC2B; rw [if_neg h2, if_neg h2]; exact ⟨rfl, rfl⟩
      · rintro Γ5 B5 ⟨rfl, rfl⟩
        exact sj_set 8 G.nd (ej_tupD (ad_cons ej_str (ad_cons ej_int (ad_cons (ej_dat 11) (ad_cons (ej_dat 9) ad_nil)))) (Nat.le_of_ble_eq_true rfl)) (sj_nil ⟨_, _, rfl, rfl, rfl, rfl, rfl⟩)
  · rintro Γ2 B2 ⟨c, e, hlen, g7, g8, hv, rfl⟩
    rw [hv]
    refine sj_ret (ej_catT (ej_tupD (ad_cons ej_str (ad_cons (ej_dat 7 g7) ad_nil)) (Nat.le_of_ble_eq_true rfl)) (ej_is (ej_sliceT (ej_dat (d := .tuple (Va.l (.num 0 c e))) 8 g8) (oj_some ej_int) oj_none) (congrArg PyData.tuple (cut2 (Va.l (.num 0 c e)) 2))) (Nat.le_of_ble_eq_true rfl)) ⟨rfl, rfl⟩

abbrev s_l_value : Stmt := topS 38
theorem sc_l_value : FnScope ["_law_bag_here", "_law_form", "_law_way"] ["_law_bag_here", "_law_form"] (defScope s_l_value) := ⟨rfl, rfl, rfl, by decide +kernel, rfl, by decide +kernel, by decide +kernel⟩

theorem c_of_l_value (c_l_take : Cal P w K mg base "_law_take" 4 R_take) (c_l_number : Cal P w K mg base "_law_number" 6 (R_draw numV numB)) (T : At K mg "_law_value" s_l_value ["_law_bag_here", "_law_form"]) : Cal P w K mg base "_law_value" 7 (R_draw vaV vaB) :=
  cal_at T sc_l_value (by rintro _ _ _ _ ⟨⟩; rfl) fun f cd0 A out s H E G Γ B r B' hR => by
  obtain ⟨b, p, low, high, B, F, hc⟩ := hR
  have hc12 := tkB_ok hc 12
  refine sj_set 2 G.nd (ej_call c_l_take (G.le (by decide)) (aj_cons (ej_bag 0) (aj_cons ej_int aj_nil)) (R_take.mk B 12 (by decide) (by unfold Bd; decide +kernel) hc)) ?_
  unfold vaV vaB
  refine sj_when (tj_eqI G.hu (ej_dat 2) ej_int) (fun h => ?_) (fun h => ?_)
  · rw [if_pos (of_decide_eq_true h), if_pos (of_decide_eq_true h)]
    exact sj_ret (ej_tupD (ad_cons ej_str ad_nil) (Nat.le_of_ble_eq_true rfl)) ⟨rfl, rfl⟩
  · rw [if_neg (of_decide_eq_false h), if_neg (of_decide_eq_false h)]
    by_cases h1 : tkV B 12 = 1
    · rw [if_pos h1, if_pos h1]
      exact sj_ret (ej_if (x := true) (tj_is (tj_eqI G.hu (ej_dat 2) ej_int) (decide_eq_true h1)) (fun _ => ej_tupD (ad_cons ej_str (ad_cons (ej_call c_l_take (G.le (by decide)) (aj_cons (ej_bag 0) (aj_cons ej_int aj_nil)) (R_take.mk _ 2 (by decide) (by unfold Bd; decide +kernel) hc12)) ad_nil)) (Nat.le_of_ble_eq_true rfl)) (fun h => Bool.noConfusion h)) ⟨rfl, rfl⟩
    · rw [if_neg h1, if_neg h1]
      exact sj_ret (ej_if (x := false) (tj_is (tj_eqI G.hu (ej_dat 2) ej_int) (decide_eq_false h1)) (fun h => Bool.noConfusion h) (fun _ => ej_call c_l_number (G.le (by decide)) (aj_cons (ej_bag 0) (aj_cons (ej_dat 1) aj_nil)) (R_draw.mk b p low high _ F hc12))) ⟨rfl, rfl⟩

abbrev s_l_grid : Stmt := topS 39
theorem sc_l_grid : FnScope ["_law_form", "_law_x", "_law_base", "_law_digits", "_law_low", "_law_high", "_law_size", "_law_bound", "_law_e", "_law_many", "_law_step"] ["_law_form", "_law_x"] (defScope s_l_grid) := ⟨rfl, rfl, rfl, by decide +kernel, rfl, by decide +kernel, by decide +kernel⟩

theorem c_of_l_grid (m_int : mg "int" = none) (m_max : mg "max" = none) (c_l_to : Cal P w K mg base "_law_to" 4 R_pow) (T : At K mg "_law_grid" s_l_grid ["_law_form", "_law_x"]) : Cal P w K mg base "_law_grid" 5 R_grid :=
  cal_at T sc_l_grid (by rintro _ _ _ _ ⟨⟩; rfl) fun f cd0 A out s H E G Γ B r B' hR => by
  obtain ⟨b, p, low, high, q, n, d, B, F, h0, hq, hn, hd⟩ := hR
  have b2 := F.b2; have p2 := F.p2; have p7 := F.p7; have lo := F.lo; have lh := F.lh; have hi := F.hi; have b6 := F.b6
  refine sj_unpack [2, 3, 4, 5] G.calm (ej_dat (d := .tuple [.int b, .int p, .int low, .int high]) 0) (pgs_cons (pg_name (i := 2) G.nd rfl (Or.inl rfl)) (pgs_cons (pg_name (i := 3) G.nd rfl (Or.inl rfl)) (pgs_cons (pg_name (i := 4) G.nd rfl (Or.inl rfl)) (pgs_cons (pg_name (i := 5) G.nd rfl (Or.inl rfl)) pgs_nil)))) rfl ?_
  have ei : max 0 (-low) = ((-low).toNat : Int) := by omega
  have ej : (p : Int) + max 0 low = ((p + low.toNat : Nat) : Int) := by omega
  have hbl := F.bl
  have hb0 : Bd 2340 ((b ^ (-low).toNat : Nat) : Int) := Bd.nat hbl
  have hbj : b ^ (p + low.toNat) < 2 ^ 3040 := by
    have h1 := F.pow_hi lh; have h3 := F.bp
    rw [Nat.pow_add]
    have h5 : b ^ p * b ^ low.toNat < 2 ^ 700 * 2 ^ 2340 := Nat.mul_lt_mul'' h3 h1
    have h7 : 2 ^ 700 * 2 ^ 2340 = 2 ^ 3040 := by rw [← Nat.pow_add]
    rw [h7] at h5; exact h5
  have hsz : Bd 11240 (q.num * ((b ^ (-low).toNat : Nat) : Int)) := (hq.nu.mul hb0).le (by omega)
  have hb00 : Bd 9540 ((q.den : Int) * ((b ^ (p + low.toNat) : Nat) : Int)) := (hq.de.mul (Bd.nat hbj)).le (by omega)
  refine sj_par3 6 7 8 G.nd G.calm (aj_cons (ej_mul (ej_at (ej_dat (d := .tuple [.int q.num, .int (q.den : Int)]) 1)) (ej_call c_l_to (G.le (by decide)) (aj_cons (ej_dat 2) (aj_cons (ej_is (ej_max G.calm m_max ej_int (ej_neg (ej_dat 4))) (congrArg PyData.int ei)) aj_nil)) (R_pow.mk b _ B b6 (by omega))) (cmz hq.nu hb0))
    (aj_cons (ej_mul (ej_at (ej_dat (d := .tuple [.int q.num, .int (q.den : Int)]) 1)) (ej_call c_l_to (G.le (by decide)) (aj_cons (ej_dat 2) (aj_cons (ej_is (ej_add (ej_dat 3) (ej_max G.calm m_max ej_int (ej_dat 4))) (congrArg PyData.int ej)) aj_nil)) (R_pow.mk b _ B b6 (by omega))) (cmz hq.de (Bd.nat hbj)))
    (aj_cons (ej_dat 4) aj_nil))) ?_ (by decide) (by decide) (by decide) (by rfl)
  generalize hS : q.num * ((b ^ (-low).toNat : Nat) : Int) = S at *
  have hS0 : 0 ≤ S := by rw [← hS]; exact Int.mul_nonneg (Rat.num_nonneg.mpr h0) (Int.natCast_nonneg _)
  have hbd : ∀ t : Nat, (t = 0 ∨ (q.den : Int) * ((b ^ (p + low.toNat + t) : Nat) : Int) ≤ S) → Bd 11240 ((q.den : Int) * ((b ^ (p + low.toNat + t) : Nat) : Int)) := by
    rintro t (rfl | h)
    · exact hb00.le (by decide)
    · have : 0 ≤ (q.den : Int) * ((b ^ (p + low.toNat + t) : Nat) : Int) := Int.mul_nonneg (Int.le_of_lt (den_pos q)) (Int.natCast_nonneg _)
      unfold Bd at *; omega
  have hst : ∀ (t m : Nat), (q.den : Int) * ((b ^ (p + low.toNat + t) : Nat) : Int) * ((b ^ m : Nat) : Int) = (q.den : Int) * ((b ^ (p + low.toNat + (t + m)) : Nat) : Int) := by
    intro t m; rw [Int.mul_assoc, ← Int.natCast_mul, ← Nat.pow_add, Nat.add_assoc]
  have hpos : ∀ t : Nat, 0 < (q.den : Int) * ((b ^ (p + low.toNat + t) : Nat) : Int) := fun t => Int.mul_pos (den_pos q) (Int.natCast_pos.mpr (Nat.pow_pos (by omega)))
  refine sj_forT (ds := [.int 512, .int 64, .int 8, .int 1]) 9 G.nd G.calm (fun i Γ' B2 => ∃ (t : Nat) (z1 z2 : VD), Γ' = [.da (fmP b p low high), .da (fq q), .da (.int b), .da (.int p), .da (.int low), .da (.int high), .da (.int S), .da (.int ((q.den : Int) * ((b ^ (p + low.toNat + t) : Nat) : Int))), .da (.int (low + t)), z1, z2] ∧ B2 = B ∧
      (t = 0 ∨ (q.den : Int) * ((b ^ (p + low.toNat + t) : Nat) : Int) ≤ S) ∧ (i = 4 → S < (q.den : Int) * ((b ^ (p + low.toNat + (t + 1)) : Nat) : Int)))
    (ej_tupD (ad_cons ej_int (ad_cons ej_int (ad_cons ej_int (ad_cons ej_int ad_nil)))) (Nat.le_of_ble_eq_true rfl)) ⟨0, .no, .no, by rw [show low + ((0 : Nat) : Int) = low by omega]; rfl, rfl, .inl rfl, fun z => absurd z (by decide)⟩ (fun i y Γ' B2 hy hP => ?_) (fun Γ' B2 hP => ?_)
  · obtain ⟨t, z1, z2, rfl, rfl, ht, _⟩ := hP
    obtain ⟨m, rfl, hm1, hm512, hm4⟩ : ∃ m : Nat, y = .int (m : Int) ∧ 1 ≤ m ∧ m ≤ 512 ∧ (i = 3 → m = 1) := by
      match i, hy with
      | 0, hy => cases hy; exact ⟨512, rfl, by decide, by decide, fun z => absurd z (by decide)⟩
      | 1, hy => cases hy; exact ⟨64, rfl, by decide, by decide, fun z => absurd z (by decide)⟩
      | 2, hy => cases hy; exact ⟨8, rfl, by decide, by decide, fun z => absurd z (by decide)⟩
      | 3, hy => cases hy; exact ⟨1, rfl, by decide, by decide, fun _ => rfl⟩
      | i + 4, hy => cases hy
    have hbm : Bd 3073 ((b ^ m : Nat) : Int) := (bd_pow m b6).le (by omega)
    refine sj_set 10 G.nd (ej_call c_l_to (G.le (by decide)) (aj_cons (ej_dat 2) (aj_cons (ej_dat 9) aj_nil)) (R_pow.mk b m B2 b6 (by omega))) ?_
    refine sj_while G.nd (fun Γ' B3 => ∃ t : Nat, Γ' = [.da (fmP b p low high), .da (fq q), .da (.int b), .da (.int p), .da (.int low), .da (.int high), .da (.int S), .da (.int ((q.den : Int) * ((b ^ (p + low.toNat + t) : Nat) : Int))), .da (.int (low + t)), .da (.int (m : Int)), .da (.int ((b ^ m : Nat) : Int))] ∧ B3 = B2 ∧
      (t = 0 ∨ (q.den : Int) * ((b ^ (p + low.toNat + t) : Nat) : Int) ≤ S)) (fun Γ' _ => (S + 1 - intAt Γ' 7).toNat) ⟨t, rfl, rfl, ht⟩ ?_
    rintro Γ3 B3 ⟨t, rfl, rfl, ht⟩
    have hbt := hbd t ht
    refine ⟨_, tj_ge (ej_dat 6) (ej_mul (ej_dat 7) (ej_dat 10) (cmz hbt hbm)), fun h => ?_, fun h => ?_⟩
    · have hge : (q.den : Int) * ((b ^ (p + low.toNat + (t + m)) : Nat) : Int) ≤ S := by rw [← hst]; exact of_decide_eq_true h
      refine sj_par 7 8 G.nd G.calm (aj_cons (ej_mul (ej_dat 7) (ej_dat 10) (cmz hbt hbm)) (aj_cons (ej_add (ej_dat 8) (ej_dat 9)) aj_nil)) (sj_nil ?_) (by decide) (by rfl)
      rw [hst]
      refine ⟨⟨t + m, by rw [show low + (t : Int) + (m : Int) = low + ((t + m : Nat) : Int) by omega]; rfl, rfl, .inr hge⟩, ?_⟩
      show (S + 1 - (q.den : Int) * ((b ^ (p + low.toNat + (t + m)) : Nat) : Int)).toNat < (S + 1 - (q.den : Int) * ((b ^ (p + low.toNat + t) : Nat) : Int)).toNat
      have hlt : (q.den : Int) * ((b ^ (p + low.toNat + t) : Nat) : Int) < (q.den : Int) * ((b ^ (p + low.toNat + (t + m)) : Nat) : Int) :=
        Int.mul_lt_mul_of_pos_left (Int.ofNat_lt.mpr (Nat.pow_lt_pow_right (by omega) (by omega))) (den_pos q)
      omega
    · have hlt : S < (q.den : Int) * ((b ^ (p + low.toNat + (t + m)) : Nat) : Int) := by rw [← hst]; have := of_decide_eq_false h; omega
      exact sj_nil ⟨t, _, _, rfl, rfl, ht, fun h4 => by rw [hm4 (by omega)] at hlt; exact hlt⟩
  · obtain ⟨t, z1, z2, rfl, rfl, ht, h4⟩ := hP
    have h4 := h4 rfl
    have hbt := hbd t ht
    have es : ∀ t : Nat, ((p + low.toNat + t : Nat) : Int) - ((-low).toNat : Nat) = p + (low + t) := fun t => by omega
    have k1 := lt_pw_iff b2 q (-low).toNat (p + low.toNat + (t + 1))
    rw [es, hS] at k1
    have k0 := lt_pw_iff b2 q (-low).toNat (p + low.toNat + t)
    rw [es, hS] at k0
    have hE : IsE b p low q (low + t + (if decide ((q.den : Int) * ((b ^ (p + low.toNat + t) : Nat) : Int) ≤ S) = true then 1 else 0)) := by
      by_cases h : (q.den : Int) * ((b ^ (p + low.toNat + t) : Nat) : Int) ≤ S
      · rw [decide_eq_true h, if_pos rfl]
        refine ⟨by omega, ?_, .inr ?_⟩
        · have := k1.mpr h4
          rw [show (p : Int) + (low + t + 1) = p + (low + (t + 1 : Nat)) by omega]; exact this
        · have := Rat.not_lt.mp (fun z => absurd (k0.mp z) (by omega))
          rw [show (p : Int) + (low + t + 1) - 1 = p + (low + t) by omega]; exact this
      · rw [decide_eq_false h, if_neg (by decide)]
        rcases ht with rfl | ht
        · refine ⟨by omega, ?_, .inl (by omega)⟩
          have := k0.mpr (by omega)
          rw [show (p : Int) + (low + ((0 : Nat) : Int) + 0) = p + (low + ((0 : Nat) : Int)) by omega]; exact this
        · exact absurd ht h
    have eE := (eQ_of b2 hE).symm
    refine sj_set 8 G.nd (ej_is (y := .int (eQ b p low q)) (ej_add (ej_dat 8) (ej_intB m_int (ej_ge (ej_dat 6) (ej_dat 7)))) (congrArg PyData.int eE)) ?_
    clear hE eE
    have hE := eQ_is (p := p) b2 low q
    have he := F.e_hi hq h0 hE hn
    have hlo := hE.1
    generalize eQ b p low q = e at *
    have hD := F.D_bd hq h0 hE hn hd
    have hDp := Dq_pos b2 e q
    have e1 : max 0 (-e) = ((-e).toNat : Int) := by omega
    have e3 : max 0 e = (e.toNat : Int) := by omega
    have hup : Bd 2340 ((b ^ (-e).toNat : Nat) : Int) := Bd.nat (F.pow_lo hlo)
    have hdn : Bd 9400 ((b ^ e.toNat : Nat) : Int) := by
      rcases F.e_bd hq h0 hE with ⟨z, _, _⟩ | z
      · have hd1 : 1 ≤ q.den := q.den_pos
        exact (Bd.nat (Nat.lt_of_le_of_lt (Nat.le_mul_of_pos_left _ hd1) z)).le (by omega)
      · have h1 : b ^ e.toNat < 2 ^ 2340 := by
          rcases z with z | z
          · have : e.toNat = 0 := by omega
            rw [this, Nat.pow_zero]; exact Nat.one_lt_two_pow (by decide)
          · rw [z]; exact F.pow_hi F.lh
        exact (Bd.nat h1).le (by decide)
    exact sj_ret (ej_tupD (ad_cons (ej_is (y := .int (cQ b e q)) (ej_fdiv (ej_int1 m_int (ej_mul (ej_at (ej_dat (d := .tuple [.int q.num, .int (q.den : Int)]) 1)) (ej_call c_l_to (G.le (by decide)) (aj_cons (ej_dat 2) (aj_cons (ej_is (ej_max G.calm m_max ej_int (ej_neg (ej_dat 8))) (congrArg PyData.int e1)) aj_nil)) (R_pow.mk b _ _ b6 (by omega))) (cmz hq.nu hup)))
      (ej_is (y := .int (Dq b e q)) (ej_mul (ej_at (ej_dat (d := .tuple [.int q.num, .int (q.den : Int)]) 1)) (ej_call c_l_to (G.le (by decide)) (aj_cons (ej_dat 2) (aj_cons (ej_is (ej_max G.calm m_max ej_int (ej_dat 8)) (congrArg PyData.int e3)) aj_nil)) (R_pow.mk b _ _ b6 (by omega))) (cmz hq.de hdn)) rfl) (cdv hD hDp)) rfl) (ad_cons (ej_dat 8) ad_nil)) (Nat.le_of_ble_eq_true rfl)) ⟨rfl, rfl⟩

abbrev s_l_greatest : Stmt := topS 40
theorem sc_l_greatest : FnScope ["_law_form", "_law_base", "_law_digits", "_law_low", "_law_high"] ["_law_form"] (defScope s_l_greatest) := ⟨rfl, rfl, rfl, by decide +kernel, rfl, by decide +kernel, by decide +kernel⟩

theorem c_of_l_greatest (c_l_to : Cal P w K mg base "_law_to" 4 R_pow) (c_l_power : Cal P w K mg base "_law_power" 5 R_power_of) (c_l_multiplied : Cal P w K mg base "_law_multiplied" 6 (R_two (· * ·))) (T : At K mg "_law_greatest" s_l_greatest ["_law_form"]) : Cal P w K mg base "_law_greatest" 7 R_great :=
  cal_at T sc_l_greatest (by rintro _ _ _ _ ⟨⟩; rfl) fun f cd0 A out s H E G Γ B r B' hR => by
  obtain ⟨b, p, low, high, B, F⟩ := hR
  have b2 := F.b2; have p7 := F.p7; have lo := F.lo; have lh := F.lh; have hi := F.hi; have bp := F.bp
  refine sj_unpack [1, 2, 3, 4] G.calm (ej_dat (d := .tuple [.int b, .int p, .int low, .int high]) 0) (pgs_cons (pg_name (i := 1) G.nd rfl (Or.inl rfl)) (pgs_cons (pg_name (i := 2) G.nd rfl (Or.inl rfl)) (pgs_cons (pg_name (i := 3) G.nd rfl (Or.inl rfl)) (pgs_cons (pg_name (i := 4) G.nd rfl (Or.inl rfl)) pgs_nil)))) rfl ?_
  have hc : Qz 700 1 ((((b ^ p : Nat) : Int) - 1 : Int) : Rat) := ⟨by rw [Rat.num_intCast]; unfold Bd; omega, by rw [Rat.den_intCast]; unfold Bd; decide⟩
  exact sj_ret (ej_call c_l_multiplied (G.le (by decide)) (aj_cons (ej_is (y := fq ((((b ^ p : Nat) : Int) - 1 : Int) : Rat)) (ej_tupD (ad_cons (ej_sub (ej_call c_l_to (G.le (by decide)) (aj_cons (ej_dat 1) (aj_cons (ej_dat 2) aj_nil)) (R_pow.mk b p B F.b6 (by omega))) ej_int) (ad_cons ej_int ad_nil)) (Nat.le_of_ble_eq_true rfl)) (fq_int _).symm)
    (aj_cons (ej_call c_l_power (G.le (by decide)) (aj_cons (ej_dat 1) (aj_cons (ej_dat 4) aj_nil)) (R_power_of.mk b high B (by omega) F.b6 (by omega) (by omega))) aj_nil)) (R_two.mk _ _ _ _ _ _ B hc (F.qz lh (Int.le_refl _)) (by decide) (by decide) (by decide))) ⟨rfl, rfl⟩

abbrev s_l_number_of : Stmt := topS 41
theorem sc_l_number_of : FnScope ["_law_form", "_law_x", "_law_s", "_law_size", "_law_c", "_law_e"] ["_law_form", "_law_x"] (defScope s_l_number_of) := ⟨rfl, rfl, rfl, by decide +kernel, rfl, by decide +kernel, by decide +kernel⟩

theorem c_of_l_number_of (m_int : mg "int" = none) (c_l_sized : Cal P w K mg base "_law_sized" 4 (R_one fun x => fq (absQ x))) (c_l_is_below : Cal P w K mg base "_law_is_below" 4 R_below) (c_l_multiplied : Cal P w K mg base "_law_multiplied" 6 (R_two (· * ·))) (c_l_greatest : Cal P w K mg base "_law_greatest" 7 R_great) (c_l_grid : Cal P w K mg base "_law_grid" 5 R_grid)
    (c_l_power : Cal P w K mg base "_law_power" 5 R_power_of) (T : At K mg "_law_number_of" s_l_number_of ["_law_form", "_law_x"]) : Cal P w K mg base "_law_number_of" 8 R_numof :=
  cal_at T sc_l_number_of (by rintro _ _ _ _ ⟨⟩; rfl) fun f cd0 A out s H E0 G Γ B r B' hR => by
  obtain ⟨b, p, low, high, q, n, d, B, F, hq, hn, hd⟩ := hR
  have b2 := F.b2; have p2 := F.p2; have p7 := F.p7; have flo := F.lo; have fhi := F.hi
  have qa := hq.abs
  have h0 := absQ_nonneg q
  rw [numofP_all F]
  have hE := eQ_is (p := p) b2 low (absQ q)
  have gp := gr_pos F
  have q2 : Qz 2 1 ((2 : Int) : Rat) := ⟨by unfold Bd; decide +kernel, by unfold Bd; decide +kernel⟩
  refine sj_par 2 3 G.nd G.calm (aj_cons (ej_is (y := .int (sgn q)) (ej_intB m_int (ej_lt (ej_at (ej_dat (d := .tuple [.int q.num, .int (q.den : Int)]) 1)) ej_int)) ?_) (aj_cons (ej_call c_l_sized (G.le (by decide)) (aj_cons (ej_dat (d := fq q) 1) aj_nil) (R_one.mk q B)) aj_nil)) ?_ (by decide) (by rfl)
  · unfold sgn
    by_cases hs : q.num < 0
    · rw [decide_eq_true hs, if_pos hs]; rfl
    · rw [decide_eq_false hs, if_neg hs]; rfl
  refine sj_when (tj_not (tj_val (ej_call c_l_is_below (G.le (by decide)) (aj_cons (ej_dat 3) (aj_cons (ej_call c_l_multiplied (G.le (by decide)) (aj_cons (ej_is (y := fq ((2 : Int) : Rat)) (ej_tupD (ad_cons ej_int (ad_cons ej_int ad_nil)) (Nat.le_of_ble_eq_true rfl)) (fq_int 2).symm) (aj_cons (ej_call c_l_greatest (G.le (by decide)) (aj_cons (ej_dat 0) aj_nil) (R_great.mk b p low high B F)) aj_nil)) (R_two.mk _ _ _ _ _ _ B q2 (gr_qz F) (by decide) (by decide) (by decide))) aj_nil)) (R_below.mk _ _ _ _ _ _ B qa (q2.mul (gr_qz F)) (by omega) (by decide))))) (fun h => ?_) (fun h => ?_)
  · have hb : ¬ absQ q < ((2 : Int) : Rat) * grQ b p high := of_decide_eq_false (by simpa using h)
    have : high < eQ b p low (absQ q) ∨ rQ b (eQ b p low (absQ q)) (absQ q) ≠ 0 := by
      refine Decidable.byContradiction fun z => ?_
      have z1 : ¬ high < eQ b p low (absQ q) := fun y => z (.inl y)
      have z2 : rQ b (eQ b p low (absQ q)) (absQ q) = 0 := Decidable.byContradiction fun y => z (.inr y)
      have := num_le_great F h0 (by omega) z2
      have e2 : ((2 : Int) : Rat) = 2 := rfl
      rw [e2] at hb
      grind
    rw [if_pos this]
    exact sj_ret ej_non ⟨rfl, rfl⟩
  have R := R_grid.mk b p low high (absQ q) n d B F h0 qa (by omega) (by omega)
  have hC := spot_can b2 (by omega) h0 hE
  have hl := lo_eq b2 (eQ b p low (absQ q)) (absQ q)
  have hlo := hE.1
  unfold loQ at hl
  refine sj_unpack [4, 5] G.calm (ej_call c_l_grid (G.le (by decide)) (aj_cons (ej_dat 0) (aj_cons (ej_dat 3) aj_nil)) R) (pgs_cons (pgN 4 G.nd) (pgs_cons (pgN 5 G.nd) pgs_nil)) rfl ?_
  generalize eQ b p low (absQ q) = e at *
  generalize rQ b e (absQ q) = rr at *
  generalize cQ b e (absQ q) = c at *
  have bp := F.bp
  have c0 := hC.1; have c1 := hC.2.1
  have qc : Qz 700 1 (c : Rat) := ⟨by rw [Rat.num_intCast]; unfold Bd; omega, by rw [Rat.den_intCast]; unfold Bd; decide⟩
  refine sj_when (x := decide (high < e) || !decide ((c : Rat) * pw b e = absQ q)) (tj_w (wj_or (tj_gt (ej_dat 5) (ej_at (ej_dat (d := .tuple [.int b, .int p, .int low, .int high]) 0))) fun hh => wj_or1 (tj_is (tj_ne G.hu (ej_call c_l_multiplied (G.le (by decide)) (aj_cons (ej_is (y := fq (c : Rat)) (ej_tupD (ad_cons (ej_dat 4) (ad_cons ej_int ad_nil)) (Nat.le_of_ble_eq_true rfl)) (fq_int c).symm) (aj_cons (ej_call c_l_power (G.le (by decide)) (aj_cons (ej_at (ej_dat (d := .tuple [.int b, .int p, .int low, .int high]) 0)) (aj_cons (ej_dat 5) aj_nil)) (R_power_of.mk b e B (by omega) F.b6 (by omega) (by have := of_decide_eq_false hh; omega))) aj_nil)) (R_two.mk _ _ _ _ _ _ B qc (F.qz hlo (by have := of_decide_eq_false hh; omega)) (by decide) (by decide) (by decide))) (ej_dat (d := fq (absQ q)) 3) (shaped_fq _) (shaped_fq _)) (by rw [eqv_fq])))) (fun h => ?_) (fun h => ?_)
  · have h' : high < e ∨ rr ≠ 0 := by
      rcases Bool.or_eq_true_iff.mp h with z | z
      · exact .inl (of_decide_eq_true z)
      · exact .inr fun y => by rw [decide_eq_true (hl.mpr y)] at z; cases z
    rw [if_pos h']
    exact sj_ret ej_non ⟨rfl, rfl⟩
  · have h' := Bool.or_eq_false_iff.mp h
    have he2 := of_decide_eq_false h'.1
    have hr : rr = 0 := hl.mp (by simpa using h'.2)
    rw [if_neg (fun z => z.elim he2 fun z => z hr)]
    exact sj_ret (ej_tupD (ad_cons ej_str (ad_cons (ej_dat 2) (ad_cons (ej_dat 4) (ad_cons (ej_dat 5) ad_nil)))) (Nat.le_of_ble_eq_true rfl)) ⟨rfl, rfl⟩

abbrev s_l_compared : Stmt := topS 42
theorem sc_l_compared : FnScope ["_law_x", "_law_y"] ["_law_x", "_law_y"] (defScope s_l_compared) := ⟨rfl, rfl, rfl, by decide +kernel, rfl, by decide +kernel, by decide +kernel⟩

theorem c_of_l_compared (m_int : mg "int" = none) (c_l_is_below : Cal P w K mg base "_law_is_below" 4 R_below) (T : At K mg "_law_compared" s_l_compared ["_law_x", "_law_y"]) : Cal P w K mg base "_law_compared" 5 R_cmp :=
  cal_at T sc_l_compared (by rintro _ _ _ _ ⟨⟩; rfl) fun f cd0 A out s H E G Γ B r B' hR => by
  obtain ⟨n, d, m, c, x, y, B, hx, hy, h1, h2⟩ := hR
  refine sj_ret (ej_sub (ej_intB m_int (ej_call c_l_is_below (G.le (by decide)) (aj_cons (ej_dat 1) (aj_cons (ej_dat 0) aj_nil)) (R_below.mk _ _ _ _ y x B hy hx h2 h1))) (ej_intB m_int (ej_call c_l_is_below (G.le (by decide)) (aj_cons (ej_dat 0) (aj_cons (ej_dat 1) aj_nil)) (R_below.mk _ _ _ _ x y B hx hy h1 h2)))) ⟨?_, rfl⟩
  unfold cmp
  congr 1
  by_cases h1 : x < y
  · have h2 : ¬ y < x := fun z => Int.lt_irrefl _ (Int.lt_trans ((Rat.lt_iff x y).mp h1) ((Rat.lt_iff y x).mp z))
    simp [h1, h2]
  · by_cases h2 : y < x
    · simp [h1, h2]
    · simp [h1, h2]

abbrev s_l_order : Stmt := topS 43
theorem sc_l_order : FnScope ["_law_form", "_law_x", "_law_other", "_law_y", "_law_places", "_law_value_here"] ["_law_form", "_law_x", "_law_other", "_law_y"] (defScope s_l_order) := ⟨rfl, rfl, rfl, by decide +kernel, rfl, by decide +kernel, by decide +kernel⟩

theorem c_of_l_order (m_int : mg "int" = none) (c_l_compared : Cal P w K mg base "_law_compared" 5 R_cmp) (c_l_worth : Cal P w K mg base "_law_worth" 7 R_worth) (T : At K mg "_law_order" s_l_order ["_law_form", "_law_x", "_law_other", "_law_y"]) : Cal P w K mg base "_law_order" 8 R_order :=
  cal_at T sc_l_order (by rintro _ _ _ _ ⟨⟩; rfl) fun f cd0 A out s H E0 G Γ B r B' hR => by
  obtain ⟨b, p, low, high, b', p', low', high', x, y, B, F, F', hx, hy⟩ := hR
  have nx := va_nd F hx; have ny := va_nd F' hy
  have nxy : Nd 3 100 (.tuple [x.d, y.d]) := (Nd.tuple (NdA.cons nx (NdA.cons ny (NdA.nil (W := 0))))).le (Nat.le_refl _) (by decide)
  unfold ordP
  refine sj_when (x := decide (x.isNan = true ∨ y.isNan = true)) (tj_is (tj_inD G.hu (ej_tupD (ad_cons ej_str ad_nil) (Nat.le_of_ble_eq_true rfl)) (ej_tupD (ds := [x.d, y.d]) (ad_cons (ej_dat 1) (ad_cons (ej_dat 3) ad_nil)) (Nat.le_of_ble_eq_true rfl)) (by decide +kernel) nxy.okd.shaped (by decide +kernel)) ?_) (fun h => ?_) (fun h => ?_)
  · show (PyData.eqv x.d (.tuple [.str "nan"]) || (PyData.eqv y.d (.tuple [.str "nan"]) || false)) = _
    rw [eqv_nan, eqv_nan, Bool.or_false]
    cases x.isNan <;> cases y.isNan <;> rfl
  · rw [if_pos (of_decide_eq_true h)]
    exact sj_ret ej_non ⟨rfl, rfl⟩
  have hnn := of_decide_eq_false h
  rw [if_neg hnn]
  have hxn : x.isNan = false := by cases hh : x.isNan; rfl; exact absurd (.inl hh) hnn
  have hyn : y.isNan = false := by cases hh : y.isNan; rfl; exact absurd (.inr hh) hnn
  have sx := sg_01 hxn hx; have sy := sg_01 hyn hy
  refine sj_setLcT 4 (j := 5) (x := "_law_value_here") (d := .da (.list [.int (plI x), .int (plI y)])) G.nd G.calm (blkOk_by (N := ["_law_form", "_law_x", "_law_other", "_law_y", "_law_places", "_law_value_here"]) (sc := defScope s_l_order) (by decide +kernel)) (fun _ _ _ _ _ => pg_name (i := 5) G.nd rfl (Or.inl rfl))
    (rj_lcT (ds := [x.d, y.d]) (ys := [.int (plI x), .int (plI y)]) (fun _ => B) (ej_tupD (ds := [x.d, y.d]) (ad_cons (ej_dat 1) (ad_cons (ej_dat 3) ad_nil)) (Nat.le_of_ble_eq_true rfl)) rfl (Nat.le_of_ble_eq_true rfl) ?_) ?_ (sw_true rfl rfl rfl (by decide +kernel))
  · intro i dd z hd hz s0 H0 C cl fp
    have gen : ∃ v : Va, dd = v.d ∧ z = .int (plI v) ∧ v.isNan = false ∧ (v.sg = 0 ∨ v.sg = 1) := by
      rcases i with _ | _ | i
      · cases hd; cases hz; exact ⟨x, rfl, rfl, hxn, sx⟩
      · cases hd; cases hz; exact ⟨y, rfl, rfl, hyn, sy⟩
      · cases hd
    obtain ⟨v, rfl, rfl, hvn, hvs⟩ := gen
    refine ej_if (x := v.isNum) (tj_is (tj_eqS (ej_at (ej_dat (d := .tuple v.l) 5) v.at0) ej_str) (tag_num v)) (fun hh => ?_) (fun hh => ?_)
    · unfold plI; rw [if_pos hh]; exact ej_int
    · unfold plI; rw [if_neg (by rw [hh]; decide)]
      exact ej_sub ej_int (ej_mul ej_int (ej_at (ej_dat (d := .tuple v.l) 5) (at1 hvn)) (cmz (n := 3) (m := 2) (by unfold Bd; decide) (by unfold Bd; omega)))
  have nl : Nd 2 10 (.list [.int (plI x), .int (plI y)]) := by
    have h1 : Bd 3 (plI x) := by unfold plI Bd; split <;> omega
    have h2 : Bd 3 (plI y) := by unfold plI Bd; split <;> omega
    exact (Nd.list (NdA.cons (Nd.int h1) (NdA.cons (Nd.int h2) (NdA.nil (W := 0))))).le (Nat.le_refl _) (by decide)
  unfold ordI
  refine sj_when (x := decide (plI x ≠ 0 ∨ plI y ≠ 0)) (tj_is (tj_ne G.hu (ej_dat (d := .list [.int (plI x), .int (plI y)]) 4) (ej_lstD (ad_cons ej_int (ad_cons ej_int ad_nil)) (Nat.le_of_ble_eq_true rfl)) nl.okd.shaped (by decide +kernel)) ?_) (fun h => ?_) (fun h => ?_)
  · rw [eqv_00]
    by_cases h1 : plI x = 0 <;> by_cases h2 : plI y = 0 <;> simp [h1, h2]
  · rw [if_pos (of_decide_eq_true h)]
    refine sj_ret (ej_is (ej_sub (ej_intB m_int (ej_gt (ej_atL (ej_dat (d := .list [.int (plI x), .int (plI y)]) 4) rfl) (ej_atL (ej_dat (d := .list [.int (plI x), .int (plI y)]) 4) rfl))) (ej_intB m_int (ej_lt (ej_atL (ej_dat (d := .list [.int (plI x), .int (plI y)]) 4) rfl) (ej_atL (ej_dat (d := .list [.int (plI x), .int (plI y)]) 4) rfl)))) ?_) ⟨rfl, rfl⟩
    unfold cmpI
    by_cases h1 : plI y < plI x <;> by_cases h2 : plI x < plI y <;> simp [h1, h2]
  · have hh := of_decide_eq_false h
    rw [if_neg hh]
    have px : plI x = 0 := Decidable.byContradiction fun z => hh (.inl z)
    have py : plI y = 0 := Decidable.byContradiction fun z => hh (.inr z)
    have ix := plI_num hxn sx px
    have iy := plI_num hyn sy py
    obtain ⟨s1, c1, e1, rfl⟩ : ∃ s c e, x = .num s c e := by cases x <;> first | exact ⟨_, _, _, rfl⟩ | cases ix
    obtain ⟨s2, c2, e2, rfl⟩ : ∃ s c e, y = .num s c e := by cases y <;> first | exact ⟨_, _, _, rfl⟩ | cases iy
    exact sj_ret (ej_call c_l_compared (G.le (by decide)) (aj_cons (ej_call c_l_worth (G.le (by decide)) (aj_cons (ej_dat 0) (aj_cons (ej_dat 1) aj_nil)) (R_worth.mk b p low high s1 c1 e1 B F hx)) (aj_cons (ej_call c_l_worth (G.le (by decide)) (aj_cons (ej_dat 2) (aj_cons (ej_dat 3) aj_nil)) (R_worth.mk b' p' low' high' s2 c2 e2 B F' hy)) aj_nil)) (R_cmp.mk _ _ _ _ _ _ B (F.wz hx) (F'.wz hy) (by decide) (by decide))) ⟨rfl, rfl⟩

abbrev s_l_some_values : Stmt := topS 44
theorem sc_l_some_values : FnScope ["_law_bag_here", "_law_form", "_law_other", "_law_values", "_law_x", "_law_k"] ["_law_bag_here", "_law_form", "_law_other"] (defScope s_l_some_values) := ⟨rfl, rfl, rfl, by decide +kernel, rfl, by decide +kernel, by decide +kernel⟩

theorem c_of_l_some_values /-H-/ (m_range : mg "range" = none) (m_int : mg "int" = none) (c_l_some : Cal P w K mg base "_law_some" 5 R_some) (c_l_number_of : Cal P w K mg base "_law_number_of" 8 R_numof) (c_l_worth : Cal P w K mg base "_law_worth" 7 R_worth) (c_l_number : Cal P w K mg base "_law_number" 6 (R_draw numV numB)) (c_l_mixed : CalX P w K mg base "_law_mixed" 5 Pre_mixed Post_mixed) (c_l_value : Cal P w K mg base "_law_value" 7 (R_draw vaV vaB)) (c_l_take : Cal P w K mg base "_law_take" 4 R_take) /-E-/ (T : At K mg "_law_some_values" s_l_some_values ["_law_bag_here", "_law_form", "_law_other"]) : CalX P w K mg base "_law_some_values" 10 Pre_sv Post_sv :=
  calx_at T sc_l_some_values (by rintro _ _ ⟨_, _, _, _, _, _, _, _, rfl, _⟩; rfl) fun f cd0 A out s0 H E0 G Γ B hPre => by
  obtain ⟨b, p, low, high, b', p', low', high', rfl, F, F', ok⟩ := hPre
  have r0 := R_some.mk B (([4, 6, 2, 0] : List Int).map PyData.int) (Nat.le_of_ble_eq_true rfl) (Nat.le_of_ble_eq_true rfl) ok
  obtain ⟨s7, hs7, e7⟩ := pick_ex ([4, 6, 2, 0] : List Int) PyData.int B (Nat.le_of_ble_eq_true rfl)
  rw [e7] at r0
  have ok0 := tkB_ok ok (([4, 6, 2, 0] : List Int).map PyData.int).length
  generalize tkB B (([4, 6, 2, 0] : List Int).map PyData.int).length = B0 at *
  obtain ⟨n, rfl, hn⟩ : ∃ n : Nat, s7 = (n : Int) ∧ n ≤ 6 := by
    simp only [List.mem_cons, List.not_mem_nil, or_false] at hs7
    exact ⟨s7.toNat, by omega, by omega⟩
  refine sj_setLcRX 3 (x := "_law_k") (j := 5) G.nd G.calm m_range (blkOk_by (N := ["_law_bag_here", "_law_form", "_law_other", "_law_values", "_law_x", "_law_k"]) (sc := defScope s_l_some_values) (by decide +kernel)) (fun _ _ _ _ _ => pg_name (i := 5) G.nd rfl (Or.inl rfl)) (sw_true rfl rfl rfl (by decide +kernel)) (rx_lcR (n := n) (fun k acc B' => Bok B' ∧ ∃ L : List Va, acc = L.map Va.d ∧ L.length = k ∧ ∀ v ∈ L, Vcan b p low high v) (aj_cons (ej_call c_l_some (G.le (by decide)) (aj_cons (ej_bag 0) (aj_cons (ej_is (y := .list (([4, 6, 2, 0] : List Int).map PyData.int)) (ej_lstD (ad_cons ej_int (ad_cons ej_int (ad_cons ej_int (ad_cons ej_int ad_nil)))) (Nat.le_of_ble_eq_true rfl)) rfl) aj_nil)) (r0)) aj_nil) ⟨ok0, [], rfl, rfl, fun _ h => nomatch h⟩ (by omega) (fun k acc B' hk hl hI => ?_) (fun acc B1 hl hI => ?_))
  · obtain ⟨okB, L, rfl, hL, hv⟩ := hI
    intro s1 H1 C1 cl1 fp1
    refine ex_ej (ej_call c_l_value ⟨G.gd, G.rm.mono (by decide), G.nd, G.calm⟩ (aj_cons (ej_bag 0) (aj_cons (ej_dat (d := fmP b p low high) 1) aj_nil)) (R_draw.mk b p low high B' F okB)) ⟨vaB_ok okB, L ++ [vaV b p low high B'], by rw [List.map_append]; rfl, by rw [List.length_append, hL]; rfl, fun v h => ?_⟩
    rcases List.mem_append.mp h with h | h
    · exact hv v h
    · rw [List.mem_singleton.mp h]; exact vaV_can F B'
  obtain ⟨ok1, L, rfl, hL, hv⟩ := hI
  obtain ⟨s, c, e, en, hvn⟩ := numV_num F' B1
  have rn := R_draw.mk (f := numV) (g := numB) b' p' low' high' B1 F' ok1
  rw [en] at rn
  have ok2 := numB_ok (b := b') (p := p') (low := low') (high := high') ok1
  generalize numB b' p' low' high' B1 = B2 at *
  have wz := F'.wz hvn
  refine sj_set 4 G.nd (d := .da (numofP b p low high ((Va.num s c e).wQ b'))) (ej_call c_l_number_of (G.le (by decide)) (aj_cons (ej_dat (d := fmP b p low high) 1) (aj_cons (ej_call c_l_worth (G.le (by decide)) (aj_cons (ej_dat (d := fmP b' p' low' high') 2) (aj_cons (ej_call c_l_number (G.le (by decide)) (aj_cons (ej_bag 0) (aj_cons (ej_dat (d := fmP b' p' low' high') 2) aj_nil)) (rn)) aj_nil)) (R_worth.mk b' p' low' high' s c e B2 F' hvn)) aj_nil)) (R_numof.mk b p low high _ 3040 2341 B2 F wz (by decide) (by decide))) ?_
  obtain ⟨x, hx, L1, eL1, hl1, hv1⟩ : ∃ x : PyData, numofP b p low high ((Va.num s c e).wQ b') = x ∧ ∃ L1 : List Va, (if (!isNone x) = true then [x] else []) = L1.map Va.d ∧ L1.length ≤ 1 ∧ ∀ v ∈ L1, Vcan b p low high v := by
    rcases numof_va F ((Va.num s c e).wQ b') with h | ⟨s1, c1, e1, h, h2⟩
    · exact ⟨_, rfl, [], by rw [h]; rfl, by decide, fun _ h => nomatch h⟩
    · exact ⟨_, rfl, [.num s1 c1 e1], by rw [h]; rfl, Nat.le_refl _, fun v hv => by rw [List.mem_singleton.mp hv]; exact h2⟩
  rw [hx]
  clear hx rn en r0 e7 hs7 wz
  refine sj_setX 3 G.nd (ex_mono (Φ := fun y B3 => Bok B3 ∧ ∃ S : List Va, y = .list (S.map Va.d) ∧ S.length ≤ 9 ∧ ∀ v ∈ S, Vcan b p low high v) (ex_catL (ex_ej (ej_is (y := .list ((L ++ L1).map Va.d)) (ej_catL (ej_dat (d := .list (L.map Va.d)) 3) (ej_repL01 (ds := [x]) (k := !isNone x) (ej_lstD (ad_cons (ej_dat (d := x) 4) ad_nil) (Nat.le_of_ble_eq_true rfl)) (ej_intB m_int (ej_isnotN (ej_dat (d := x) 4))) (by cases isNone x <;> rfl) (Nat.le_of_ble_eq_true rfl)) (by rw [List.length_map, hL]; split <;> simp <;> omega)) (by rw [eL1, List.map_append])) (ex_lcR (x := "_law_k") (j := 5) G.nd G.calm m_range (blkOk_by (N := ["_law_bag_here", "_law_form", "_law_other", "_law_values", "_law_x", "_law_k"]) (sc := defScope s_l_some_values) (by decide +kernel)) (fun _ _ _ _ _ => pg_name (i := 5) G.nd rfl (Or.inl rfl)) (rx_lcR (n := 2) (fun k acc B' => Bok B' ∧ ∃ L : List Va, acc = L.map Va.d ∧ L.length = k ∧ ∀ v ∈ L, Vcan b p low high v) (aj_cons (ej_is ej_int rfl) aj_nil) ⟨ok2, [], rfl, rfl, fun _ h => nomatch h⟩ (by decide) (fun k acc B' hk hl hI => ?_) (fun acc B3 hl hI => ?_))))) fun y B3 hy => ?_)
  · obtain ⟨okB, L2, rfl, hL2, hv2⟩ := hI
    intro s1 H1 C1 cl1 fp1
    have rt := R_take.mk B' 2 (by decide) (by unfold Bd; decide +kernel) okB
    have t0 := tkV_ge B' (m := 2) (by decide)
    have t1 := tkV_lt B' (m := 2) (by decide)
    refine ex_ej (ej_tupD (ad_cons ej_str (ad_cons (ej_call c_l_take ⟨G.gd, G.rm.mono (by decide), G.nd, G.calm⟩ (aj_cons (ej_bag 0) (aj_cons ej_int aj_nil)) (rt)) (ad_cons ej_int (ad_cons (ej_at (ej_dat (d := .tuple [.int b, .int p, .int low, .int high]) 1)) ad_nil)))) (Nat.le_of_ble_eq_true rfl)) ⟨tkB_ok okB 2, L2 ++ [.num (tkV B' 2) 0 low], by rw [List.map_append]; rfl, by rw [List.length_append, hL2]; rfl, fun v h => ?_⟩
    rcases List.mem_append.mp h with h | h
    · exact hv2 v h
    · rw [List.mem_singleton.mp h]; exact zero_can F (by omega)
  · obtain ⟨ok3, L2, rfl, hL2, hv2⟩ := hI
    refine ⟨(L ++ L1).map Va.d, L2.map Va.d, rfl, rfl, by simp only [List.length_map, List.length_append]; omega, ok3, L ++ L1 ++ L2, by simp only [List.map_append], by simp only [List.length_append]; omega, fun v h => ?_⟩
    rcases List.mem_append.mp h with h | h
    · rcases List.mem_append.mp h with h | h
      · exact hv v h
      · exact hv1 v h
    · exact hv2 v h
  obtain ⟨ok3, S, rfl, hS, hvS⟩ := hy
  have e1 : cutP (S.map Va.d) none (some 1) = (S.take 1).map Va.d := by
    cases S with
    | nil => rfl
    | cons x r => rw [show ((1 : Int) = ((1 : Nat) : Int)) from rfl, cutN _ 1 (by simp), List.map_take]
  refine sj_retX (ex_call c_l_mixed (G.le (by decide)) (ax_bag 0 (ax_aj (aj_cons (ej_is (y := lisD true ((S ++ S.take 1).map Va.d)) (ej_catL (ej_dat (d := .list (S.map Va.d)) 3) (ej_sliceL (ej_dat (d := .list (S.map Va.d)) 3) oj_none (oj_some ej_int)) (by rw [e1]; simp only [List.length_map, List.length_take]; omega)) (by rw [e1, List.map_append]; rfl)) aj_nil) ⟨⟨true, (S ++ S.take 1).map Va.d, rfl, by simp only [List.length_map, List.length_append, List.length_take]; omega, lfree_vas _, ok3⟩, fun r B4 hp => ?_⟩)))
  refine ⟨hp.1, fun b2 p2 low2 high2 b3 p3 low3 high3 e => ?_⟩
  obtain ⟨ds, rfl, hpm⟩ := hp.2 true ((S ++ S.take 1).map Va.d) rfl
  obtain ⟨L3, rfl, hp3⟩ := perm_map hpm
  have hf : fmP b p low high = fmP b2 p2 low2 high2 := by
    injection e with _ e; injection e with e _; injection e
  obtain ⟨rfl, rfl, rfl, rfl⟩ := fmP_inj hf
  refine ⟨L3, rfl, by have := hp3.length_eq; simp only [List.length_append, List.length_take] at this; omega, fun v hv3 => ?_⟩
  rcases List.mem_append.mp (hp3.mem_iff.mp hv3) with h | h
  · exact hvS v h
  · exact hvS v (List.mem_of_mem_take h)

abbrev s_l_stands_ahead : Stmt := topS 45
theorem sc_l_stands_ahead : FnScope ["_law_form", "_law_x", "_law_y", "_law_order_here"] ["_law_form", "_law_x", "_law_y"] (defScope s_l_stands_ahead) := ⟨rfl, rfl, rfl, by decide +kernel, rfl, by decide +kernel, by decide +kernel⟩

theorem c_of_l_stands_ahead /-H-/ (c_l_order : Cal P w K mg base "_law_order" 8 R_order) /-E-/ (T : At K mg "_law_stands_ahead" s_l_stands_ahead ["_law_form", "_law_x", "_law_y"]) : Cal P w K mg base "_law_stands_ahead" 9 R_stands :=
  cal_at T sc_l_stands_ahead (by rintro _ _ _ _ ⟨⟩; rfl) fun f cd0 A out s0 H E0 G Γ B r B' hR => by
  obtain ⟨b, p, low, high, x, y, B, F, hx, hy, h⟩ := hR
  have nx := va_nd F hx.ok; have ny := va_nd F hy.ok
  have nxy : Nd 3 100 (.tuple [x.d, y.d]) := (Nd.tuple (NdA.cons nx (NdA.cons ny (NdA.nil (W := 0))))).le (Nat.le_refl _) (by decide)
  refine sj_when (x := decide (x.isNan = true ∨ y.isNan = true)) (tj_is (tj_inD G.hu (ej_tupD (ad_cons ej_str ad_nil) (Nat.le_of_ble_eq_true rfl)) (ej_tupD (ds := [x.d, y.d]) (ad_cons (ej_dat 1) (ad_cons (ej_dat 2) ad_nil)) (Nat.le_of_ble_eq_true rfl)) (by decide +kernel) nxy.okd.shaped (by decide +kernel)) ?_) (fun hn => ?_) (fun hn => ?_)
  · show (PyData.eqv x.d (.tuple [.str "nan"]) || (PyData.eqv y.d (.tuple [.str "nan"]) || false)) = _
    rw [eqv_nan, eqv_nan, Bool.or_false]
    cases x.isNan <;> cases y.isNan <;> rfl
  · have hy1 : y.isNan = true := by
      rcases of_decide_eq_true hn with hn | hn
      · exact leV_nan h hn
      · exact hn
    exact sj_ret (ej_eq G.hu (ej_dat (d := y.d) 2) (ej_tupD (ad_cons ej_str ad_nil) (Nat.le_of_ble_eq_true rfl)) ny.okd.shaped (by decide +kernel)) ⟨by rw [eqv_nan, hy1], rfl⟩
  · have hnn := of_decide_eq_false hn
    have hxn : x.isNan = false := by cases hh : x.isNan; rfl; exact absurd (.inl hh) hnn
    have hyn : y.isNan = false := by cases hh : y.isNan; rfl; exact absurd (.inr hh) hnn
    have eo : ordP b b x y = .int (ordI b b x y) := by unfold ordP; rw [if_neg hnn]
    refine sj_set 3 G.nd (ej_is (ej_call c_l_order (G.le (by decide)) (aj_cons (ej_dat 0) (aj_cons (ej_dat (d := x.d) 1) (aj_cons (ej_dat 0) (aj_cons (ej_dat (d := y.d) 2) aj_nil)))) (R_order.mk b p low high b p low high x y B F F hx.ok hy.ok)) eo) ?_
    have ho := leV_ord F hx hy hxn hyn h
    refine sj_ret (ej_or (x := decide (ordI b b x y < 0)) (y := true) (ej_lt (ej_dat 3) ej_int) fun h1 => ?_) ⟨by rw [Bool.or_true], rfl⟩
    have h1 := of_decide_eq_false h1
    obtain ⟨h2, h3⟩ : ordI b b x y = 0 ∧ y.sg ≤ x.sg := by rcases ho with z | z; exact absurd z h1; exact z
    exact ej_one (ej_is (ej_and (x := true) (y := true) (ej_is (ej_eqI G.hu (ej_dat 3) ej_int) (by rw [h2]; rfl)) fun _ => ej_one (ej_is (ej_ge (ej_at (ej_dat (d := .tuple x.l) 1) (at1 hxn)) (ej_at (ej_dat (d := .tuple y.l) 2) (at1 hyn))) (by rw [decide_eq_true h3]))) rfl)

abbrev s_law : Stmt := topS 46
theorem sc_law : FnScope ["_law_script", "_law_bag_here", "_law_form", "_law_other", "_law_values", "_law_others", "_law_both", "_law_x", "_law_y", "_law_due", "_law_told", "_law_some_here", "_law_said", "_law_one"] ["_law_script"] (defScope s_law) := ⟨rfl, rfl, rfl, by decide +kernel, rfl, by decide +kernel, by decide +kernel⟩

theorem ok_law {f : Addr} {fd : FuncData} /-H-/ (m_int : mg "int" = none) (m_tuple : mg "tuple" = none) (m_repr : mg "repr" = none) (m_isinstance : mg "isinstance" = none) (m_list : mg "list" = none) (m_len : mg "len" = none) (m_sorted : mg "sorted" = none) (m_zip : mg "zip" = none) (c_l_any_format : Cal P w K mg base "_law_any_format" 7 (R_fmt afV afB)) (c_l_number : Cal P w K mg base "_law_number" 6 (R_draw numV numB)) (c_l_number_of : Cal P w K mg base "_law_number_of" 8 R_numof) (c_l_worth : Cal P w K mg base "_law_worth" 7 R_worth) (c_l_order : Cal P w K mg base "_law_order" 8 R_order) (c_order_of : Cal P w K mg base "order_of" 7 R_order) (c_l_alike : Cal P w K mg base "_law_alike" 4 R_alike) (c_less : Cal P w K mg base "less" 8 (R_ordis (-1))) (c_same : Cal P w K mg base "same" 8 (R_ordis 0)) (c_l_bag : Cal P w K mg base "_law_bag" 4 R_bag) (c_l_some_values : CalX P w K mg base "_law_some_values" 10 Pre_sv Post_sv) (c_in_order : CalF P w K mg base "in_order" 7 R_inord) (c_l_stands_ahead : Cal P w K mg base "_law_stands_ahead" 9 R_stands) /-E-/
    (F : Fun K "law" "law" s_law f fd) : FnG P w K mg base 12 f fd ["_law_script"] (spLaw K) := by
  refine fnG_of F sc_law (by rintro vs H Q E ⟨a, ns, rfl, _⟩; rfl) fun cd0 A out s H vs Q E G hsp => ?_
  obtain ⟨a, ns, rfl, hS, hlen, q⟩ := hsp
  have Ev : EnvD K none H (L2.start ["_law_script", "_law_bag_here", "_law_form", "_law_other", "_law_values", "_law_others", "_law_both", "_law_x", "_law_y", "_law_due", "_law_told", "_law_some_here", "_law_said", "_law_one"] [.ref a]) ([.scr ns] ++ List.replicate (14 - 1) .no) := start_env (Γ := [.scr ns]) ⟨⟨a, rfl, hS⟩, trivial⟩ (Nat.le_of_ble_eq_true rfl)
  have O : On K none ⟨0, 0, 0, []⟩ H H := ⟨Same.refl _, fun _ _ z => nomatch z⟩
  refine sj_law 1 G.nd (y := 1234567891) (ns := (ns.take 63).map absI) (ej_call c_l_bag (G.le (by decide)) (aj_cons (ej_var 0 (d := .scr ns) rfl (fun z => nomatch z)) aj_nil) (R_bag.mk ns _ hlen)) ?_ (Ev := Ev) (O := O) (q := q)
  generalize hB0 : (⟨0, 1234567891, 0, (ns.take 63).map absI⟩ : Bag) = B0
  have okB : Bok B0 := by rw [← hB0]; show ((ns.take 63).map absI).length ≤ 63; rw [List.length_map, List.length_take]; omega
  clear hB0
  have F := afV_ok B0
  have ok1 := afB_ok okB
  have r1 := R_fmt.mk (f := afV) (g := afB) B0 okB
  generalize afV B0 = t at *
  generalize afB B0 = B1 at *
  obtain ⟨b, p, low, high⟩ := t
  have F : Fm b p low high := F
  have r1 : R_fmt afV afB [.bag] B0 (fmP b p low high) B1 := r1
  have F' := afV_ok B1
  have ok2 := afB_ok ok1
  have r2 := R_fmt.mk (f := afV) (g := afB) B1 ok1
  generalize afV B1 = t at *
  generalize afB B1 = B2 at *
  obtain ⟨b', p', low', high'⟩ := t
  have F' : Fm b' p' low' high' := F'
  have r2 : R_fmt afV afB [.bag] B1 (fmP b' p' low' high') B2 := r2
  refine sj_unpack [2, 3] G.calm (ej_tupD (ad_cons (ej_call c_l_any_format (G.le (by decide)) (aj_cons (ej_bag 1) aj_nil) (r1)) (ad_cons (ej_call c_l_any_format (G.le (by decide)) (aj_cons (ej_bag 1) aj_nil) (r2)) ad_nil)) (Nat.le_of_ble_eq_true rfl)) (pgs_cons (pgN 2 G.nd) (pgs_cons (pgN 3 G.nd) pgs_nil)) rfl ?_
  clear r1 r2
  refine sj_parX 4 5 G.nd G.calm (ax_cons (ex_call c_l_some_values (G.le (by decide)) (ax_bag 1 (ax_aj (aj_cons (ej_dat (d := fmP b p low high) 2) (aj_cons (ej_dat (d := fmP b' p' low' high') 3) aj_nil)) ⟨⟨_, _, _, _, _, _, _, _, rfl, F, F', ok2⟩, fun y1 B3 hp1 => ax_one (ex_call c_l_some_values (G.le (by decide)) (ax_bag 1 (ax_aj (aj_cons (ej_dat (d := fmP b' p' low' high') 3) (aj_cons (ej_dat (d := fmP b p low high) 2) aj_nil)) ⟨⟨_, _, _, _, _, _, _, _, rfl, F', F, hp1.1⟩, fun y2 B4 hp2 => ⟨_, _, rfl, ?_⟩⟩)))⟩)))) (by decide) (by rfl)
  obtain ⟨ok3, h1⟩ := hp1
  obtain ⟨ok4, h2⟩ := hp2
  obtain ⟨LV, rfl, hlv, hV⟩ := h1 _ _ _ _ _ _ _ _ rfl
  obtain ⟨LO, rfl, hlo, hO⟩ := h2 _ _ _ _ _ _ _ _ rfl
  clear h1 h2
  obtain ⟨s, c, e, en, hvn⟩ := numV_numC F' B4
  have rn := R_draw.mk (f := numV) (g := numB) b' p' low' high' B4 F' ok4
  rw [en] at rn
  have ok5 := numB_ok (b := b') (p := p') (low := low') (high := high') ok4
  generalize numB b' p' low' high' B4 = B5 at *
  refine sj_set 6 G.nd (d := .da (Va.num s c e).d) (ej_call c_l_number (G.le (by decide)) (aj_cons (ej_bag 1) (aj_cons (ej_dat (d := fmP b' p' low' high') 3) aj_nil)) (rn)) ?_
  have wz := F'.wz hvn.ok
  refine sj_set 7 G.nd (d := .da (numofP b p low high ((Va.num s c e).wQ b'))) (ej_call c_l_number_of (G.le (by decide)) (aj_cons (ej_dat (d := fmP b p low high) 2) (aj_cons (ej_call c_l_worth (G.le (by decide)) (aj_cons (ej_dat (d := fmP b' p' low' high') 3) (aj_cons (ej_dat (d := (Va.num s c e).d) 6) aj_nil)) (R_worth.mk b' p' low' high' s c e B5 F' hvn.ok)) aj_nil)) (R_numof.mk b p low high _ 3040 2341 B5 F wz (by decide) (by decide))) ?_
  obtain ⟨x0, hx, L1, eL1, hl1, hv1⟩ : ∃ x : PyData, numofP b p low high ((Va.num s c e).wQ b') = x ∧ ∃ L1 : List Va, (if (!isNone x) = true then [x] else []) = L1.map Va.d ∧ L1.length ≤ 1 ∧ ∀ v ∈ L1, Vcan b p low high v := by
    rcases numof_va F ((Va.num s c e).wQ b') with h | ⟨s1, c1, e1, h, h2⟩
    · exact ⟨_, rfl, [], by rw [h]; rfl, by decide, fun _ h => nomatch h⟩
    · exact ⟨_, rfl, [.num s1 c1 e1], by rw [h]; rfl, Nat.le_refl _, fun v hv => by rw [List.mem_singleton.mp hv]; exact h2⟩
  rw [hx]
  clear hx rn en wz
  refine sj_par 4 5 G.nd G.calm (d1 := .da (.list ((L1 ++ LV).map Va.d))) (d2 := .da (.list ((Va.num s c e :: LO).map Va.d))) (aj_cons (ej_is (ej_catL (ej_repL01 (ds := [x0]) (k := !isNone x0) (ej_lstD (ad_cons (ej_dat (d := x0) 7) ad_nil) (Nat.le_of_ble_eq_true rfl)) (ej_intB m_int (ej_isnotN (ej_dat (d := x0) 7))) (by cases isNone x0 <;> rfl) (Nat.le_of_ble_eq_true rfl)) (ej_dat (d := .list (LV.map Va.d)) 4) (by rw [List.length_map]; split <;> simp <;> omega)) (by rw [eL1, List.map_append])) (aj_cons (ej_is (ej_catL (ej_lstD (ad_cons (ej_dat (d := (Va.num s c e).d) 6) ad_nil) (Nat.le_of_ble_eq_true rfl)) (ej_dat (d := .list (LO.map Va.d)) 5) (by simp; omega)) rfl) aj_nil)) ?_ (by decide) (by rfl)
  obtain ⟨V, eV, hVl, hVc⟩ : ∃ V, L1 ++ LV = V ∧ V.length ≤ 11 ∧ ∀ v ∈ V, Vcan b p low high v := ⟨_, rfl, by rw [List.length_append]; omega, fun v h => by
    rcases List.mem_append.mp h with h | h
    · exact hv1 v h
    · exact hV v h⟩
  obtain ⟨O, eO, hOl, hOc⟩ : ∃ O, Va.num s c e :: LO = O ∧ O.length ≤ 11 ∧ ∀ v ∈ O, Vcan b' p' low' high' v := ⟨_, rfl, by rw [List.length_cons]; omega, fun v h => by
    rcases List.mem_cons.mp h with rfl | h
    · exact hvn
    · exact hO v h⟩
  rw [eV, eO]
  clear eV eO eL1 hv1 hV hO
  have cut4 : ∀ L : List Va, cutP (L.map Va.d) none (some 4) = (L.take 4).map Va.d := fun L => by
    by_cases h : 4 ≤ L.length
    · rw [show ((4 : Int) = ((4 : Nat) : Int)) from rfl, cutN _ 4 (by rw [List.length_map]; exact h), List.map_take]
    · exact cut_all L h
  refine sj_forL (ds := V.map Va.d) 7 G.nd G.calm (fun i Γ' B' => (∃ g6 g7 g8 g9 g10, Γ' = [.no, .bag, .da (fmP b p low high), .da (fmP b' p' low' high'), .da (.list (V.map Va.d)), .da (.list (O.map Va.d)), g6, g7, g8, g9, g10, .no, .no, .no]) ∧ B' = B5) (ej_dat (d := .list (V.map Va.d)) 4) ⟨⟨_, _, _, _, _, rfl⟩, rfl⟩ (fun i yy Γ' B' hi hP => ?_) (fun Γ' B' hP => ?_)
  · obtain ⟨⟨g6, g7, g8, g9, g10, rfl⟩, rfl⟩ := hP
    rw [List.getElem?_map] at hi
    obtain ⟨x, hx, rfl⟩ := Option.map_eq_some_iff.mp hi
    have hx := hVc x (List.mem_of_getElem? hx)
    clear hi
    refine sj_forL (ds := (O.take 4).map Va.d) 8 G.nd G.calm (fun i Γ' B2 => (∃ g8 g9 g10, Γ' = [.no, .bag, .da (fmP b p low high), .da (fmP b' p' low' high'), .da (.list (V.map Va.d)), .da (.list (O.map Va.d)), g6, .da x.d, g8, g9, g10, .no, .no, .no]) ∧ B2 = B') (ej_is (ej_sliceL (ej_dat (d := .list (O.map Va.d)) 5) oj_none (oj_some ej_int)) (congrArg PyData.list (cut4 O))) ⟨⟨_, _, _, rfl⟩, rfl⟩ (fun i yy Γ' B2 hi hP => ?_) (fun Γ' B2 hP => ?_)
    · obtain ⟨⟨g8, g9, g10, rfl⟩, rfl⟩ := hP
      rw [List.getElem?_map] at hi
      obtain ⟨y, hy, rfl⟩ := Option.map_eq_some_iff.mp hi
      have hy := hOc y (List.mem_of_mem_take (List.mem_of_getElem? hy))
      clear hi
      have nl : Okd (.list [ordP b b' x y, ordP b' b y x]) := two_okd (ord_nd _ _ _ _) (ord_nd _ _ _ _)
      refine sj_set 9 G.nd (d := .da (ordP b b' x y)) (ej_call c_l_order (G.le (by decide)) (aj_cons (ej_dat (d := fmP b p low high) 2) (aj_cons (ej_dat (d := x.d) 7) (aj_cons (ej_dat (d := fmP b' p' low' high') 3) (aj_cons (ej_dat (d := y.d) 8) aj_nil)))) (R_order.mk b p low high b' p' low' high' x y B2 F F' hx.ok hy.ok)) ?_
      refine sj_set 10 G.nd (d := .da (.list [ordP b b' x y, ordP b' b y x])) (ej_lstD (ad_cons (ej_call c_order_of (G.le (by decide)) (aj_cons (ej_dat (d := fmP b p low high) 2) (aj_cons (ej_dat (d := x.d) 7) (aj_cons (ej_dat (d := fmP b' p' low' high') 3) (aj_cons (ej_dat (d := y.d) 8) aj_nil)))) (R_order.mk b p low high b' p' low' high' x y B2 F F' hx.ok hy.ok)) (ad_cons (ej_call c_order_of (G.le (by decide)) (aj_cons (ej_dat (d := fmP b' p' low' high') 3) (aj_cons (ej_dat (d := y.d) 8) (aj_cons (ej_dat (d := fmP b p low high) 2) (aj_cons (ej_dat (d := x.d) 7) aj_nil)))) (R_order.mk b' p' low' high' b p low high y x B2 F' F hy.ok hx.ok)) ad_nil)) (Nat.le_of_ble_eq_true rfl)) ?_
      exact sj_when (x := false) (tj_is (tj_not (tj_val (ej_call c_l_alike (G.le (by decide)) (aj_cons (ej_dat (d := .list [ordP b b' x y, ordP b' b y x]) 10) (aj_cons (ej_lstD (ad_cons (ej_dat (d := ordP b b' x y) 9) (ad_cons (ej_if (x := isNone (ordP b b' x y)) (tj_isN (ej_dat (d := ordP b b' x y) 9)) (fun h => ej_is ej_non (ordP_non h).symm) (fun h => ej_is (ej_neg (ej_is (ej_dat (d := ordP b b' x y) 9) (ordP_int h))) (ordP_opp h))) ad_nil)) (Nat.le_of_ble_eq_true rfl)) aj_nil)) (R_alike.mk _ _ nl rfl)))) rfl) (fun h => Bool.noConfusion h) (fun _ => sj_nil ⟨⟨_, _, _, rfl⟩, rfl⟩)
    · obtain ⟨⟨g8, g9, g10, rfl⟩, rfl⟩ := hP
      refine sj_forL (ds := (V.take 4).map Va.d) 8 G.nd G.calm (fun i Γ' B3 => (∃ g8 g9 g10, Γ' = [.no, .bag, .da (fmP b p low high), .da (fmP b' p' low' high'), .da (.list (V.map Va.d)), .da (.list (O.map Va.d)), g6, .da x.d, g8, g9, g10, .no, .no, .no]) ∧ B3 = B2) (ej_is (ej_sliceL (ej_dat (d := .list (V.map Va.d)) 4) oj_none (oj_some ej_int)) (congrArg PyData.list (cut4 V))) ⟨⟨_, _, _, rfl⟩, rfl⟩ (fun i yy Γ' B3 hi hP => ?_) (fun Γ' B3 hP => ?_)
      · obtain ⟨⟨g8, g9, g10, rfl⟩, rfl⟩ := hP
        rw [List.getElem?_map] at hi
        obtain ⟨y, hy, rfl⟩ := Option.map_eq_some_iff.mp hi
        have hy := hVc y (List.mem_of_mem_take (List.mem_of_getElem? hy))
        clear hi
        have nl : Okd (.list [.bool (PyData.eqv (ordP b b x y) (.int (-1))), .bool (PyData.eqv (ordP b b x y) (.int 0))]) := two_okd Nd.bool Nd.bool
        refine sj_set 9 G.nd (d := .da (ordP b b x y)) (ej_call c_l_order (G.le (by decide)) (aj_cons (ej_dat (d := fmP b p low high) 2) (aj_cons (ej_dat (d := x.d) 7) (aj_cons (ej_dat (d := fmP b p low high) 2) (aj_cons (ej_dat (d := y.d) 8) aj_nil)))) (R_order.mk b p low high b p low high x y B3 F F hx.ok hy.ok)) ?_
        exact sj_when (x := false) (tj_is (tj_not (tj_val (ej_call c_l_alike (G.le (by decide)) (aj_cons (ej_lstD (ad_cons (ej_call c_less (G.le (by decide)) (aj_cons (ej_dat (d := fmP b p low high) 2) (aj_cons (ej_dat (d := x.d) 7) (aj_cons (ej_dat (d := y.d) 8) aj_nil))) (R_ordis.mk b p low high x y B3 F hx.ok hy.ok)) (ad_cons (ej_call c_same (G.le (by decide)) (aj_cons (ej_dat (d := fmP b p low high) 2) (aj_cons (ej_dat (d := x.d) 7) (aj_cons (ej_dat (d := y.d) 8) aj_nil))) (R_ordis.mk b p low high x y B3 F hx.ok hy.ok)) ad_nil)) (Nat.le_of_ble_eq_true rfl)) (aj_cons (ej_lstD (ad_cons (ej_eq G.hu (ej_dat (d := ordP b b x y) 9) (ej_neg ej_int) (ord_shaped _ _ _ _) rfl) (ad_cons (ej_eq G.hu (ej_dat (d := ordP b b x y) 9) ej_int (ord_shaped _ _ _ _) rfl) ad_nil)) (Nat.le_of_ble_eq_true rfl)) aj_nil)) (R_alike.mk _ _ nl rfl)))) rfl) (fun h => Bool.noConfusion h) (fun _ => sj_nil ⟨⟨_, _, _, rfl⟩, rfl⟩)
      · obtain ⟨⟨g8, g9, g10, rfl⟩, rfl⟩ := hP
        exact sj_nil ⟨⟨_, _, _, _, _, rfl⟩, rfl⟩
  · obtain ⟨⟨g6, g7, g8, g9, g10, rfl⟩, rfl⟩ := hP
    refine sj_forT (ds := [.list (V.map Va.d), .tuple (V.map Va.d), .list []]) 11 G.nd G.calm (fun i Γ' B2 => (∃ g10 g11 g12, Γ' = [.no, .bag, .da (fmP b p low high), .da (fmP b' p' low' high'), .da (.list (V.map Va.d)), .da (.list (O.map Va.d)), g6, g7, g8, g9, g10, g11, g12, .no]) ∧ B2 = B') (ej_tupD (ad_cons (ej_dat (d := .list (V.map Va.d)) 4) (ad_cons (ej_tupleL m_tuple (ej_dat (d := .list (V.map Va.d)) 4)) (ad_cons (ej_lstD ad_nil (Nat.le_of_ble_eq_true rfl)) ad_nil))) (Nat.le_of_ble_eq_true rfl)) ⟨⟨_, _, _, rfl⟩, rfl⟩ (fun i yy Γ' B2 hi hP => ?_) (fun Γ' B2 hP => ?_)
    · obtain ⟨⟨g10, g11, g12, rfl⟩, rfl⟩ := hP
      obtain ⟨tl, W, rfl, hW, hWc⟩ : ∃ (tl : Bool) (W : List Va), yy = (if tl = true then .list (W.map Va.d) else .tuple (W.map Va.d)) ∧ W.length ≤ 11 ∧ ∀ v ∈ W, Vcan b p low high v := by
        match i, hi with
        | 0, hi => injection hi with hi; exact ⟨true, V, hi.symm, hVl, hVc⟩
        | 1, hi => injection hi with hi; exact ⟨false, V, hi.symm, hVl, hVc⟩
        | 2, hi => injection hi with hi; exact ⟨true, [], hi.symm, by decide, fun _ h => nomatch h⟩
      clear hi
      have hIc : ∀ v ∈ inoV W, Vcan b p low high v := fun v h => hWc v ((ino_perm W).mem_iff.mp h)
      have hIl : (inoV W).length ≤ 11 := by rw [ino_len]; exact hW
      have oL : Okd (.list (W.map Va.d)) := vas_okd F (by omega) (fun v hv => (hWc v hv).ok) true
      have oT : Okd (.tuple (W.map Va.d)) := vas_okd F (by omega) (fun v hv => (hWc v hv).ok) false
      have sh1 := shown_shaped (L := outT ((inoV W).map fun v => v.d.shown)) (fun x hx => by
        obtain ⟨v, hv, rfl⟩ := List.mem_map.mp ((outT_perm _).mem_iff.mp hx)
        exact va_strOk (va_sg (hIc v hv)))
      have sh2 := shown_shaped (L := outT (W.map fun v => v.d.shown)) (fun x hx => by
        obtain ⟨v, hv, rfl⟩ := List.mem_map.mp ((outT_perm _).mem_iff.mp hx)
        exact va_strOk (va_sg (hWc v hv)))
      have eO : outT ((inoV W).map fun v => v.d.shown) = outT (W.map fun v => v.d.shown) := outT_eq ((ino_perm W).map _)
      have one : ∀ v : Va, Vcan b p low high v → Okd v.d := fun v hv => (va_nd F hv.ok).okd
      have e1 : cutP ((inoV W).map Va.d) (some 1) none = ((inoV W).drop 1).map Va.d := by rw [cut1, List.map_drop]
      cases tl with
      | true =>
        refine sj_set 12 G.nd (d := .da (.str (PyData.list (W.map Va.d)).shown)) (ej_repr G m_repr (ej_dat (d := PyData.list (W.map Va.d)) 11) rfl oL.shows) ?_
        refine sj_own2 10 G.nd (fj2_call c_in_order (G.le (by decide)) (aj_cons (ej_dat (d := fmP b p low high) 2) (aj_cons (ej_dat (d := PyData.list (W.map Va.d)) 11) aj_nil)) (R_inord.mk b p low high true W B2 (by omega))) (Nat.le_of_ble_eq_true rfl) ?_
        refine ow_ifO (x := false) (fun Γ' B3 acc => Γ' = [.no, .bag, .da (fmP b p low high), .da (fmP b' p' low' high'), .da (.list (V.map Va.d)), .da (.list (O.map Va.d)), g6, g7, g8, g9, .no, .da (PyData.list (W.map Va.d)), .da (.str (PyData.list (W.map Va.d)).shown), .no] ∧ B3 = B2 ∧ acc = (inoV W).map Va.d) (tj_w (wj_or (x := false) (tj_is (tj_not (tj_val (ej_isi (T := "list") (r := true) m_isinstance m_list (ej_dat (d := .list ((inoV W).map Va.d)) 10)))) rfl) fun _ => wj_or (x := false) (y := false) (tj_is (tj_neI G.hu (ej_lenL m_len (ej_dat (d := .list ((inoV W).map Va.d)) 10)) (ej_lenL m_len (ej_dat (d := PyData.list (W.map Va.d)) 11))) (by rw [List.length_map, List.length_map, ino_len, decide_eq_true rfl]; rfl)) fun _ => wj_or1 (tj_is (tj_neS (ej_repr G m_repr (ej_dat (d := PyData.list (W.map Va.d)) 11) rfl oL.shows) (ej_dat (d := .str (PyData.list (W.map Va.d)).shown) 12)) (by rw [decide_eq_true rfl]; rfl)))) (fun h => Bool.noConfusion h) (fun _ => ow_nil ⟨rfl, rfl, rfl⟩) (fun Γ' B3 acc hM => ?_)
        obtain ⟨rfl, rfl, rfl⟩ := hM
        refine ow_ifO (x := false) (fun Γ' B4 acc => Γ' = [.no, .bag, .da (fmP b p low high), .da (fmP b' p' low' high'), .da (.list (V.map Va.d)), .da (.list (O.map Va.d)), g6, g7, g8, g9, .no, .da (PyData.list (W.map Va.d)), .da (.str (PyData.list (W.map Va.d)).shown), .no] ∧ B4 = B3 ∧ acc = (inoV W).map Va.d) (tj_is (tj_ne G.hu (ej_sortedLS (xs := (inoV W).map fun v => v.d.shown) m_sorted (ej_is (ej_lc (x := "_law_one") (j := 13) G.nd G.calm (blkOk_by (N := ["_law_script", "_law_bag_here", "_law_form", "_law_other", "_law_values", "_law_others", "_law_both", "_law_x", "_law_y", "_law_due", "_law_told", "_law_some_here", "_law_said", "_law_one"]) (sc := defScope s_law) (by decide +kernel)) (fun _ _ _ _ _ => pg_name (i := 13) G.nd rfl (Or.inl rfl)) (rj_mapL (inoV W) Va.d (fun v => .str v.d.shown) (ej_dat (d := .list ((inoV W).map Va.d)) 10) (by omega) (fun v hv s0 H0 C cl fp => ej_repr (k := 8) ⟨G.gd, G.rm.mono (by decide), G.nd, G.calm⟩ m_repr (ej_dat (d := v.d) 13) rfl (one v (hIc v hv)).shows))) (by rw [List.map_map]; rfl)) (by rw [List.length_map]; omega)) (ej_sortedLS (xs := W.map fun v => v.d.shown) m_sorted (ej_is (ej_lc (x := "_law_one") (j := 13) G.nd G.calm (blkOk_by (N := ["_law_script", "_law_bag_here", "_law_form", "_law_other", "_law_values", "_law_others", "_law_both", "_law_x", "_law_y", "_law_due", "_law_told", "_law_some_here", "_law_said", "_law_one"]) (sc := defScope s_law) (by decide +kernel)) (fun _ _ _ _ _ => pg_name (i := 13) G.nd rfl (Or.inl rfl)) (rj_mapL W Va.d (fun v => .str v.d.shown) (ej_dat (d := PyData.list (W.map Va.d)) 11) (by omega) (fun v hv s0 H0 C cl fp => ej_repr (k := 8) ⟨G.gd, G.rm.mono (by decide), G.nd, G.calm⟩ m_repr (ej_dat (d := v.d) 13) rfl (one v (hWc v hv)).shows))) (by rw [List.map_map]; rfl)) (by rw [List.length_map]; omega)) sh1 sh2) (by rw [eO, eqv_refl_of sh2]; rfl)) (fun h => Bool.noConfusion h) (fun _ => ow_nil ⟨rfl, rfl, rfl⟩) (fun Γ' B4 acc hM => ?_)
        obtain ⟨rfl, rfl, rfl⟩ := hM
        refine ow_ifO (x := false) (fun Γ' B5 acc => Γ' = [.no, .bag, .da (fmP b p low high), .da (fmP b' p' low' high'), .da (.list (V.map Va.d)), .da (.list (O.map Va.d)), g6, g7, g8, g9, .no, .da (PyData.list (W.map Va.d)), .da (.str (PyData.list (W.map Va.d)).shown), .no] ∧ B5 = B4 ∧ acc = (inoV W).map Va.d) (tj_neLE (ds := []) G.hu (ej_lcFZ (j1 := 7) (j2 := 8) (x1 := "_law_x") (x2 := "_law_y") G.nd G.calm m_zip (blkOk_by (N := ["_law_script", "_law_bag_here", "_law_form", "_law_other", "_law_values", "_law_others", "_law_both", "_law_x", "_law_y", "_law_due", "_law_told", "_law_some_here", "_law_said", "_law_one"]) (sc := defScope s_law) (by decide +kernel)) (fun _ _ _ _ _ => pg_tup G.calm (pgs_cons (pg_name (i := 7) G.nd rfl (Or.inl rfl)) (pgs_cons (pg_name (i := 8) G.nd rfl (Or.inl rfl)) pgs_nil))) (rj_lcZF0 (ds := (inoV W).map Va.d) (es := ((inoV W).drop 1).map Va.d) (by decide) (aj_cons (ej_dat (d := .list ((inoV W).map Va.d)) 10) (aj_cons (ej_is (ej_sliceL (ej_dat (d := .list ((inoV W).map Va.d)) 10) (oj_some ej_int) oj_none) (congrArg PyData.list e1)) aj_nil)) (by rw [List.length_map, List.length_map, List.length_drop]; omega) (fun i dx dy hdx hdy => ?_))) (ej_lstD ad_nil (Nat.le_of_ble_eq_true rfl))) (fun h => Bool.noConfusion h) (fun _ => ow_nil ⟨rfl, rfl, rfl⟩) (fun Γ' B5 acc hM => ?_)
        · rw [List.getElem?_map] at hdx hdy
          obtain ⟨x, hx, rfl⟩ := Option.map_eq_some_iff.mp hdx
          obtain ⟨y, hy, rfl⟩ := Option.map_eq_some_iff.mp hdy
          have hle := ino_next hx hy
          have hx := hIc x (List.mem_of_getElem? hx)
          have hy := hIc y (List.mem_of_mem_drop (List.mem_of_getElem? hy))
          intro s0 H0 C cl fp
          exact tj_is (tj_not (tj_val (ej_call c_l_stands_ahead ⟨G.gd, G.rm.mono (by decide), G.nd, G.calm⟩ (aj_cons (ej_dat (d := fmP b p low high) 2) (aj_cons (ej_dat (d := x.d) 7) (aj_cons (ej_dat (d := y.d) 8) aj_nil))) (R_stands.mk b p low high x y B4 F hx hy hle)))) rfl
        obtain ⟨rfl, rfl, rfl⟩ := hM
        refine ow_app G.nd (y := .none) ej_non (by rw [List.length_map]; omega) ?_
        refine ow_ifO (x := false) (fun Γ' B6 acc => Γ' = [.no, .bag, .da (fmP b p low high), .da (fmP b' p' low' high'), .da (.list (V.map Va.d)), .da (.list (O.map Va.d)), g6, g7, g8, g9, .no, .da (PyData.list (W.map Va.d)), .da (.str (PyData.list (W.map Va.d)).shown), .no] ∧ B6 = B5) (tj_is (tj_neS (ej_repr G m_repr (ej_dat (d := PyData.list (W.map Va.d)) 11) rfl oL.shows) (ej_dat (d := .str (PyData.list (W.map Va.d)).shown) 12)) (by rw [decide_eq_true rfl]; rfl)) (fun h => Bool.noConfusion h) (fun _ => ow_nil ⟨rfl, rfl⟩) (fun Γ' B6 acc hM => ?_)
        obtain ⟨rfl, rfl⟩ := hM
        exact ow_nil ⟨⟨_, _, _, rfl⟩, rfl⟩
      | false =>
        refine sj_set 12 G.nd (d := .da (.str (PyData.tuple (W.map Va.d)).shown)) (ej_repr G m_repr (ej_dat (d := PyData.tuple (W.map Va.d)) 11) rfl oT.shows) ?_
        refine sj_own2 10 G.nd (fj2_call c_in_order (G.le (by decide)) (aj_cons (ej_dat (d := fmP b p low high) 2) (aj_cons (ej_dat (d := PyData.tuple (W.map Va.d)) 11) aj_nil)) (R_inord.mk b p low high false W B2 (by omega))) (Nat.le_of_ble_eq_true rfl) ?_
        refine ow_ifO (x := false) (fun Γ' B3 acc => Γ' = [.no, .bag, .da (fmP b p low high), .da (fmP b' p' low' high'), .da (.list (V.map Va.d)), .da (.list (O.map Va.d)), g6, g7, g8, g9, .no, .da (PyData.tuple (W.map Va.d)), .da (.str (PyData.tuple (W.map Va.d)).shown), .no] ∧ B3 = B2 ∧ acc = (inoV W).map Va.d) (tj_w (wj_or (x := false) (tj_is (tj_not (tj_val (ej_isi (T := "list") (r := true) m_isinstance m_list (ej_dat (d := .list ((inoV W).map Va.d)) 10)))) rfl) fun _ => wj_or (x := false) (y := false) (tj_is (tj_neI G.hu (ej_lenL m_len (ej_dat (d := .list ((inoV W).map Va.d)) 10)) (ej_lenT m_len (ej_dat (d := PyData.tuple (W.map Va.d)) 11))) (by rw [List.length_map, List.length_map, ino_len, decide_eq_true rfl]; rfl)) fun _ => wj_or1 (tj_is (tj_neS (ej_repr G m_repr (ej_dat (d := PyData.tuple (W.map Va.d)) 11) rfl oT.shows) (ej_dat (d := .str (PyData.tuple (W.map Va.d)).shown) 12)) (by rw [decide_eq_true rfl]; rfl)))) (fun h => Bool.noConfusion h) (fun _ => ow_nil ⟨rfl, rfl, rfl⟩) (fun Γ' B3 acc hM => ?_)
        obtain ⟨rfl, rfl, rfl⟩ := hM
        refine ow_ifO (x := false) (fun Γ' B4 acc => Γ' = [.no, .bag, .da (fmP b p low high), .da (fmP b' p' low' high'), .da (.list (V.map Va.d)), .da (.list (O.map Va.d)), g6, g7, g8, g9, .no, .da (PyData.tuple (W.map Va.d)), .da (.str (PyData.tuple (W.map Va.d)).shown), .no] ∧ B4 = B3 ∧ acc = (inoV W).map Va.d) (tj_is (tj_ne G.hu (ej_sortedLS (xs := (inoV W).map fun v => v.d.shown) m_sorted (ej_is (ej_lc (x := "_law_one") (j := 13) G.nd G.calm (blkOk_by (N := ["_law_script", "_law_bag_here", "_law_form", "_law_other", "_law_values", "_law_others", "_law_both", "_law_x", "_law_y", "_law_due", "_law_told", "_law_some_here", "_law_said", "_law_one"]) (sc := defScope s_law) (by decide +kernel)) (fun _ _ _ _ _ => pg_name (i := 13) G.nd rfl (Or.inl rfl)) (rj_mapL (inoV W) Va.d (fun v => .str v.d.shown) (ej_dat (d := .list ((inoV W).map Va.d)) 10) (by omega) (fun v hv s0 H0 C cl fp => ej_repr (k := 8) ⟨G.gd, G.rm.mono (by decide), G.nd, G.calm⟩ m_repr (ej_dat (d := v.d) 13) rfl (one v (hIc v hv)).shows))) (by rw [List.map_map]; rfl)) (by rw [List.length_map]; omega)) (ej_sortedLS (xs := W.map fun v => v.d.shown) m_sorted (ej_is (ej_lcT (x := "_law_one") (j := 13) G.nd G.calm (blkOk_by (N := ["_law_script", "_law_bag_here", "_law_form", "_law_other", "_law_values", "_law_others", "_law_both", "_law_x", "_law_y", "_law_due", "_law_told", "_law_some_here", "_law_said", "_law_one"]) (sc := defScope s_law) (by decide +kernel)) (fun _ _ _ _ _ => pg_name (i := 13) G.nd rfl (Or.inl rfl)) (rj_mapT W Va.d (fun v => .str v.d.shown) (ej_dat (d := PyData.tuple (W.map Va.d)) 11) (by omega) (fun v hv s0 H0 C cl fp => ej_repr (k := 8) ⟨G.gd, G.rm.mono (by decide), G.nd, G.calm⟩ m_repr (ej_dat (d := v.d) 13) rfl (one v (hWc v hv)).shows))) (by rw [List.map_map]; rfl)) (by rw [List.length_map]; omega)) sh1 sh2) (by rw [eO, eqv_refl_of sh2]; rfl)) (fun h => Bool.noConfusion h) (fun _ => ow_nil ⟨rfl, rfl, rfl⟩) (fun Γ' B4 acc hM => ?_)
        obtain ⟨rfl, rfl, rfl⟩ := hM
        refine ow_ifO (x := false) (fun Γ' B5 acc => Γ' = [.no, .bag, .da (fmP b p low high), .da (fmP b' p' low' high'), .da (.list (V.map Va.d)), .da (.list (O.map Va.d)), g6, g7, g8, g9, .no, .da (PyData.tuple (W.map Va.d)), .da (.str (PyData.tuple (W.map Va.d)).shown), .no] ∧ B5 = B4 ∧ acc = (inoV W).map Va.d) (tj_neLE (ds := []) G.hu (ej_lcFZ (j1 := 7) (j2 := 8) (x1 := "_law_x") (x2 := "_law_y") G.nd G.calm m_zip (blkOk_by (N := ["_law_script", "_law_bag_here", "_law_form", "_law_other", "_law_values", "_law_others", "_law_both", "_law_x", "_law_y", "_law_due", "_law_told", "_law_some_here", "_law_said", "_law_one"]) (sc := defScope s_law) (by decide +kernel)) (fun _ _ _ _ _ => pg_tup G.calm (pgs_cons (pg_name (i := 7) G.nd rfl (Or.inl rfl)) (pgs_cons (pg_name (i := 8) G.nd rfl (Or.inl rfl)) pgs_nil))) (rj_lcZF0 (ds := (inoV W).map Va.d) (es := ((inoV W).drop 1).map Va.d) (by decide) (aj_cons (ej_dat (d := .list ((inoV W).map Va.d)) 10) (aj_cons (ej_is (ej_sliceL (ej_dat (d := .list ((inoV W).map Va.d)) 10) (oj_some ej_int) oj_none) (congrArg PyData.list e1)) aj_nil)) (by rw [List.length_map, List.length_map, List.length_drop]; omega) (fun i dx dy hdx hdy => ?_))) (ej_lstD ad_nil (Nat.le_of_ble_eq_true rfl))) (fun h => Bool.noConfusion h) (fun _ => ow_nil ⟨rfl, rfl, rfl⟩) (fun Γ' B5 acc hM => ?_)
        · rw [List.getElem?_map] at hdx hdy
          obtain ⟨x, hx, rfl⟩ := Option.map_eq_some_iff.mp hdx
          obtain ⟨y, hy, rfl⟩ := Option.map_eq_some_iff.mp hdy
          have hle := ino_next hx hy
          have hx := hIc x (List.mem_of_getElem? hx)
          have hy := hIc y (List.mem_of_mem_drop (List.mem_of_getElem? hy))
          intro s0 H0 C cl fp
          exact tj_is (tj_not (tj_val (ej_call c_l_stands_ahead ⟨G.gd, G.rm.mono (by decide), G.nd, G.calm⟩ (aj_cons (ej_dat (d := fmP b p low high) 2) (aj_cons (ej_dat (d := x.d) 7) (aj_cons (ej_dat (d := y.d) 8) aj_nil))) (R_stands.mk b p low high x y B4 F hx hy hle)))) rfl
        obtain ⟨rfl, rfl, rfl⟩ := hM
        refine ow_app G.nd (y := .none) ej_non (by rw [List.length_map]; omega) ?_
        refine ow_ifO (x := false) (fun Γ' B6 acc => Γ' = [.no, .bag, .da (fmP b p low high), .da (fmP b' p' low' high'), .da (.list (V.map Va.d)), .da (.list (O.map Va.d)), g6, g7, g8, g9, .no, .da (PyData.tuple (W.map Va.d)), .da (.str (PyData.tuple (W.map Va.d)).shown), .no] ∧ B6 = B5) (tj_is (tj_neS (ej_repr G m_repr (ej_dat (d := PyData.tuple (W.map Va.d)) 11) rfl oT.shows) (ej_dat (d := .str (PyData.tuple (W.map Va.d)).shown) 12)) (by rw [decide_eq_true rfl]; rfl)) (fun h => Bool.noConfusion h) (fun _ => ow_nil ⟨rfl, rfl⟩) (fun Γ' B6 acc hM => ?_)
        obtain ⟨rfl, rfl⟩ := hM
        exact ow_nil ⟨⟨_, _, _, rfl⟩, rfl⟩
    · obtain ⟨⟨g10, g11, g12, rfl⟩, rfl⟩ := hP
      exact sj_ret ej_bl rfl

end K07
namespace Gd
open PySem PySem.Spec PyProof.Rows L2
theorem bltB_ok {K : PySem.W.Frag} {h : Heap} {mg : Str → Option Value} {x : Str} {b : String} (X : K.In h) (G : h.Ns mainGlobals mg) (c : bltB K x b = true) : mg x = some (.builtin b) :=
  PySem.W.mg_of X G (He.eqO_ok c)
theorem ckM_blt {gl : List (Str × PyData)} {bl : List (Str × String)} {K : PySem.W.Frag} {h : Heap} {mg : Str → Option Value} {x : Str} {b : String} (X : K.In h) (G : h.Ns mainGlobals mg) (c : ckM gl bl K = true) (i : Nat) (e : bl[i]? = some (x, b)) : mg x = some (.builtin b) := by
  have c' : (gl.all (fun p => globB K p.1 p.2) && bl.all (fun p => bltB K p.1 p.2)) = true := c
  rw [Bool.and_eq_true] at c'
  exact bltB_ok X G (List.all_eq_true.1 c'.2 _ (List.mem_of_getElem? e))
theorem obM_eq {fa : List He.Fa} {fn : List He.DefD} {ck : PySem.W.Frag → Bool} (s : PySem.W.SharedT) : obM fa fn ck s = (hkM fa fn ck).obs s.abs := by
  have e : HandSHeadRun.getT s = s.abs.heap.get? := funext (HandSHeadRun.getT_eq s)
  unfold obM hkM
  rw [e]
theorem defD_at {K : PySem.W.Frag} {h : Heap} {mg : Str → Option Value} {fa : List He.Fa} {fn : List He.DefD} (X : K.In h) (G : h.Ns mainGlobals mg) (c : He.SaysD fa fn K) {y x : Str} {st : Stmt} (i : Nat) (e : fn[i]? = some (dfD y x st)) (ef : fa[i]? = some (.glo y)) :
    ∃ (f : Addr) (oc : Value) (od an : Option Addr) (osl : Array (Option Value)) (kV doc pm cdv ct : Value), PySem.W.nsIn K mainGlobals y = some (some (.ref f)) ∧
      K.lookup f = some ⟨oc, od, .func (PySem.W.fnOf x x (defArgs st) (defBody st) (defScope st) .none kV doc pm an cdv ct), osl⟩ ∧ PySem.W.codeIn K cdv x = true ∧ PySem.W.keepIn K (.ref f) = true := by
  have g := He.eqO_ok (c.fact i (f := .glo y) ef)
  obtain ⟨fd, ⟨oc, od, dV, kV, doc, pm, an, cdv, ct, osl, e1, e2, e3, e4, e5⟩, kp⟩ := c.def_ i (d := dfD y x st) e
  have d0 : dV = .none := by
    rcases e4 with ⟨_, z⟩ | ⟨z, _⟩
    · exact z
    · exact absurd rfl z
  subst d0 e1
  exact ⟨_, oc, od, an, osl, kV, doc, pm, cdv, ct, g, e2, e3, kp⟩
theorem at_mkH {K : PySem.W.Frag} {h : Heap} {mg : Str → Option Value} {fa : List He.Fa} {fn : List He.DefD} {x : Str} {st : Stmt} (ps : List Str) (X : K.In h) (G : h.Ns mainGlobals mg) (c : He.SaysD fa fn K) (i : Nat) (e : fn[i]? = some (dfD x x st)) (ef : fa[i]? = some (.glo x))
    (b : ∀ (kV doc pm : Value) (an : Option Addr) (cdv ct : Value) (us : List Value), us.length = ps.length → bindArgs (PySem.W.fnOf x x (defArgs st) (defBody st) (defScope st) .none kV doc pm an cdv ct) ⟨us, []⟩ = pure (ps.zip us)) :
    At K mg x st ps :=
  let ⟨_, _, _, _, _, _, _, _, _, _, a, l, d, k⟩ := defD_at X G c i e ef
  at_mk ps X G a l d k b
theorem law_mkH {P : Program} {w : World} {K : PySem.W.Frag} {h : Heap} {mg : Str → Option Value} {fas : List He.Fa} {fn : List He.DefD} {st : Stmt} {fa : Addr} {n : Nat}
    (X : K.In h) (G : h.Ns mainGlobals mg) (hfa : mg "law" = some (.ref fa)) (c : He.SaysD fas fn K) (i : Nat) (e : fn[i]? = some (dfD "law" "law" st)) (ef : fas[i]? = some (.glo "law"))
    (b : ∀ (kV doc pm : Value) (an : Option Addr) (cdv ct : Value) (s : Shared) (v : Value), BindsTo s (PySem.W.fnOf "law" "law" (defArgs st) (defBody st) (defScope st) .none kV doc pm an cdv ct) ⟨[v], []⟩ [("_law_script", v)])
    (H : ∀ (base : Heap) (f : Addr) (fd : FuncData), Fun K "law" "law" st f fd → FnG P w K mg base n f fd ["_law_script"] (spLaw K)) :
    ∃ fd : FuncData, (∀ (s : Shared) (v : Value), BindsTo s fd ⟨[v], []⟩ [("_law_script", v)]) ∧ ∀ base : Heap, K.In base → base.Ns mainGlobals mg → FnG P w K mg base n fa fd ["_law_script"] (spLaw K) :=
  let ⟨_, _, _, _, _, _, _, _, _, _, a, l, d, k⟩ := defD_at X G c i e ef
  law_mk X G hfa a l d k (fun s v => b _ _ _ _ _ _ s v) H
theorem walk_ofGH {l : PySem.W.OpenLaw} {k : Nat} {q : Program} {loose : List Str} {XP : (Str → Option Value) → Heap → Prop} {d : DefRec} {fas : List He.Fa} {fn : List He.DefD} {ck : PySem.W.Frag → Bool} {x : Str}
    (hn : l.most = some 63) (hdf : d.params.defaults = []) (hr : Room k callerA)
    (F : ∀ (w : World) (K : PySem.W.Frag) (mg : Str → Option Value) (fa : Addr) (h : Heap), K.In h → h.Ns mainGlobals mg → mg d.name = some (.ref fa) → He.SaysD fas fn K → ck K = true →
      ∃ fd : FuncData, (∀ (s : Shared) (u : Value), BindsTo s fd ⟨[u], []⟩ [(x, u)]) ∧ ∀ base : Heap, K.In base → base.Ns mainGlobals mg → FnG l.prog w K mg base k fa fd [x] (spLaw K)) :
    PySem.W.WalkO q loose XP (hkM fas fn ck).says l.row.toRowW d [] fun f vs => PySem.call f vs := by
  refine Att.attach_call hn hdf fun w sw sx mg mb fa o pm cd doc a vs ns G Y ho hd hcd hmg hobj hints hlen hg => ?_
  obtain ⟨K, KI, c1, c2⟩ := Y
  have ⟨fd, hb, hF⟩ := F w K mg fa _ KI G.T.g hmg c1 c2
  exact law_callG KI G.T.g G.T.b G.T.builtins G.T.nolimit hg hobj hints (Nat.le_trans hlen (by decide)) hr hF hb fun H hS => ⟨a, ns, rfl, hS, hlen, fun _ => rfl⟩
end Gd
namespace Gd
open PySem PySem.Spec PyProof.Rows
theorem endG_ok {M : Nat} {p : Program} {w : World} {s0 : Shared} {s : PySem.W.SharedT} (h : endG (PySem.W.stepT (denote treeTable) p w) M p s0 = some s) :
    PySem.W.topRun treeTable p w s0.heap.objs.size (s0.heap.nsMap mainGlobals (Str.ofString "__annotations__")) M s0 (PySem.W.topStub p) = some s.abs := by
  unfold endG at h
  split at h
  · rename_i t n e
    rw [HandSHeadRun.frNat_eq] at h
    have q := HandSHeadRun.goF_ok h
    have eh := HandSHeadRun.putAll_heap e
    have en : s0.heap.objs.size = n := by rw [← eh]; exact PySem.W.absHeap_size _ _ _
    rw [en]
    have eb : (PySem.W.SharedT.mk t n s0.heap.life s0.gens s0.drawn s0.toks s0.os).abs = s0 := by
      unfold PySem.W.SharedT.abs
      rw [eh]
    rw [eb] at q
    exact q
  · cases h
theorem endG_eq (M : Nat) (p : Program) (w : World) (s0 : Shared) : endG (PySem.W.stepT (denote treeTable) p w) M p s0 = endG (HandSHeadRun.stepQ (HandSHeadRun.denQ HandSHeadRun.tabQ) p w) M p s0 := by
  rw [HandSHeadRun.stepQ_eq, HandSHeadRun.denQ_eq, HandSHeadRun.tabQ_eq]
theorem goI_ok {tb : String → Option Builtin} {p : Program} {w : World} : ∀ (m : Nat) (s s' : PySem.W.SharedT) (t : Thread), goI (PySem.W.stepT (denote tb) p w) m s t = some s' → importEnds tb p w m s.abs t = some s'.abs
  | 0, _, _, _, h => by cases h
  | m + 1, s, s', t, h => by
    unfold goI at h
    unfold importEnds
    split at h
    · rename_i e
      rw [e]
      cases h
      rfl
    · cases h
    · rename_i e
      rw [e]
      split at h
      · rename_i s2 t2 e2
        rw [HandSHeadRun.frS_eq] at h
        have q := PySem.W.stepT_spec e2
        show (match step (denote tb) p w s.abs t with | .go s' t' => importEnds tb p w m s' t' | .halt _ _ => none) = _
        rw [q]
        exact goI_ok m _ _ _ h
      · cases h
theorem openI_ok {N : Nat} {p : Program} {w : World} {s0 : Shared} (h : openI (PySem.W.stepT (denote treeTable) (PySem.W.opening p) w) N p = some s0) : PySem.W.fencedOpening treeTable p w N = some s0 := by
  obtain ⟨s, a, b⟩ := Option.bind_eq_some_iff.mp h
  have q := goI_ok _ _ _ _ a
  unfold PySem.W.fencedOpening
  have e : (PySem.W.SharedT.mk PySem.W.BT.nil 0 {} #[] {} 1 (start (PySem.W.opening p)).1.os).abs = (start (PySem.W.opening p)).1 := by
    unfold PySem.W.SharedT.abs PySem.start
    simp only [HandSHeadRun.abs_nil]
  rw [e] at q
  rw [q]
  exact b
theorem left_two {r : PySem.W.OpenRow} {q : Program} {H : PySem.W.Hook} {ob : PySem.W.SharedT → H.α} {N M : Nat} {loose : List Str} (ho : ∀ s, ob s = H.obs s.abs) (le : M ≤ N) (runA : ∀ w, RunA r q N M loose w) (runB : ∀ w, RunB r H ob N M w) :
    PySem.W.LeftO r.prog q loose (fun s => PySem.W.xlAt q [] s && PySem.W.recOk r.records s) (fun s => H.obs s) H.val N := fun w => by
  obtain ⟨⟨s0, s⟩, hr, hv⟩ := Option.map_eq_some_iff.mp (runA w)
  have l3 : ob s = H.val w := by
    have z := runB w
    unfold RunB at z
    rw [hr] at z
    injection z
  obtain ⟨l1, l2⟩ : ((s0.heap.isNs mainGlobals && s0.gens.size == 0) && HandSHeadRun.looksF r.prog s0.heap s.abs) = true ∧ HandSHeadRun.seenQ q loose (importedModules r.prog.main.body) (fun s => PySem.W.xlAt q [] s && PySem.W.recOk r.records s) s.abs = PySem.W.openGood q loose := by
    injection hv with h1 h2
    exact ⟨h1, h2⟩
  unfold runI at hr
  obtain ⟨s0', a, b⟩ := Option.bind_eq_some_iff.mp hr
  obtain ⟨s', hs, hz⟩ := Option.map_eq_some_iff.mp b
  cases hz
  rw [← endG_eq] at hs
  have a' : openI (PySem.W.stepT (denote treeTable) (PySem.W.opening r.prog) w) N r.prog = some s0 := by
    rw [HandSHeadRun.stepQ_eq, HandSHeadRun.denQ_eq, HandSHeadRun.tabQ_eq]
    exact a
  have a := openI_ok a'
  have t0 := endG_ok hs
  have t1 := PySem.W.topRun_mono (N - M) M _ _ _ t0
  rw [show M + (N - M) = N by omega] at t1
  rw [Bool.and_eq_true] at l1
  have l1' : (PySem.W.staticsOk (importedModules r.prog.main.body) s0.heap s.abs.heap && PySem.W.namesBound r.prog s.abs.heap && PySem.W.gensDone s.abs && PySem.W.laidKept s0.heap s.abs.heap) = true := l1.2
  have tt : PySem.W.topFrom treeTable r.prog w N s0 = some s.abs := by
    unfold PySem.W.topFrom
    rw [l1.1]
    show (PySem.W.topRun _ _ _ _ _ _ _ _).bind _ = _
    rw [t1]
    show (match _ with | true => _ | false => _) = _
    rw [l1']
  show Option.map _ (PySem.W.openEnds treeTable r.prog w N) = _
  unfold PySem.W.openEnds
  rw [a]
  show Option.map _ (PySem.W.topFrom treeTable r.prog w N s0) = _
  rw [tt]
  show some (PySem.W.openSeen q loose _ _ true s.abs, H.obs s.abs) = _
  rw [HandSHeadRun.seenQ_eq, l2, ← ho s, l3]
theorem head_two {r : PySem.W.OpenRow} {q : Program} {H : PySem.W.Hook} {ob : PySem.W.SharedT → H.α} {N M : Nat} {loose : List Str} {d : DefRec} {kwd : List (Str × Expr)} (ho : ∀ s, ob s = H.obs s.abs) (le : M ≤ N) (runA : ∀ w, RunA r q N M loose w) (runB : ∀ w, RunB r H ob N M w)
    (hdef : PySem.W.defOf q r.name = some (d, kwd)) (hp : r.prog.theDef r.name = some (d.params, d.body, d.scope)) (hk : PySem.W.kwWritten? d.params.kwonlyargs d.params.kw_defaults = some kwd)
    (hwr : (!r.writes || List.isEmpty r.records) = true) (k1 : r.wellSaid = true) (ok : (PySem.W.chainsOk q && PySem.W.opensWell r.prog && (PySem.W.frees r.toRowW && r.within.isEmpty)) = true) (hb : r.prog.bare) (hw : r.promised)
    (call : PySem.W.WalkO q loose (PySem.W.XL q []) H.says r.toRowW d kwd fun f vs => PySem.call f vs) : r.Holds :=
  PySem.W.holds_open (left_two ho le runA runB) H.of H.keeps (fun s z => PySem.W.xl_of s (Bool.and_eq_true_iff.mp z).left) PySem.W.XL.keeps hdef hp hk
    (fun s z => PySem.W.recFacts_of (Bool.and_eq_true_iff.mp z).right) hwr k1 ok hb hw call
end Gd
namespace Gd
open PySem PySem.Spec PyProof.Rows L2
end Gd
namespace K07
open PySem PySem.Spec PyProof.Rows L2 Gd Lw K07H
theorem all_mk {w : World} {K : PySem.W.Frag} {h : Heap} {mg : Str → Option Value} {fa : Addr} (X : K.In h) (G : h.Ns mainGlobals mg) (hfa : mg "law" = some (.ref fa)) (c : He.SaysD fas fn K) (kk : ck K = true) :
    ∃ fd : FuncData, (∀ (s : Shared) (v : Value), BindsTo s fd ⟨[v], []⟩ [("_law_script", v)]) ∧ ∀ base : Heap, K.In base → base.Ns mainGlobals mg → FnG PySem.Challenge.pw_nearestheld_k07_whole_orders_over_format w K mg base 12 fa fd ["_law_script"] (spLaw K) := by
  have T_integer_power : At K mg "integer_power" s_integer_power ["base", "e"] := at_mkH ["base", "e"] X G c 0 rfl rfl (fun _ _ _ _ _ _ us hl => match us, hl with | [_, _], _ => rfl)
  have T_place_of : At K mg "place_of" s_place_of ["value"] := at_mkH ["value"] X G c 1 rfl rfl (fun _ _ _ _ _ _ us hl => match us, hl with | [_], _ => rfl)
  have T_reduced : At K mg "reduced" s_reduced ["n", "d"] := at_mkH ["n", "d"] X G c 2 rfl rfl (fun _ _ _ _ _ _ us hl => match us, hl with | [_, _], _ => rfl)
  have T_times : At K mg "times" s_times ["one", "other"] := at_mkH ["one", "other"] X G c 3 rfl rfl (fun _ _ _ _ _ _ us hl => match us, hl with | [_, _], _ => rfl)
  have T_power_of : At K mg "power_of" s_power_of ["base", "e"] := at_mkH ["base", "e"] X G c 4 rfl rfl (fun _ _ _ _ _ _ us hl => match us, hl with | [_, _], _ => rfl)
  have T_compared : At K mg "compared" s_compared ["one", "other"] := at_mkH ["one", "other"] X G c 5 rfl rfl (fun _ _ _ _ _ _ us hl => match us, hl with | [_, _], _ => rfl)
  have T_u_twos_in : At K mg "_twos_in" s_u_twos_in ["n"] := at_mkH ["n"] X G c 6 rfl rfl (fun _ _ _ _ _ _ us hl => match us, hl with | [_], _ => rfl)
  have T_worth : At K mg "worth" s_worth ["form", "number"] := at_mkH ["form", "number"] X G c 7 rfl rfl (fun _ _ _ _ _ _ us hl => match us, hl with | [_, _], _ => rfl)
  have T_is_finite : At K mg "is_finite" s_is_finite ["value"] := at_mkH ["value"] X G c 8 rfl rfl (fun _ _ _ _ _ _ us hl => match us, hl with | [_], _ => rfl)
  have T_order_of : At K mg "order_of" s_order_of ["form", "x", "other", "y"] := at_mkH ["form", "x", "other", "y"] X G c 9 rfl rfl (fun _ _ _ _ _ _ us hl => match us, hl with | [_, _, _, _], _ => rfl)
  have T_less : At K mg "less" s_less ["form", "x", "y"] := at_mkH ["form", "x", "y"] X G c 10 rfl rfl (fun _ _ _ _ _ _ us hl => match us, hl with | [_, _, _], _ => rfl)
  have T_same : At K mg "same" s_same ["form", "x", "y"] := at_mkH ["form", "x", "y"] X G c 11 rfl rfl (fun _ _ _ _ _ _ us hl => match us, hl with | [_, _, _], _ => rfl)
  have T_in_order : At K mg "in_order" s_in_order ["form", "values"] := at_mkH ["form", "values"] X G c 12 rfl rfl (fun _ _ _ _ _ _ us hl => match us, hl with | [_, _], _ => rfl)
  have T_u_height : At K mg "_height" s_u_height ["value"] := at_mkH ["value"] X G c 13 rfl rfl (fun _ _ _ _ _ _ us hl => match us, hl with | [_], _ => rfl)
  have T_l_bag : At K mg "_law_bag" s_l_bag ["_law_script"] := at_mkH ["_law_script"] X G c 14 rfl rfl (fun _ _ _ _ _ _ us hl => match us, hl with | [_], _ => rfl)
  have T_l_take : At K mg "_law_take" s_l_take ["_law_bag_here", "_law_many"] := at_mkH ["_law_bag_here", "_law_many"] X G c 15 rfl rfl (fun _ _ _ _ _ _ us hl => match us, hl with | [_, _], _ => rfl)
  have T_l_some : At K mg "_law_some" s_l_some ["_law_bag_here", "_law_things"] := at_mkH ["_law_bag_here", "_law_things"] X G c 16 rfl rfl (fun _ _ _ _ _ _ us hl => match us, hl with | [_, _], _ => rfl)
  have T_l_mixed : At K mg "_law_mixed" s_l_mixed ["_law_bag_here", "_law_things"] := at_mkH ["_law_bag_here", "_law_things"] X G c 17 rfl rfl (fun _ _ _ _ _ _ us hl => match us, hl with | [_, _], _ => rfl)
  have T_l_alike : At K mg "_law_alike" s_l_alike ["_law_found", "_law_due"] := at_mkH ["_law_found", "_law_due"] X G c 18 rfl rfl (fun _ _ _ _ _ _ us hl => match us, hl with | [_, _], _ => rfl)
  have T_l_common : At K mg "_law_common" s_l_common ["_law_one", "_law_other"] := at_mkH ["_law_one", "_law_other"] X G c 19 rfl rfl (fun _ _ _ _ _ _ us hl => match us, hl with | [_, _], _ => rfl)
  have T_l_to : At K mg "_law_to" s_l_to ["_law_base", "_law_n"] := at_mkH ["_law_base", "_law_n"] X G c 20 rfl rfl (fun _ _ _ _ _ _ us hl => match us, hl with | [_, _], _ => rfl)
  have T_l_over : At K mg "_law_over" s_l_over ["_law_n", "_law_d"] := at_mkH ["_law_n", "_law_d"] X G c 21 rfl rfl (fun _ _ _ _ _ _ us hl => match us, hl with | [_, _], _ => rfl)
  have T_l_multiplied : At K mg "_law_multiplied" s_l_multiplied ["_law_x", "_law_y"] := at_mkH ["_law_x", "_law_y"] X G c 22 rfl rfl (fun _ _ _ _ _ _ us hl => match us, hl with | [_, _], _ => rfl)
  have T_l_is_below : At K mg "_law_is_below" s_l_is_below ["_law_x", "_law_y"] := at_mkH ["_law_x", "_law_y"] X G c 23 rfl rfl (fun _ _ _ _ _ _ us hl => match us, hl with | [_, _], _ => rfl)
  have T_l_sized : At K mg "_law_sized" s_l_sized ["_law_x"] := at_mkH ["_law_x"] X G c 24 rfl rfl (fun _ _ _ _ _ _ us hl => match us, hl with | [_], _ => rfl)
  have T_l_power : At K mg "_law_power" s_l_power ["_law_base", "_law_e"] := at_mkH ["_law_base", "_law_e"] X G c 25 rfl rfl (fun _ _ _ _ _ _ us hl => match us, hl with | [_, _], _ => rfl)
  have T_l_worth : At K mg "_law_worth" s_l_worth ["_law_form", "_law_number_here"] := at_mkH ["_law_form", "_law_number_here"] X G c 26 rfl rfl (fun _ _ _ _ _ _ us hl => match us, hl with | [_, _], _ => rfl)
  have T_l_formats : At K mg "_law_formats" s_l_formats ["_law_bag_here"] := at_mkH ["_law_bag_here"] X G c 27 rfl rfl (fun _ _ _ _ _ _ us hl => match us, hl with | [_], _ => rfl)
  have T_l_wide_format : At K mg "_law_wide_format" s_l_wide_format ["_law_bag_here"] := at_mkH ["_law_bag_here"] X G c 28 rfl rfl (fun _ _ _ _ _ _ us hl => match us, hl with | [_], _ => rfl)
  have T_l_any_format : At K mg "_law_any_format" s_l_any_format ["_law_bag_here"] := at_mkH ["_law_bag_here"] X G c 29 rfl rfl (fun _ _ _ _ _ _ us hl => match us, hl with | [_], _ => rfl)
  have T_l_edges : At K mg "_law_edges" s_l_edges ["_law_form"] := at_mkH ["_law_form"] X G c 30 rfl rfl (fun _ _ _ _ _ _ us hl => match us, hl with | [_], _ => rfl)
  have T_l_number : At K mg "_law_number" s_l_number ["_law_bag_here", "_law_form"] := at_mkH ["_law_bag_here", "_law_form"] X G c 31 rfl rfl (fun _ _ _ _ _ _ us hl => match us, hl with | [_, _], _ => rfl)
  have T_l_value : At K mg "_law_value" s_l_value ["_law_bag_here", "_law_form"] := at_mkH ["_law_bag_here", "_law_form"] X G c 32 rfl rfl (fun _ _ _ _ _ _ us hl => match us, hl with | [_, _], _ => rfl)
  have T_l_grid : At K mg "_law_grid" s_l_grid ["_law_form", "_law_x"] := at_mkH ["_law_form", "_law_x"] X G c 33 rfl rfl (fun _ _ _ _ _ _ us hl => match us, hl with | [_, _], _ => rfl)
  have T_l_greatest : At K mg "_law_greatest" s_l_greatest ["_law_form"] := at_mkH ["_law_form"] X G c 34 rfl rfl (fun _ _ _ _ _ _ us hl => match us, hl with | [_], _ => rfl)
  have T_l_number_of : At K mg "_law_number_of" s_l_number_of ["_law_form", "_law_x"] := at_mkH ["_law_form", "_law_x"] X G c 35 rfl rfl (fun _ _ _ _ _ _ us hl => match us, hl with | [_, _], _ => rfl)
  have T_l_compared : At K mg "_law_compared" s_l_compared ["_law_x", "_law_y"] := at_mkH ["_law_x", "_law_y"] X G c 36 rfl rfl (fun _ _ _ _ _ _ us hl => match us, hl with | [_, _], _ => rfl)
  have T_l_order : At K mg "_law_order" s_l_order ["_law_form", "_law_x", "_law_other", "_law_y"] := at_mkH ["_law_form", "_law_x", "_law_other", "_law_y"] X G c 37 rfl rfl (fun _ _ _ _ _ _ us hl => match us, hl with | [_, _, _, _], _ => rfl)
  have T_l_some_values : At K mg "_law_some_values" s_l_some_values ["_law_bag_here", "_law_form", "_law_other"] := at_mkH ["_law_bag_here", "_law_form", "_law_other"] X G c 38 rfl rfl (fun _ _ _ _ _ _ us hl => match us, hl with | [_, _, _], _ => rfl)
  have T_l_stands_ahead : At K mg "_law_stands_ahead" s_l_stands_ahead ["_law_form", "_law_x", "_law_y"] := at_mkH ["_law_form", "_law_x", "_law_y"] X G c 39 rfl rfl (fun _ _ _ _ _ _ us hl => match us, hl with | [_, _, _], _ => rfl)
  have m_abs : mg "abs" = none := He.free_ok X G (c.fact 41 (f := .free "abs") rfl)
  have m_int : mg "int" = none := He.free_ok X G (c.fact 42 (f := .free "int") rfl)
  have m_isinstance : mg "isinstance" = none := He.free_ok X G (c.fact 43 (f := .free "isinstance") rfl)
  have m_len : mg "len" = none := He.free_ok X G (c.fact 44 (f := .free "len") rfl)
  have m_list : mg "list" = none := He.free_ok X G (c.fact 45 (f := .free "list") rfl)
  have m_max : mg "max" = none := He.free_ok X G (c.fact 46 (f := .free "max") rfl)
  have m_min : mg "min" = none := He.free_ok X G (c.fact 47 (f := .free "min") rfl)
  have m_range : mg "range" = none := He.free_ok X G (c.fact 48 (f := .free "range") rfl)
  have m_repr : mg "repr" = none := He.free_ok X G (c.fact 49 (f := .free "repr") rfl)
  have m_sorted : mg "sorted" = none := He.free_ok X G (c.fact 50 (f := .free "sorted") rfl)
  have m_tuple : mg "tuple" = none := He.free_ok X G (c.fact 51 (f := .free "tuple") rfl)
  have m_zip : mg "zip" = none := He.free_ok X G (c.fact 52 (f := .free "zip") rfl)
  have m_gcd : mg "gcd" = some (.builtin "math.gcd") := ckM_blt X G kk 0 rfl
  refine law_mkH (st := s_law) (n := 12) X G hfa c 40 rfl rfl (fun _ _ _ _ _ _ _ _ => .of_eq rfl) (fun base f fd F => ?_)
  have c_l_take := c_of_l_take (P := PySem.Challenge.pw_nearestheld_k07_whole_orders_over_format) (w := w) (base := base) m_int T_l_take
  have c_l_some := c_of_l_some (P := PySem.Challenge.pw_nearestheld_k07_whole_orders_over_format) (w := w) (base := base) m_len c_l_take T_l_some
  have c_l_formats := c_of_l_formats (P := PySem.Challenge.pw_nearestheld_k07_whole_orders_over_format) (w := w) (base := base) c_l_some T_l_formats
  have c_l_wide_format := c_of_l_wide_format (P := PySem.Challenge.pw_nearestheld_k07_whole_orders_over_format) (w := w) (base := base) c_l_some c_l_take T_l_wide_format
  have c_l_any_format := c_of_l_any_format (P := PySem.Challenge.pw_nearestheld_k07_whole_orders_over_format) (w := w) (base := base) c_l_take c_l_formats c_l_wide_format T_l_any_format
  have c_l_to := c_of_l_to (P := PySem.Challenge.pw_nearestheld_k07_whole_orders_over_format) (w := w) (base := base) m_int T_l_to
  have c_l_edges := c_of_l_edges (P := PySem.Challenge.pw_nearestheld_k07_whole_orders_over_format) (w := w) (base := base) c_l_to T_l_edges
  have c_l_number := c_of_l_number (P := PySem.Challenge.pw_nearestheld_k07_whole_orders_over_format) (w := w) (base := base) m_min m_max c_l_take c_l_some c_l_edges c_l_to T_l_number
  have c_l_sized := c_of_l_sized (P := PySem.Challenge.pw_nearestheld_k07_whole_orders_over_format) (w := w) (base := base) m_abs T_l_sized
  have c_l_is_below := c_of_l_is_below (P := PySem.Challenge.pw_nearestheld_k07_whole_orders_over_format) (w := w) (base := base) T_l_is_below
  have c_l_common := c_of_l_common (P := PySem.Challenge.pw_nearestheld_k07_whole_orders_over_format) (w := w) (base := base) m_abs m_int T_l_common
  have c_l_over := c_of_l_over (P := PySem.Challenge.pw_nearestheld_k07_whole_orders_over_format) (w := w) (base := base) m_int c_l_common T_l_over
  have c_l_multiplied := c_of_l_multiplied (P := PySem.Challenge.pw_nearestheld_k07_whole_orders_over_format) (w := w) (base := base) c_l_over T_l_multiplied
  have c_l_power := c_of_l_power (P := PySem.Challenge.pw_nearestheld_k07_whole_orders_over_format) (w := w) (base := base) c_l_to T_l_power
  have c_l_greatest := c_of_l_greatest (P := PySem.Challenge.pw_nearestheld_k07_whole_orders_over_format) (w := w) (base := base) c_l_to c_l_power c_l_multiplied T_l_greatest
  have c_l_grid := c_of_l_grid (P := PySem.Challenge.pw_nearestheld_k07_whole_orders_over_format) (w := w) (base := base) m_int m_max c_l_to T_l_grid
  have c_l_number_of := c_of_l_number_of (P := PySem.Challenge.pw_nearestheld_k07_whole_orders_over_format) (w := w) (base := base) m_int c_l_sized c_l_is_below c_l_multiplied c_l_greatest c_l_grid c_l_power T_l_number_of
  have c_l_worth := c_of_l_worth (P := PySem.Challenge.pw_nearestheld_k07_whole_orders_over_format) (w := w) (base := base) c_l_multiplied c_l_power T_l_worth
  have c_l_compared := c_of_l_compared (P := PySem.Challenge.pw_nearestheld_k07_whole_orders_over_format) (w := w) (base := base) m_int c_l_is_below T_l_compared
  have c_l_order := c_of_l_order (P := PySem.Challenge.pw_nearestheld_k07_whole_orders_over_format) (w := w) (base := base) m_int c_l_compared c_l_worth T_l_order
  have c_is_finite := c_of_is_finite (P := PySem.Challenge.pw_nearestheld_k07_whole_orders_over_format) (w := w) (base := base) T_is_finite
  have c_compared := c_of_compared (P := PySem.Challenge.pw_nearestheld_k07_whole_orders_over_format) (w := w) (base := base) T_compared
  have c_u_twos_in := c_of_u_twos_in (P := PySem.Challenge.pw_nearestheld_k07_whole_orders_over_format) (w := w) (base := base) T_u_twos_in
  have c_reduced := c_of_reduced (P := PySem.Challenge.pw_nearestheld_k07_whole_orders_over_format) (w := w) (base := base) m_gcd m_min c_u_twos_in T_reduced
  have c_times := c_of_times (P := PySem.Challenge.pw_nearestheld_k07_whole_orders_over_format) (w := w) (base := base) c_reduced T_times
  have c_integer_power := c_of_integer_power (P := PySem.Challenge.pw_nearestheld_k07_whole_orders_over_format) (w := w) (base := base) T_integer_power
  have c_power_of := c_of_power_of (P := PySem.Challenge.pw_nearestheld_k07_whole_orders_over_format) (w := w) (base := base) c_integer_power T_power_of
  have c_worth := c_of_worth (P := PySem.Challenge.pw_nearestheld_k07_whole_orders_over_format) (w := w) (base := base) c_times c_power_of T_worth
  have c_u_height := c_of_u_height (P := PySem.Challenge.pw_nearestheld_k07_whole_orders_over_format) (w := w) (base := base) c_is_finite T_u_height
  have c_order_of := c_of_order_of (P := PySem.Challenge.pw_nearestheld_k07_whole_orders_over_format) (w := w) (base := base) c_is_finite c_compared c_worth c_u_height T_order_of
  have c_l_alike := c_of_l_alike (P := PySem.Challenge.pw_nearestheld_k07_whole_orders_over_format) (w := w) (base := base) m_repr T_l_alike
  have c_less := c_of_less (P := PySem.Challenge.pw_nearestheld_k07_whole_orders_over_format) (w := w) (base := base) c_order_of T_less
  have c_same := c_of_same (P := PySem.Challenge.pw_nearestheld_k07_whole_orders_over_format) (w := w) (base := base) c_order_of T_same
  have c_l_bag := c_of_l_bag (P := PySem.Challenge.pw_nearestheld_k07_whole_orders_over_format) (w := w) (base := base) m_abs T_l_bag
  have c_l_mixed := c_of_l_mixed (P := PySem.Challenge.pw_nearestheld_k07_whole_orders_over_format) (w := w) (base := base) m_len c_l_take T_l_mixed
  have c_l_value := c_of_l_value (P := PySem.Challenge.pw_nearestheld_k07_whole_orders_over_format) (w := w) (base := base) c_l_take c_l_number T_l_value
  have c_l_some_values := c_of_l_some_values (P := PySem.Challenge.pw_nearestheld_k07_whole_orders_over_format) (w := w) (base := base) m_range m_int c_l_some c_l_number_of c_l_worth c_l_number c_l_mixed c_l_value c_l_take T_l_some_values
  have c_place_of := c_of_place_of (P := PySem.Challenge.pw_nearestheld_k07_whole_orders_over_format) (w := w) (base := base) T_place_of
  have c_in_order := c_of_in_order (P := PySem.Challenge.pw_nearestheld_k07_whole_orders_over_format) (w := w) (base := base) m_sorted c_place_of T_in_order
  have c_l_stands_ahead := c_of_l_stands_ahead (P := PySem.Challenge.pw_nearestheld_k07_whole_orders_over_format) (w := w) (base := base) c_l_order T_l_stands_ahead
  exact ok_law m_int m_tuple m_repr m_isinstance m_list m_len m_sorted m_zip c_l_any_format c_l_number c_l_number_of c_l_worth c_l_order c_order_of c_l_alike c_less c_same c_l_bag c_l_some_values c_in_order c_l_stands_ahead F
end K07
open PySem PySem.W PySem.Calls PyProof.Rows
set_option maxRecDepth 100000 in
set_option maxHeartbeats 0 in
theorem PySem.Challenge.cw_nearestheld_k07_whole_orders_over_format_holds : PySem.Challenge.rw_nearestheld_k07_whole_orders_over_format.Holds := by
  w_on; o_law
  refine Gd.head_two (r := OpenLaw.row PySem.Challenge.rw_nearestheld_k07_whole_orders_over_format) (q := view (OpenLaw.row PySem.Challenge.rw_nearestheld_k07_whole_orders_over_format).prog [46]) (H := Gd.hkM K07H.fas K07H.fn K07H.ck) (ob := Gd.obM K07H.fas K07H.fn K07H.ck) (N := 8000) (M := 8000) (loose := K07H.loose) (d := HandSHeadRun.topDef (OpenLaw.row PySem.Challenge.rw_nearestheld_k07_whole_orders_over_format).prog 46) (kwd := []) Gd.obM_eq (Nat.le_refl _)
    K07H.runA K07H.runB K07H.hdefT K07H.hpT K07H.hkT (by rfl) (by first | assumption | decide +kernel) K07H.okT K07H.hbT ?hw ?hc
  case hw => w_witness2
  case hc =>
    refine Gd.walk_ofGH (l := PySem.Challenge.rw_nearestheld_k07_whole_orders_over_format) (k := 12) (x := "_law_script") (ck := K07H.ck) (fas := K07H.fas) (fn := K07H.fn) rfl rfl ⟨rfl, by decide, by decide⟩ ?F
    intro w K mg fa h KX G hmg c kk
    have hl : mg ("law" : PySem.Str) = some (.ref fa) := by
      have e : (HandSHeadRun.topDef (OpenLaw.row PySem.Challenge.rw_nearestheld_k07_whole_orders_over_format).prog 46).name = ("law" : PySem.Str) := K07H.nameT
      rw [← e]
      exact hmg
    exact K07.all_mk KX G hl c kk
