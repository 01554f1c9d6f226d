import PyProof.Rows.All
import Wide.All
import OpenK.AllK
import Wide.FinOn
import HandS.ForMost
import HandS.Head0
import HandS.Head1
import HandS.Head2
import HandS.HeadEnd
import HandS.HeadHook1
import HandS.HeadHook2
import HandS.Wide
import HandS.WideBits
import HandS.Gcd
import HandS.TupAny
import HandS.Flow
import HandS.Set
import HandS.SetFor
import HandS.Strs
import HandS.Rev
import HandS.Style
import HandS.TryOnly
import HandS.RaiseMore
import HandS.Deep
import HandS.TupMul
import HandS.Flt
import HandS.Zip
import HandS.IsInst
import HandS.Dict
import KE.KBits
import KE.DataMinMax
import HandS.SortKw
import HandS.More
import KE.GoesEnum
import HandS.Walk
import PyProof.ToksMono
import KE.DataMinKey
import KE.KMathG
import Flt.RightSqrt
import HandS.TupLe
import HandS.Comp
import HandS.CallLocal
import PyProof.AutoSeq1
import HandS.Star
import HandS.IterVal
import HandS.Conv
import PySem.Challenge.RW_nearestheld_k67_whole_no_span_is_less
set_option Elab.async false
set_option linter.all false
set_option maxRecDepth 100000
set_option maxHeartbeats 4000001
namespace Gd
open PySem PySem.Spec PyProof.Rows L2
def repAll (f : Value → PyData → Bool) : List Value → List PyData → Bool
  | [], [] => true
  | v :: vs, d :: ds => f v d && repAll f vs ds
  | _, _ => false
def repB (K : PySem.W.Frag) : Nat → Value → PyData → Bool
  | 0, _, _ => false
  | n + 1, .str y _, .str x => decide (y = x)
  | n + 1, .int j _, .int i => decide (j = i)
  | n + 1, .ref a, .tuple ds => match K.lookup a with
    | some ⟨c, _, .seq its _, _⟩ => decide (c = .type "tuple") && (Nat.ble its.size 60 && repAll (repB K n) its.toList ds)
    | _ => false
  | _ + 1, _, _ => false
def globB (K : PySem.W.Frag) (x : Str) (d : PyData) : Bool := match PySem.W.nsIn K mainGlobals x with
  | some (some v) => repB K 5 v d
  | _ => false
def bltB (K : PySem.W.Frag) (x : Str) (b : String) : Bool := He.eqO (PySem.W.nsIn K mainGlobals x) (some (some (.builtin b)))
def ckM (gl : List (Str × PyData)) (bl : List (Str × String)) (K : PySem.W.Frag) : Bool := gl.all (fun p => globB K p.1 p.2) && bl.all (fun p => bltB K p.1 p.2)
def refsAt (g : Addr → Option Obj) (a : Addr) : List Addr := match g a with
  | some o => He.refsO o
  | none => []
def asM (g : Addr → Option Obj) : List Addr := mainGlobals :: (refsAt g mainGlobals ++ (refsAt g mainGlobals).flatMap (refsAt g))
def hkM (fa : List He.Fa) (fn : List He.DefD) (ck : PySem.W.Frag → Bool) : PySem.W.Hook where
  α := He.AlD × Bool
  obs s := (fun K => (He.obsD fa fn K, ck K)) (He.frG s.heap.get? (asM s.heap.get?))
  val _ := (He.valD fn, true)
  says _ h := ∃ K : PySem.W.Frag, K.In h ∧ He.SaysD fa fn K ∧ ck K = true
  of w s h := ⟨_, He.frG_in, congrArg Prod.fst h, congrArg Prod.snd h⟩
  keeps w h h' := fun ⟨K, k, a, b⟩ up => ⟨K, fun x o e => up x o (k x o e), a, b⟩
def obM (fa : List He.Fa) (fn : List He.DefD) (ck : PySem.W.Frag → Bool) (s : PySem.W.SharedT) : He.AlD × Bool :=
  (fun K => (He.obsD fa fn K, ck K)) (He.frG (HandSHeadRun.getT s) (asM (HandSHeadRun.getT s)))
abbrev dfD (y x : Str) (st : Stmt) : He.DefD := ⟨(y, .none), x, x, defArgs st, defBody st, defScope st, [], []⟩
noncomputable def endG (st : PySem.W.SharedT → Thread → Option (PySem.W.SharedT × Thread)) (M : Nat) (p : Program) (s0 : Shared) : Option PySem.W.SharedT :=
  match HandSHeadRun.putAll s0.heap.objs.toList PySem.W.BT.nil 0 with
  | some (t, n) => HandSHeadRun.frNat n fun n0 => HandSHeadRun.goF st n0 (s0.heap.nsMap mainGlobals (Str.ofString "__annotations__")) M ⟨t, n0, s0.heap.life, s0.gens, s0.drawn, s0.toks, s0.os⟩ (PySem.W.topStub p)
  | none => none
def goI (st : PySem.W.SharedT → Thread → Option (PySem.W.SharedT × Thread)) : Nat → PySem.W.SharedT → Thread → Option PySem.W.SharedT
  | 0, _, _ => none
  | m + 1, s, t => match t.atExitBegin with
    | some [] => some s
    | some (_ :: _) => none
    | none => match st s t with
      | some (s', t') => HandSHeadRun.frS s' fun s' => goI st m s' t'
      | none => none
noncomputable def openI (st : PySem.W.SharedT → Thread → Option (PySem.W.SharedT × Thread)) (N : Nat) (p : Program) : Option Shared :=
  (goI st N ⟨PySem.W.BT.nil, 0, {}, #[], {}, 1, (start (PySem.W.opening p)).1.os⟩ (start (PySem.W.opening p)).2).bind fun s => fenceModules? p s.abs
noncomputable def runI (p : Program) (w : World) (N M : Nat) : Option (Shared × PySem.W.SharedT) :=
  (openI (HandSHeadRun.stepQ (HandSHeadRun.denQ HandSHeadRun.tabQ) (PySem.W.opening p) w) N p).bind fun s0 => (endG (HandSHeadRun.stepQ (HandSHeadRun.denQ HandSHeadRun.tabQ) p w) M p s0).map fun s => (s0, s)
def RunA (r : PySem.W.OpenRow) (q : Program) (N M : Nat) (loose : List Str) (w : World) : Prop :=
  (runI r.prog w N M).map (fun s => ((s.1.heap.isNs mainGlobals && s.1.gens.size == 0) && HandSHeadRun.looksF r.prog s.1.heap s.2.abs, HandSHeadRun.seenQ q loose (importedModules r.prog.main.body) (fun s => PySem.W.xlAt q [] s && PySem.W.recOk r.records s) s.2.abs)) = some (true, PySem.W.openGood q loose)
def RunB (r : PySem.W.OpenRow) (H : PySem.W.Hook) (ob : PySem.W.SharedT → H.α) (N M : Nat) (w : World) : Prop :=
  (runI r.prog w N M).map (fun s => ob s.2) = some (H.val w)
end Gd
namespace K67H
open PySem PySem.Spec PyProof.Rows L2 Gd
def topH (i : Nat) : Stmt := PySem.Challenge.pw_nearestheld_k67_whole_no_span_is_less.main.body.getD i (.Pass ⟨0, 0, 0, 0⟩)
def fn0 : List He.DefD := [dfD "integer_power" "integer_power" (topH 2), dfD "reduced" "reduced" (topH 5), dfD "added" "added" (topH 6), dfD "times" "times" (topH 7), dfD "size_of" "size_of" (topH 9), dfD "power_of" "power_of" (topH 10), dfD "compared" "compared" (topH 11), dfD "sign_of_fraction" "sign_of_fraction" (topH 12), dfD "part_of" "part_of" (topH 13), dfD "is_taken_outward" "is_taken_outward" (topH 14), dfD "power_below" "power_below" (topH 15), dfD "_power_within" "_power_within" (topH 16), dfD "_twos_in" "_twos_in" (topH 17), dfD "reached" "reached" (topH 21), dfD "products" "products" (topH 22), dfD "least_of" "least_of" (topH 24), dfD "greatest_of" "greatest_of" (topH 25), dfD "is_point" "is_point" (topH 26), dfD "_is_less" "_is_less" (topH 27), dfD "_ends" "_ends" (topH 28), dfD "_sums" "_sums" (topH 29), dfD "_sum" "_sum" (topH 30), dfD "_product" "_product" (topH 31), dfD "_opposites" "_opposites" (topH 33), dfD "_sizes" "_sizes" (topH 34), dfD "worth" "worth" (topH 36), dfD "zero" "zero" (topH 37), dfD "is_finite" "is_finite" (topH 38), dfD "is_zero" "is_zero" (topH 39), dfD "rounded" "rounded" (topH 41)]
def fn1 : List He.DefD := [dfD "_spot" "_spot" (topH 43), dfD "_nearest" "_nearest" (topH 46), dfD "_outcome" "_outcome" (topH 47), dfD "_too_great" "_too_great" (topH 48), dfD "low_end" "low_end" (topH 54), dfD "high_end" "high_end" (topH 55), dfD "span_result" "span_result" (topH 57), dfD "_reach_of" "_reach_of" (topH 58), dfD "_least_span" "_least_span" (topH 59), dfD "_law_bag" "_law_bag" (topH 63), dfD "_law_take" "_law_take" (topH 64), dfD "_law_some" "_law_some" (topH 65), dfD "_law_alike" "_law_alike" (topH 66), dfD "_law_common" "_law_common" (topH 67), dfD "_law_to" "_law_to" (topH 68), dfD "_law_over" "_law_over" (topH 69), dfD "_law_added" "_law_added" (topH 70), dfD "_law_lessened" "_law_lessened" (topH 71), dfD "_law_multiplied" "_law_multiplied" (topH 72), dfD "_law_divided" "_law_divided" (topH 73), dfD "_law_is_below" "_law_is_below" (topH 74), dfD "_law_sized" "_law_sized" (topH 75), dfD "_law_power" "_law_power" (topH 76), dfD "_law_worth" "_law_worth" (topH 77), dfD "_law_formats" "_law_formats" (topH 78), dfD "_law_grid" "_law_grid" (topH 79), dfD "_law_neighbours" "_law_neighbours" (topH 80), dfD "_law_greatest" "_law_greatest" (topH 81), dfD "_law_normal" "_law_normal" (topH 82), dfD "_law_nearer" "_law_nearer" (topH 83)]
def fn2 : List He.DefD := [dfD "_law_form_of" "_law_form_of" (topH 84), dfD "_law_rounded" "_law_rounded" (topH 85), dfD "_law_true_step" "_law_true_step" (topH 86), dfD "_law_placed" "_law_placed" (topH 87), dfD "_law_does_hold" "_law_does_hold" (topH 88), dfD "_law_some_within" "_law_some_within" (topH 89), dfD "_law_wide_below" "_law_wide_below" (topH 90), dfD "_law_both_ends" "_law_both_ends" (topH 91), dfD "_law_least_span" "_law_least_span" (topH 92), dfD "_law_rank" "_law_rank" (topH 93), dfD "_law_ranked" "_law_ranked" (topH 94), dfD "_law_few" "_law_few" (topH 95), dfD "_law_all_in" "_law_all_in" (topH 96), dfD "law" "law" (topH 97)]
def fn : List He.DefD := fn0 ++ fn1 ++ fn2
def fas0 : List He.Fa := [.glo "integer_power", .glo "reduced", .glo "added", .glo "times", .glo "size_of", .glo "power_of", .glo "compared", .glo "sign_of_fraction", .glo "part_of", .glo "is_taken_outward", .glo "power_below", .glo "_power_within", .glo "_twos_in", .glo "reached", .glo "products", .glo "least_of", .glo "greatest_of", .glo "is_point", .glo "_is_less", .glo "_ends", .glo "_sums", .glo "_sum", .glo "_product", .glo "_opposites", .glo "_sizes", .glo "worth", .glo "zero", .glo "is_finite", .glo "is_zero", .glo "rounded"]
def fas1 : List He.Fa := [.glo "_spot", .glo "_nearest", .glo "_outcome", .glo "_too_great", .glo "low_end", .glo "high_end", .glo "span_result", .glo "_reach_of", .glo "_least_span", .glo "_law_bag", .glo "_law_take", .glo "_law_some", .glo "_law_alike", .glo "_law_common", .glo "_law_to", .glo "_law_over", .glo "_law_added", .glo "_law_lessened", .glo "_law_multiplied", .glo "_law_divided", .glo "_law_is_below", .glo "_law_sized", .glo "_law_power", .glo "_law_worth", .glo "_law_formats", .glo "_law_grid", .glo "_law_neighbours", .glo "_law_greatest", .glo "_law_normal", .glo "_law_nearer"]
def fas2 : List He.Fa := [.glo "_law_form_of", .glo "_law_rounded", .glo "_law_true_step", .glo "_law_placed", .glo "_law_does_hold", .glo "_law_some_within", .glo "_law_wide_below", .glo "_law_both_ends", .glo "_law_least_span", .glo "_law_rank", .glo "_law_ranked", .glo "_law_few", .glo "_law_all_in", .glo "law", .free "abs", .free "any", .free "divmod", .free "int", .free "len", .free "max", .free "min", .free "range", .free "repr", .free "reversed", .free "set", .free "sorted", .free "tuple"]
def fas : List He.Fa := fas0 ++ fas1 ++ fas2
def ck (K : PySem.W.Frag) : Bool := ckM [("NO_NUMBERS", .tuple [.str "none"]), ("BOTTOM", .tuple [.str "inf", .int 1]), ("TOP", .tuple [.str "inf", .int 0]), ("NO_LOW", .tuple [.int (-1), .int 0]), ("NO_HIGH", .tuple [.int (1), .int 0])] [("gcd", "math.gcd")] K
def loose0 : List Str := ["gcd", "isqrt", "__name__", "integer_power", "place_of", "reduced", "added", "times", "over", "size_of", "power_of", "compared", "sign_of_fraction", "part_of", "is_taken_outward", "power_below", "_power_within", "_twos_in", "NO_LOW", "NO_HIGH", "reached", "products", "reciprocals", "least_of", "greatest_of", "is_point", "_is_less", "_ends", "_sums", "_sum"]
def loose1 : List Str := ["_product", "_reciprocal", "_opposites", "_sizes", "worth", "zero", "is_finite", "is_zero", "rounded", "rounded_root", "_spot", "_root_spot", "_root_part", "_nearest", "_outcome", "_too_great", "NO_NUMBERS", "BOTTOM", "TOP", "hull", "low_end", "high_end", "span_result", "_reach_of", "_least_span", "_root_result", "_quotient_result", "_law_bag", "_law_take", "_law_some"]
def loose2 : List Str := ["_law_alike", "_law_common", "_law_to", "_law_over", "_law_added", "_law_lessened", "_law_multiplied", "_law_divided", "_law_is_below", "_law_sized", "_law_power", "_law_worth", "_law_formats", "_law_grid", "_law_neighbours", "_law_greatest", "_law_normal", "_law_nearer", "_law_form_of", "_law_rounded", "_law_true_step", "_law_placed", "_law_does_hold", "_law_some_within", "_law_wide_below", "_law_both_ends", "_law_least_span", "_law_rank", "_law_ranked", "_law_few"]
def loose3 : List Str := ["_law_all_in"]
def loose : List Str := loose0 ++ loose1 ++ loose2 ++ loose3
theorem runA (w : World) : RunA (PySem.W.OpenLaw.row PySem.Challenge.rw_nearestheld_k67_whole_no_span_is_less) (PySem.W.view (PySem.W.OpenLaw.row PySem.Challenge.rw_nearestheld_k67_whole_no_span_is_less).prog [97]) 8000 8000 loose w := by
  unfold RunA
  kernel_rfl
theorem runB (w : World) : RunB (PySem.W.OpenLaw.row PySem.Challenge.rw_nearestheld_k67_whole_no_span_is_less) (hkM fas fn ck) (obM fas fn ck) 8000 8000 w := by
  unfold RunB
  kernel_rfl
end K67H
namespace Gd
open PySem PySem.Spec PyProof.Rows L2
mutual
inductive Rp (K : PySem.W.Frag) (H : Hp) : V → PyData → Prop
  | non : Rp K H .non .none
  | bl (b : Bool) : Rp K H (.bl b) (.bool b)
  | int (i : Int) : Rp K H (.int i) (.int i)
  | str (x : Str) : Rp K H (.str x) (.str x)
  | lst {a xs ds} (h : H a = some (.lst xs)) (r : RpAll K H xs ds) : Rp K H (.ref a) (.list ds)
  | tup {a xs ds} (h : SqT K H a xs) (r : RpAll K H xs ds) : Rp K H (.ref a) (.tuple ds)
inductive RpAll (K : PySem.W.Frag) (H : Hp) : List V → List PyData → Prop
  | nil : RpAll K H [] []
  | cons {v vs d ds} (h : Rp K H v d) (r : RpAll K H vs ds) : RpAll K H (v :: vs) (d :: ds)
end
section
variable {K : PySem.W.Frag} {H H' : Hp}
theorem seqT (e : Same H H') {a : Addr} {xs : List V} (h : SqT K H a xs) : SqT K H' a xs := by
  rcases h with (hh | ⟨ob, hh⟩) | hh
  · exact .inl (.inl (e _ _ hh))
  · exact .inl (.inr ⟨ob, e _ _ hh⟩)
  · exact .inr hh
mutual
theorem Rp.mono (e : Same H H') : ∀ {v : V} {d : PyData}, Rp K H v d → Rp K H' v d
  | _, _, .non => .non
  | _, _, .bl b => .bl b
  | _, _, .int i => .int i
  | _, _, .str x => .str x
  | _, _, .lst h r => .lst (e _ _ h) (RpAll.mono e r)
  | _, _, .tup h r => .tup (seqT e h) (RpAll.mono e r)
theorem RpAll.mono (e : Same H H') : ∀ {vs : List V} {ds : List PyData}, RpAll K H vs ds → RpAll K H' vs ds
  | _, _, .nil => .nil
  | _, _, .cons h r => .cons (Rp.mono e h) (RpAll.mono e r)
end
mutual
theorem Rp.dp : ∀ {v : V} {d : PyData}, Rp K H v d → Dp K H v d
  | _, _, .non => .non
  | _, _, .bl b => .bl b
  | _, _, .int i => .int i
  | _, _, .str x => .str x
  | _, _, .lst h r => .lst (SqL.of h) (RpAll.dp r)
  | _, _, .tup h r => .tup h (RpAll.dp r)
theorem RpAll.dp : ∀ {vs : List V} {ds : List PyData}, RpAll K H vs ds → DpAll K H vs ds
  | _, _, .nil => .nil
  | _, _, .cons h r => .cons (Rp.dp h) (RpAll.dp r)
end
theorem RpAll.length : ∀ {vs : List V} {ds : List PyData}, RpAll K H vs ds → vs.length = ds.length
  | _, _, .nil => rfl
  | _, _, .cons _ r => congrArg (· + 1) (RpAll.length r)
theorem RpAll.get : ∀ {vs : List V} {ds : List PyData} {i : Nat} {v : V}, RpAll K H vs ds → vs[i]? = some v → ∃ d, ds[i]? = some d ∧ Rp K H v d
  | _, _, 0, _, .cons h _, e => by cases e; exact ⟨_, rfl, h⟩
  | _, _, i + 1, _, .cons _ r, e => RpAll.get (i := i) r e
  | _, _, i, _, .nil, e => by simp at e
theorem RpAll.getD : ∀ {vs : List V} {ds : List PyData} {i : Nat} {d : PyData}, RpAll K H vs ds → ds[i]? = some d → ∃ v, vs[i]? = some v ∧ Rp K H v d
  | _, _, 0, _, .cons h _, e => by cases e; exact ⟨_, rfl, h⟩
  | _, _, i + 1, _, .cons _ r, e => RpAll.getD (i := i) r e
  | _, _, i, _, .nil, e => by simp at e
theorem RpAll.app : ∀ {vs ws : List V} {ds es : List PyData}, RpAll K H vs ds → RpAll K H ws es → RpAll K H (vs ++ ws) (ds ++ es)
  | _, _, _, _, .nil, q => q
  | _, _, _, _, .cons h r, q => .cons h (RpAll.app r q)
theorem RpAll.take : ∀ {vs : List V} {ds : List PyData} (n : Nat), RpAll K H vs ds → RpAll K H (vs.take n) (ds.take n)
  | _, _, 0, _ => .nil
  | _, _, _ + 1, .nil => .nil
  | _, _, n + 1, .cons h r => .cons h (RpAll.take n r)
theorem RpAll.drop : ∀ {vs : List V} {ds : List PyData} (n : Nat), RpAll K H vs ds → RpAll K H (vs.drop n) (ds.drop n)
  | _, _, 0, r => r
  | _, _, _ + 1, .nil => .nil
  | _, _, n + 1, .cons _ r => RpAll.drop n r
end
structure Bag where
  x : Int
  y : Int
  z : Int
  cs : List Int
abbrev Gh := Option (Addr × Addr)
def bagCells (B : Bag) (l : Addr) : List V := [.int B.x, .int B.y, .int B.z, .ref l]
structure On (K : PySem.W.Frag) (g : Gh) (B : Bag) (H0 H : Hp) : Prop where
  ex : Same H0 H
  bag : ∀ a l, g = some (a, l) → H0 a = none ∧ H a = some (.lst (bagCells B l)) ∧ H0 l = some (.lst (B.cs.map V.int))
def Off (g : Gh) (a : Addr) : Prop := ∀ l, g ≠ some (a, l)
structure To (g : Gh) (H0 H H0' H' : Hp) : Prop where
  ex : Same H0 H0'
  un : ∀ a o, Off g a → H0 a = none → H a = some o → H0' a = none ∧ H' a = some o
theorem To.refl {g : Gh} {H0 H : Hp} : To g H0 H H0 H := ⟨Same.refl _, fun _ _ _ h1 h2 => ⟨h1, h2⟩⟩
theorem To.trans {g : Gh} {H0 H H1 H' H2 H'' : Hp} (s : To g H0 H H1 H') (t : To g H1 H' H2 H'') : To g H0 H H2 H'' :=
  ⟨s.ex.trans t.ex, fun a o f h1 h2 => let ⟨p, q⟩ := s.un a o f h1 h2; t.un a o f p q⟩
inductive VD where
  | no
  | da (d : PyData)
  | bag
  | scr (ns : List Int)
  | dct (kvs : List (Str × PyData))
  | fn (f : Addr)
def Rv (K : PySem.W.Frag) (g : Gh) (H0 : Hp) (v : V) : VD → Prop
  | .no => True
  | .da d => Rp K H0 v d
  | .bag => ∃ a l, g = some (a, l) ∧ v = .ref a
  | .scr ns => ∃ a, v = .ref a ∧ SqL K H0 a (ns.map V.int)
  | .dct kvs => ∃ a xs, v = .ref a ∧ H0 a = some (.dK xs) ∧ xs.map (·.1) = kvs.map (fun kv => Sum.inr kv.1) ∧ RpAll K H0 (xs.map (·.2)) (kvs.map (·.2))
  | .fn f => v = .ref f
theorem Rv.mono {K : PySem.W.Frag} {g : Gh} {H0 H1 : Hp} (e : Same H0 H1) {v : V} : ∀ {d : VD}, Rv K g H0 v d → Rv K g H1 v d
  | .no, h => h
  | .da _, h => Rp.mono e h
  | .bag, h => h
  | .scr _, ⟨a, h1, h2⟩ => ⟨a, h1, e.seq h2⟩
  | .dct _, ⟨a, xs, h1, h2, h3, h4⟩ => ⟨a, xs, h1, e _ _ h2, h3, h4.mono e⟩
  | .fn _, h => h
def RvAll (K : PySem.W.Frag) (g : Gh) (H0 : Hp) : List V → List VD → Prop
  | [], [] => True
  | v :: vs, d :: ds => Rv K g H0 v d ∧ RvAll K g H0 vs ds
  | _, _ => False
theorem RvAll.mono {K : PySem.W.Frag} {g : Gh} {H0 H1 : Hp} (e : Same H0 H1) : ∀ {vs : List V} {ds : List VD}, RvAll K g H0 vs ds → RvAll K g H1 vs ds
  | [], [], h => h
  | _ :: _, _ :: _, h => ⟨h.1.mono e, RvAll.mono e h.2⟩
  | [], _ :: _, h => h.elim
  | _ :: _, [], h => h.elim
theorem RvAll.length {K : PySem.W.Frag} {g : Gh} {H0 : Hp} : ∀ {vs : List V} {ds : List VD}, RvAll K g H0 vs ds → vs.length = ds.length
  | [], [], _ => rfl
  | _ :: _, _ :: _, h => congrArg (· + 1) (RvAll.length h.2)
  | [], _ :: _, h => h.elim
  | _ :: _, [], h => h.elim
structure EnvD (K : PySem.W.Frag) (g : Gh) (H0 : Hp) (σ : L2.St) (Γ : List VD) : Prop where
  len : σ.length = Γ.length
  at' : ∀ (i : Nat) (d : VD), Γ[i]? = some d → d ≠ .no → ∃ v : V, σ[i]? = some (some v) ∧ Rv K g H0 v d
theorem EnvD.mono {K : PySem.W.Frag} {g : Gh} {H0 H1 : Hp} {σ : L2.St} {Γ : List VD} (e : Same H0 H1) (h : EnvD K g H0 σ Γ) : EnvD K g H1 σ Γ :=
  ⟨h.len, fun i d h1 h2 => let ⟨v, p, q⟩ := h.at' i d h1 h2; ⟨v, p, q.mono e⟩⟩
theorem EnvD.set {K : PySem.W.Frag} {g : Gh} {H0 : Hp} {σ : L2.St} {Γ : List VD} {v : V} {d : VD} (h : EnvD K g H0 σ Γ) (i : Nat) (r : Rv K g H0 v d) : EnvD K g H0 (σ.set i (some v)) (Γ.set i d) := by
  refine ⟨by rw [List.length_set, List.length_set, h.len], fun j e h1 h2 => ?_⟩
  by_cases hj : i = j
  · subst hj
    have hi : i < Γ.length := by
      have := (List.getElem?_eq_some_iff.mp h1).1
      rwa [List.length_set] at this
    rw [List.getElem?_set_self hi] at h1
    cases h1
    exact ⟨v, List.getElem?_set_self (by rw [h.len]; exact hi), r⟩
  · rw [List.getElem?_set_ne hj] at h1 ⊢
    exact h.at' j e h1 h2
def WE (X : Cx) (e : Expr) : TE := fun σ H Q => ∃ t, PE X e t ∧ t σ H Q
def WT (X : Cx) (e : Expr) : TT := fun σ H Q => ∃ t, PT X e t ∧ t σ H Q
def WA (X : Cx) (es : List Expr) : TA := fun σ H Q => ∃ t, PA X es t ∧ t σ H Q
def WS (X : Cx) (ss : List Stmt) : TS := fun D σ H => ∃ t, PSs X ss t ∧ t D σ H
theorem we {X : Cx} (e : Expr) : PE X e (WE X e) := ⟨fun p s σ H Q I ⟨_, ht, h⟩ => ht.run p s σ H Q I h⟩
theorem wt {X : Cx} (e : Expr) : PT X e (WT X e) := ⟨fun p s σ H Q I ⟨_, ht, h⟩ => ht.run p s σ H Q I h⟩
theorem wa {X : Cx} (es : List Expr) : PA X es (WA X es) := ⟨fun o p s σ H Q I ⟨_, ht, h⟩ => ht.run o p s σ H Q I h⟩
theorem ws {X : Cx} (ss : List Stmt) : PSs X ss (WS X ss) := ⟨fun p s σ H D I ⟨_, ht, h⟩ => ht.run p s σ H D I h⟩
def EJ (X : Cx) (Γ : List VD) (B : Bag) (e : Expr) (d : VD) (B' : Bag) : Prop :=
  ∀ g σ H0 H, EnvD X.K g H0 σ Γ → On X.K g B H0 H → ∀ Q : VK,
    (∀ v H0' H', To g H0 H H0' H' → On X.K g B' H0' H' → Rv X.K g H0' v d → Q v H') → WE X e σ H Q
def TJ (X : Cx) (Γ : List VD) (B : Bag) (e : Expr) (b : Bool) (B' : Bag) : Prop :=
  ∀ g σ H0 H, EnvD X.K g H0 σ Γ → On X.K g B H0 H → ∀ Q : Bool → Hp → Prop,
    (∀ H0' H', To g H0 H H0' H' → On X.K g B' H0' H' → Q b H') → WT X e σ H Q
def AJ (X : Cx) (Γ : List VD) (B : Bag) (es : List Expr) (ds : List VD) (B' : Bag) : Prop :=
  ∀ g σ H0 H, EnvD X.K g H0 σ Γ → On X.K g B H0 H → ∀ Q : List V → Hp → Prop,
    (∀ vs H0' H', To g H0 H H0' H' → On X.K g B' H0' H' → RvAll X.K g H0' vs ds → Q vs H') → WA X es σ H Q
structure En where
  nx : List VD → Bag → Prop
  rt : PyData → Bag → Prop
  bk : List VD → Bag → Prop := fun _ _ => False
  ct : List VD → Bag → Prop := fun _ _ => False
structure Gets (X : Cx) (E : En) (g : Gh) (H0 H : Hp) (D : Ends) : Prop where
  nx : ∀ Γ B σ H1 H', E.nx Γ B → To g H0 H H1 H' → EnvD X.K g H1 σ Γ → On X.K g B H1 H' → D.nx σ H'
  rt : ∀ r B v H1 H', E.rt r B → To g H0 H H1 H' → On X.K g B H1 H' → Rp X.K H1 v r → D.rt v H'
  bk : ∀ Γ B σ H1 H', E.bk Γ B → To g H0 H H1 H' → EnvD X.K g H1 σ Γ → On X.K g B H1 H' → D.bk σ H'
  ct : ∀ Γ B σ H1 H', E.ct Γ B → To g H0 H H1 H' → EnvD X.K g H1 σ Γ → On X.K g B H1 H' → D.ct σ H'
theorem Gets.on {X : Cx} {E : En} {g : Gh} {H0 H H1 H' : Hp} {D : Ends} (G : Gets X E g H0 H D) (t : To g H0 H H1 H') : Gets X E g H1 H' D :=
  ⟨fun Γ B σ a b e u => G.nx Γ B σ a b e (t.trans u), fun r B v a b e u => G.rt r B v a b e (t.trans u),
   fun Γ B σ a b e u => G.bk Γ B σ a b e (t.trans u), fun Γ B σ a b e u => G.ct Γ B σ a b e (t.trans u)⟩
def SJ (X : Cx) (Γ : List VD) (B : Bag) (ss : List Stmt) (E : En) : Prop :=
  ∀ g σ H0 H, EnvD X.K g H0 σ Γ → On X.K g B H0 H → ∀ D : Ends, Gets X E g H0 H D → WS X ss D σ H
section
variable {X : Cx} {Γ : List VD} {B B1 B2 B' : Bag} {e a b c : Expr} {es : List Expr} {d da db dc : VD} {pos p : Pos}
theorem laid {K : PySem.W.Frag} {g : Gh} {B : Bag} {H0 H : Hp} {p : Addr} {o : HO} (O : On K g B H0 H) (n : H p = none) :
    To g H0 H (upd H0 p o) (upd H p o) ∧ On K g B (upd H0 p o) (upd H p o) := by
  have n0 : H0 p = none := O.ex.free n
  refine ⟨⟨fun q u h => ?_, fun q u f h1 h2 => ?_⟩, ⟨fun q u h => ?_, fun q l h => ?_⟩⟩
  · rw [upd_ne (ne_of_none h n0)]; exact h
  · have hq := ne_of_none h2 n
    rw [upd_ne hq, upd_ne hq]; exact ⟨h1, h2⟩
  · by_cases hq : q = p
    · subst hq; rw [upd_same] at h ⊢; exact h
    · rw [upd_ne hq] at h ⊢; exact O.ex _ _ h
  · obtain ⟨h1, h2, h3⟩ := O.bag q l h
    have hq := ne_of_none h2 n
    have hl := ne_of_none h3 n0
    rw [upd_ne hq, upd_ne hq, upd_ne hl]; exact ⟨h1, h2, h3⟩
theorem ej_c {v : V} {d : PyData} (h : PE X e (tC v)) (r : ∀ H0, Rp X.K H0 v d) : EJ X Γ B e (.da d) B :=
  fun g σ H0 H _ O Q q => ⟨_, h, q v H0 H To.refl O (r H0)⟩
theorem ej_int {i : Int} {j} : EJ X Γ B (.Constant (.int i) j pos) (.da (.int i)) B := ej_c pe_int fun _ => .int i
theorem ej_bl {i : Bool} {j} : EJ X Γ B (.Constant (.bool i) j pos) (.da (.bool i)) B := ej_c pe_bl fun _ => .bl i
theorem ej_str {i : Str} {j} : EJ X Γ B (.Constant (.str i) j pos) (.da (.str i)) B := ej_c pe_str fun _ => .str i
theorem ej_non {j} : EJ X Γ B (.Constant .none j pos) (.da .none) B := ej_c pe_non fun _ => .non
theorem ej_var (i : Nat) {x : Str} (h : Γ[i]? = some d) (hd : d ≠ .no) (hN : X.N[i]? = some x := by rfl)
    (hv : Vis X.env.scope x := by first | exact Or.inl rfl | exact Or.inr (Or.inl rfl) | exact Or.inr (Or.inr rfl))
    (h1 : (x == ("__debug__" : Str)) = false := by decide) (h2 : (x == ("__classdict__" : Str)) = false := by decide) : EJ X Γ B (.Name x pos) d B :=
  fun g σ H0 H E O Q q => let ⟨v, hs, r⟩ := E.at' i d h hd; ⟨_, pe_var hN hv h1 h2, v, hs, q v H0 H To.refl O r⟩
theorem ej_dat (i : Nat) {x : Str} {d : PyData} (h : Γ[i]? = some (.da d) := by rfl) (hN : X.N[i]? = some x := by rfl)
    (hv : Vis X.env.scope x := by first | exact Or.inl rfl | exact Or.inr (Or.inl rfl) | exact Or.inr (Or.inr rfl))
    (h1 : (x == ("__debug__" : Str)) = false := by decide) (h2 : (x == ("__classdict__" : Str)) = false := by decide) : EJ X Γ B (.Name x pos) (.da d) B :=
  ej_var i h (fun z => nomatch z) hN hv h1 h2
theorem ej_bag (i : Nat) {x : Str} (h : Γ[i]? = some .bag := by rfl) (hN : X.N[i]? = some x := by rfl)
    (hv : Vis X.env.scope x := by first | exact Or.inl rfl | exact Or.inr (Or.inl rfl) | exact Or.inr (Or.inr rfl))
    (h1 : (x == ("__debug__" : Str)) = false := by decide) (h2 : (x == ("__classdict__" : Str)) = false := by decide) : EJ X Γ B (.Name x pos) .bag B :=
  ej_var i h (fun z => nomatch z) hN hv h1 h2
theorem ej_un {r : V → Hp → VK → Prop} (ha : EJ X Γ B a da B1) (hp : ∀ t, PE X a t → PE X e (tUn r t))
    (hr : ∀ g v H0 H, On X.K g B1 H0 H → Rv X.K g H0 v da → ∀ Q : VK, (∀ z H0' H', To g H0 H H0' H' → On X.K g B1 H0' H' → Rv X.K g H0' z d → Q z H') → r v H Q) :
    EJ X Γ B e d B1 := fun g σ H0 H E O Q q =>
  ⟨_, hp _ (we a), ha g σ H0 H E O _ fun v H1 H' t o rv => hr g v H1 H' o rv Q fun z H2 H'' t2 o2 r2 => q z H2 H'' (t.trans t2) o2 r2⟩
theorem ej_bin {r : R2} (ha : EJ X Γ B a da B1) (hb : EJ X Γ B1 b db B2) (hp : ∀ t u, PE X a t → PE X b u → PE X e (tOp r t u))
    (hr : ∀ g v w H0 H, On X.K g B2 H0 H → Rv X.K g H0 v da → Rv X.K g H0 w db → ∀ Q : VK, (∀ z H0' H', To g H0 H H0' H' → On X.K g B2 H0' H' → Rv X.K g H0' z d → Q z H') → r v w H Q) :
    EJ X Γ B e d B2 := fun g σ H0 H E O Q q =>
  ⟨_, hp _ _ (we a) (we b), ha g σ H0 H E O _ fun v H1 H' t o rv => hb g σ H1 H' (E.mono t.ex) o _ fun w H2 H'' t2 o2 rw' =>
    hr g v w H2 H'' o2 (rv.mono t2.ex) rw' Q fun z H3 H3' t3 o3 r3 => q z H3 H3' ((t.trans t2).trans t3) o3 r3⟩
theorem rvI {K : PySem.W.Frag} {g : Gh} {H0 : Hp} {v : V} {i : Int} (h : Rv K g H0 v (.da (.int i))) : v = .int i := by
  have h : Rp K H0 v (.int i) := h
  cases h; rfl
theorem rvB {K : PySem.W.Frag} {g : Gh} {H0 : Hp} {v : V} {i : Bool} (h : Rv K g H0 v (.da (.bool i))) : v = .bl i := by
  have h : Rp K H0 v (.bool i) := h
  cases h; rfl
theorem rvS {K : PySem.W.Frag} {g : Gh} {H0 : Hp} {v : V} {i : Str} (h : Rv K g H0 v (.da (.str i))) : v = .str i := by
  have h : Rp K H0 v (.str i) := h
  cases h; rfl
theorem rvL {K : PySem.W.Frag} {g : Gh} {H0 : Hp} {v : V} {ds : List PyData} (h : Rv K g H0 v (.da (.list ds))) : ∃ a xs, v = .ref a ∧ H0 a = some (.lst xs) ∧ RpAll K H0 xs ds := by
  have h : Rp K H0 v (.list ds) := h
  cases h with
  | lst h1 r => exact ⟨_, _, rfl, h1, r⟩
theorem rvT {K : PySem.W.Frag} {g : Gh} {H0 : Hp} {v : V} {ds : List PyData} (h : Rv K g H0 v (.da (.tuple ds))) : ∃ a xs, v = .ref a ∧ SqT K H0 a xs ∧ RpAll K H0 xs ds := by
  have h : Rp K H0 v (.tuple ds) := h
  cases h with
  | tup h1 r => exact ⟨_, _, rfl, h1, r⟩
theorem ej_ii {i j : Int} {z : Int → Int → V} {y : PyData} {op : Operator} (ha : EJ X Γ B a (.da (.int i)) B1) (hb : EJ X Γ B1 b (.da (.int j)) B2)
    (ho : OpR X (binaryOp op) (rI0 z)) (hz : ∀ H0, Rp X.K H0 (z i j) y) : EJ X Γ B (.BinOp a op b pos) (.da y) B2 :=
  ej_bin ha hb (fun _ _ h1 h2 => pe_op ho h1 h2) fun g v w H0 H O r1 r2 Q q => ⟨i, j, rvI r1, rvI r2, q _ H0 H To.refl O (hz H0)⟩
theorem ej_iic {i j : Int} {C : Int → Int → Prop} {z : Int → Int → V} {y : PyData} {op : Operator} (ha : EJ X Γ B a (.da (.int i)) B1) (hb : EJ X Γ B1 b (.da (.int j)) B2)
    (ho : OpR X (binaryOp op) (rI C z)) (hc : C i j) (hz : ∀ H0, Rp X.K H0 (z i j) y) : EJ X Γ B (.BinOp a op b pos) (.da y) B2 :=
  ej_bin ha hb (fun _ _ h1 h2 => pe_op ho h1 h2) fun g v w H0 H O r1 r2 Q q => ⟨i, j, rvI r1, rvI r2, hc, q _ H0 H To.refl O (hz H0)⟩
theorem ej_add {i j : Int} (ha : EJ X Γ B a (.da (.int i)) B1) (hb : EJ X Γ B1 b (.da (.int j)) B2) : EJ X Γ B (.BinOp a .Add b pos) (.da (.int (i + j))) B2 :=
  ej_ii ha hb op_add fun _ => .int _
theorem ej_sub {i j : Int} (ha : EJ X Γ B a (.da (.int i)) B1) (hb : EJ X Γ B1 b (.da (.int j)) B2) : EJ X Γ B (.BinOp a .Sub b pos) (.da (.int (i - j))) B2 :=
  ej_ii ha hb op_sub fun _ => .int _
theorem ej_mul {i j : Int} (ha : EJ X Γ B a (.da (.int i)) B1) (hb : EJ X Γ B1 b (.da (.int j)) B2) (hc : CMulW i j) : EJ X Γ B (.BinOp a .Mult b pos) (.da (.int (i * j))) B2 :=
  ej_iic ha hb op_mulW hc fun _ => .int _
theorem ej_fdiv {i j : Int} (ha : EJ X Γ B a (.da (.int i)) B1) (hb : EJ X Γ B1 b (.da (.int j)) B2) (hc : CDivW i j) : EJ X Γ B (.BinOp a .FloorDiv b pos) (.da (.int (i / j))) B2 :=
  ej_iic ha hb op_fdivW hc fun _ => .int _
theorem ej_mod {i j : Int} (ha : EJ X Γ B a (.da (.int i)) B1) (hb : EJ X Γ B1 b (.da (.int j)) B2) (hc : 0 < j) : EJ X Γ B (.BinOp a .Mod b pos) (.da (.int (i % j))) B2 :=
  ej_iic ha hb op_mod hc fun _ => .int _
theorem ej_pow {i j : Int} (ha : EJ X Γ B a (.da (.int i)) B1) (hb : EJ X Γ B1 b (.da (.int j)) B2) (hc : CPow i j) : EJ X Γ B (.BinOp a .Pow b pos) (.da (.int (i ^ j.toNat))) B2 :=
  ej_iic ha hb op_pow hc fun _ => .int _
theorem ej_neg {i : Int} (ha : EJ X Γ B a (.da (.int i)) B1) : EJ X Γ B (.UnaryOp .USub a pos) (.da (.int (-i))) B1 :=
  ej_un ha (fun _ h => pe_un un_neg h) fun g v H0 H O r Q q => ⟨i, rvI r, q _ H0 H To.refl O (Rp.int _)⟩
theorem ej_cmpI {i j : Int} {z : Int → Int → V} {y : PyData} {op : CmpOp} (ha : EJ X Γ B a (.da (.int i)) B1) (hb : EJ X Γ B1 b (.da (.int j)) B2)
    (ho : OpR X (compareOp op) (rI0 z)) (hz : ∀ H0, Rp X.K H0 (z i j) y) (hm : behindInMarks op b = false) : EJ X Γ B (.Compare a [op] [b] pos) (.da y) B2 :=
  ej_bin ha hb (fun _ _ h1 h2 => pe_cmpR ho h1 h2 hm) fun g v w H0 H O r1 r2 Q q => ⟨i, j, rvI r1, rvI r2, q _ H0 H To.refl O (hz H0)⟩
theorem ej_lt {i j : Int} (ha : EJ X Γ B a (.da (.int i)) B1) (hb : EJ X Γ B1 b (.da (.int j)) B2) : EJ X Γ B (.Compare a [.Lt] [b] pos) (.da (.bool (decide (i < j)))) B2 :=
  ej_cmpI ha hb op_lt (fun _ => .bl _) (nomark _)
theorem ej_gt {i j : Int} (ha : EJ X Γ B a (.da (.int i)) B1) (hb : EJ X Γ B1 b (.da (.int j)) B2) : EJ X Γ B (.Compare a [.Gt] [b] pos) (.da (.bool (decide (j < i)))) B2 :=
  ej_cmpI ha hb op_gt (fun _ => .bl _) (nomark _)
theorem ej_ge {i j : Int} (ha : EJ X Γ B a (.da (.int i)) B1) (hb : EJ X Γ B1 b (.da (.int j)) B2) : EJ X Γ B (.Compare a [.GtE] [b] pos) (.da (.bool (decide (j ≤ i)))) B2 :=
  ej_cmpI ha hb op_ge (fun _ => .bl _) (nomark _)
theorem ej_eq {x y : PyData} (hu : X.A.units + 64 < cLine) (ha : EJ X Γ B a (.da x) B1) (hb : EJ X Γ B1 b (.da y) B2) (hx : SeqAt.shaped x = true) (hy : SeqAt.shaped y = true) :
    EJ X Γ B (.Compare a [.Eq] [b] pos) (.da (.bool (PyData.eqv x y))) B2 :=
  ej_bin ha hb (fun _ _ h1 h2 => pe_cmpR (op_eqD hu) h1 h2 (nomark _)) fun g v w H0 H O r1 r2 Q q =>
    ⟨x, y, (Rp.mono O.ex r1).dp, (Rp.mono O.ex r2).dp, hx, hy, q _ H0 H To.refl O (Rp.bl _)⟩
theorem ej_ne {x y : PyData} (hu : X.A.units + 64 < cLine) (ha : EJ X Γ B a (.da x) B1) (hb : EJ X Γ B1 b (.da y) B2) (hx : SeqAt.shaped x = true) (hy : SeqAt.shaped y = true) :
    EJ X Γ B (.Compare a [.NotEq] [b] pos) (.da (.bool (!PyData.eqv x y))) B2 :=
  ej_bin ha hb (fun _ _ h1 h2 => pe_cmpR (op_neD hu) h1 h2 (nomark _)) fun g v w H0 H O r1 r2 Q q =>
    ⟨x, y, (Rp.mono O.ex r1).dp, (Rp.mono O.ex r2).dp, hx, hy, q _ H0 H To.refl O (Rp.bl _)⟩
theorem ej_eqI {i j : Int} (hu : X.A.units + 64 < cLine) (ha : EJ X Γ B a (.da (.int i)) B1) (hb : EJ X Γ B1 b (.da (.int j)) B2) : EJ X Γ B (.Compare a [.Eq] [b] pos) (.da (.bool (decide (i = j)))) B2 := by
  have h := ej_eq (pos := pos) hu ha hb rfl rfl
  have e : PyData.eqv (.int i) (.int j) = decide (i = j) := by simp only [PyData.eqv]; exact Bool.beq_eq_decide_eq i j
  rw [e] at h; exact h
theorem ej_eqS {i j : Str} (ha : EJ X Γ B a (.da (.str i)) B1) (hb : EJ X Γ B1 b (.da (.str j)) B2) : EJ X Γ B (.Compare a [.Eq] [b] pos) (.da (.bool (decide (i = j)))) B2 :=
  ej_bin ha hb (fun _ _ h1 h2 => pe_cmpR op_eq h1 h2 (nomark _)) fun g v w H0 H O r1 r2 Q q => by
    rw [rvS r1, rvS r2]
    have e : decide (V.str i = V.str j) = decide (i = j) := by
      by_cases h : i = j
      · subst h; simp
      · rw [decide_eq_false h, decide_eq_false fun z => h (V.str.inj z)]
    refine ⟨rfl, ?_⟩
    rw [e]; exact q _ H0 H To.refl O (Rp.bl _)
theorem ej_ixT {ds : List PyData} {i : Int} {y : PyData} (ha : EJ X Γ B a (.da (.tuple ds)) B1) (hb : EJ X Γ B1 b (.da (.int i)) B2) (h : atI ds i = some y) (hs : PlainIx b) :
    EJ X Γ B (.Subscript a b pos) (.da y) B2 :=
  ej_bin ha hb (fun _ _ h1 h2 => pe_ix ix_tup h1 h2 hs) fun g v w H0 H O r1 r2 Q q => by
    obtain ⟨p, xs, rfl, hx, rs⟩ := rvT r1
    obtain ⟨j, h1, h2⟩ := Option.bind_eq_some_iff.mp h
    rw [← rs.length] at h1
    obtain ⟨z, h3, h4⟩ := rs.getD h2
    exact ⟨p, xs, i, z, rfl, rvI r2, seqT O.ex hx, Option.bind_eq_some_iff.mpr ⟨j, h1, h3⟩, q z H0 H To.refl O h4⟩
theorem ej_ixL {ds : List PyData} {i : Int} {y : PyData} (ha : EJ X Γ B a (.da (.list ds)) B1) (hb : EJ X Γ B1 b (.da (.int i)) B2) (h : atI ds i = some y) (hs : PlainIx b) :
    EJ X Γ B (.Subscript a b pos) (.da y) B2 :=
  ej_bin ha hb (fun _ _ h1 h2 => pe_ix ix_list h1 h2 hs) fun g v w H0 H O r1 r2 Q q => by
    obtain ⟨p, xs, rfl, hx, rs⟩ := rvL r1
    obtain ⟨j, h1, h2⟩ := Option.bind_eq_some_iff.mp h
    rw [← rs.length] at h1
    obtain ⟨z, h3, h4⟩ := rs.getD h2
    exact ⟨p, xs, i, z, rfl, rvI r2, SqL.of (O.ex _ _ hx), Option.bind_eq_some_iff.mpr ⟨j, h1, h3⟩, q z H0 H To.refl O h4⟩
theorem aj_nil : AJ X Γ B [] [] B := fun g σ H0 H _ O Q q => ⟨_, pa_nil, q [] H0 H To.refl O trivial⟩
theorem aj_cons {ds : List VD} (h : EJ X Γ B e d B1) (r : AJ X Γ B1 es ds B2) (hs : starEach (e :: es) X.env = (false, eval e X.env) :: starEach es X.env := by rfl) :
    AJ X Γ B (e :: es) (d :: ds) B2 := fun g σ H0 H E O Q q =>
  ⟨_, pa_cons (we e) (wa es) hs, h g σ H0 H E O _ fun v H1 H' t o rv => r g σ H1 H' (E.mono t.ex) o _ fun vs H2 H'' t2 o2 rs => q (v :: vs) H2 H'' (t.trans t2) o2 ⟨rv.mono t2.ex, rs⟩⟩
theorem RvAll.dat {K : PySem.W.Frag} {g : Gh} {H0 : Hp} : ∀ {vs : List V} {ds : List PyData}, RvAll K g H0 vs (ds.map .da) → RpAll K H0 vs ds
  | [], [], _ => .nil
  | _ :: _, _ :: _, h => .cons h.1 (RvAll.dat h.2)
  | [], _ :: _, h => h.elim
  | _ :: _, [], h => h.elim
theorem ej_tup {ds : List PyData} {k} (h : AJ X Γ B es (ds.map .da) B1) (hl : ds.length ≤ 1000) : EJ X Γ B (.Tuple es k pos) (.da (.tuple ds)) B1 := fun g σ H0 H E O Q q =>
  ⟨_, pe_tup (wa es), h g σ H0 H E O _ fun vs H1 H' t o rs => by
    have rs := RvAll.dat rs
    refine ⟨by rw [rs.length]; exact Nat.le_of_lt (small1000 hl), fun p n => ?_⟩
    obtain ⟨t2, o2⟩ := laid (o := .tup vs) o n
    exact q _ _ _ (t.trans t2) o2 (Rp.tup (SqT.of upd_same) (rs.mono t2.ex))⟩
theorem ej_lst {ds : List PyData} (h : AJ X Γ B es (ds.map .da) B1) (hl : ds.length ≤ 1000) : EJ X Γ B (.List es pos) (.da (.list ds)) B1 := fun g σ H0 H E O Q q =>
  ⟨_, pe_lst (wa es), h g σ H0 H E O _ fun vs H1 H' t o rs => by
    have rs := RvAll.dat rs
    refine ⟨by rw [rs.length]; exact Nat.le_of_lt (small1000 hl), fun p n => ?_⟩
    obtain ⟨t2, o2⟩ := laid (o := .lst vs) o n
    exact q _ _ _ (t.trans t2) o2 (Rp.lst upd_same (rs.mono t2.ex))⟩
theorem ej_catL {ds es' : List PyData} (ha : EJ X Γ B a (.da (.list ds)) B1) (hb : EJ X Γ B1 b (.da (.list es')) B2) (hl : ds.length + es'.length ≤ 1000) :
    EJ X Γ B (.BinOp a .Add b pos) (.da (.list (ds ++ es'))) B2 :=
  ej_bin ha hb (fun _ _ h1 h2 => pe_op op_cat h1 h2) fun g v w H0 H O r1 r2 Q q => by
    obtain ⟨p, xs, rfl, hx, rs⟩ := rvL r1
    obtain ⟨p2, ys, rfl, hy, rs2⟩ := rvL r2
    refine ⟨p, p2, xs, ys, rfl, rfl, O.ex _ _ hx, O.ex _ _ hy, by rw [rs.length, rs2.length]; exact Nat.le_of_lt (small1000 hl), fun n hn => ?_⟩
    obtain ⟨t2, o2⟩ := laid (o := .lst (xs ++ ys)) O hn
    exact q _ _ _ t2 o2 (Rp.lst upd_same ((rs.app rs2).mono t2.ex))
theorem ej_catT {ds es' : List PyData} (ha : EJ X Γ B a (.da (.tuple ds)) B1) (hb : EJ X Γ B1 b (.da (.tuple es')) B2) (hl : ds.length + es'.length ≤ 1000) :
    EJ X Γ B (.BinOp a .Add b pos) (.da (.tuple (ds ++ es'))) B2 :=
  ej_bin ha hb (fun _ _ h1 h2 => pe_op op_catA h1 h2) fun g v w H0 H O r1 r2 Q q => by
    obtain ⟨p, xs, rfl, hx, rs⟩ := rvT r1
    obtain ⟨p2, ys, rfl, hy, rs2⟩ := rvT r2
    refine ⟨p, p2, xs, ys, rfl, rfl, seqT O.ex hx, seqT O.ex hy, by rw [rs.length, rs2.length]; exact Nat.le_of_lt (small1000 hl), fun e => ?_, fun _ e => ?_, fun _ _ n hn => ?_⟩
    · subst e
      cases rs
      exact q _ _ _ To.refl O (Rp.tup hy rs2)
    · subst e
      cases rs2
      rw [List.append_nil] at q
      exact q _ _ _ To.refl O (Rp.tup hx rs)
    · obtain ⟨t2, o2⟩ := laid (o := .tup (xs ++ ys)) O hn
      exact q _ _ _ t2 o2 (Rp.tup (SqT.of upd_same) ((rs.app rs2).mono t2.ex))
end
end Gd
namespace Gd
open PySem PySem.Spec PyProof.Rows L2
structure FnG (P : Program) (w : World) (K : PySem.W.Frag) (mg : Str → Option Value)
    (base : Heap) (k : Nat) (f : Addr) (fd : FuncData) (ps : List Str) (sp : Sp) : Prop where
  len : ∀ vs H Q E, sp vs H Q E → List.length vs = ps.length
  run : ∀ (A : Around) (out : List Env) (s : Shared) (H : Hp) (args : Args) (us : List Value) (vs : List V) (Q : VK) (E : XK),
    A.guards = some [] → Room k A → Env0 P w K mg base A out s H → BindsTo s fd args (ps.zip us) →
    Vals vs us → sp vs H Q E → codeAny (model P w) A (.call (.ref f) args) (CR CX0 out P w H s Q E) s
theorem FnG.le {P : Program} {w : World} {K : PySem.W.Frag} {mg : Str → Option Value} {base : Heap} {j k : Nat} {f : Addr} {fd : FuncData} {ps : List Str} {sp : Sp}
    (F : FnG P w K mg base j f fd ps sp) (h : j ≤ k) : FnG P w K mg base k f fd ps sp :=
  ⟨F.len, fun A o s H ar us vs Q E hg hr => F.run A o s H ar us vs Q E hg (hr.mono h)⟩
structure Gx (k : Nat) (X : Cx) : Prop where
  gd : X.A.guards = some []
  rm : Room k X.A
  nd : X.N.Nodup
  calm : X.calm = true
theorem Gx.hu {k : Nat} {X : Cx} (g : Gx k X) : X.A.units + 64 < cLine := g.rm.units
theorem Gx.le {j k : Nat} {X : Cx} (g : Gx k X) (h : j ≤ k) : Gx j X := ⟨g.gd, g.rm.mono h, g.nd, g.calm⟩
theorem runG {X : Cx} {k : Nat} {f : Addr} {fd : FuncData} {ps : List Str} {sp : Sp} {E : XK} {pins : List (Addr × Obj)} {σ : L2.St} {H : Hp} {s : Shared}
    {Q : VK} {us : List Value} {vs : List V} (F : FnG X.prog X.w X.K X.mg X.base k f fd ps sp) (g : Gx k X) (hb : Binds X.K fd ps [])
    (I : Inv X pins σ H s) (r : Vals vs us) (h : sp vs H Q E) : wpAny (model X.prog X.w) X.A (call (.ref f) us) (EP X pins σ Q) X.xe s := by
  have e : us.length = ps.length := r.length.symm.trans (F.len _ _ _ _ h)
  have hz := hb s us I.kIn (by rw [List.append_nil]; exact e)
  rw [List.append_nil] at hz
  have cc := F.run X.A X.stack s H ⟨us, []⟩ us vs Q E g.gd g.rm I.env0 hz r h
  refine wpAny_call (codeAny_mono cc fun res s2 q => ?_)
  match res, q with
  | .ok (.ret _), q => exact I.after q
  | .ok .next, q => exact q.elim
  | .ok .brk, q => exact q.elim
  | .ok .cont, q => exact q.elim
  | .error _, q => exact q.elim
theorem fnG_of {P : Program} {w : World} {K : PySem.W.Frag} {mg : Str → Option Value} {base : Heap} {x qual : Str} {st : Stmt} {f : Addr} {fd : FuncData}
    {N ps : List Str} {k : Nat} {sp : Sp} (F : Fun K x qual st f fd) (S : FnScope N ps (defScope st)) (len : ∀ vs H Q E, sp vs H Q E → vs.length = ps.length)
    (body : ∀ (cdv : Value) (A : Around) (out : List Env) (s : Shared) (H : Hp) (vs : List V) (Q : VK) (E : XK),
      Gx k (cxOf CX0 P w K mg base N qual (defScope st) f cdv A out s H E).nox → sp vs H Q E →
      WS (cxOf CX0 P w K mg base N qual (defScope st) f cdv A out s H E).nox (defBody st) { nx := fun _ H' => Q .non H', rt := Q } (L2.start N vs) H) :
    FnG P w K mg base (k + 1) f fd ps sp := by
  obtain ⟨c1, c2, c3, c4, c5, c6, cdv, c8, c9, rfl, lk, hcd⟩ := F.ex
  refine ⟨len, ?_⟩
  intro A out s H args us vs Q E hg hr e0 hb r hsp
  have up : ∀ b o, base.get? b = some o → s.heap.get? b = some o := fun b o e => (e0.bs b o e).1
  have KX : K.In s.heap := e0.mod.kin.keeps up
  have lim : s.heap.NoLimit := e0.mod.nolimit.keeps up
  have kinds : ∀ y ∈ ps.zip us, (defScope st).names.lookup y.1 = some .local ∨
      ((defScope st).names.lookup y.1 = some .cell ∧ ((cellsFrom (s.heap.objs.size + 1) (defScope st).names []).lookup y.1).isSome = true) := by
    rintro ⟨n, v⟩ hy
    cases S.par n (List.of_mem_zip hy).1 with
    | inl q => exact .inl q
    | inr q => exact .inr ⟨q, PySem.W.cellsFrom_some _ _ _ (.inl q)⟩
  have recd := PySem.W.codeRec_of KX hcd
  refine codeAny_call_function hr.depth (KX _ _ lk) rfl S.co S.gen rfl recd (hb _ _ _ _ ?_)
  refine wpAny_newFunctionEnv_cells S.kind kinds fun env he s1 x1 => ?_
  subst he
  refine ⟨lim.keeps x1.toInCall.keep, codeAny_func ?_⟩
  have I := inv_start (CX := CX0) (E := E) (qual := qual) (f := f) (cd := cdv) S hr.hd e0 (len _ _ _ _ hsp) r x1
  have G : Gx k (cxOf CX0 P w K mg base N qual (defScope st) f cdv A out s H E).nox := ⟨hg, hr.deeper _, S.nd, rfl⟩
  obtain ⟨t, ht, hq⟩ := body cdv A out s H vs Q E G hsp
  refine wpAny_mono (ht.nox.run [] s1 (L2.start N vs) H _ I hq) (fun fl s2 q => ?_) (fun _ _ q => q)
  match fl, q with
  | .ret u, ⟨v, σ', H', J, rv, q⟩ => exact ⟨v, H', J.os, J.bare, J.base, J.hok, rv, q⟩
  | .next, ⟨σ', H', J, q⟩ => exact ⟨.non, H', J.os, J.bare, J.base, J.hok, rfl, q⟩
  | .brk, ⟨_, _, _, q⟩ => exact q.elim
  | .cont, ⟨_, _, _, q⟩ => exact q.elim
abbrev Rel := List VD → Bag → PyData → Bag → Prop
def DefSp (K : PySem.W.Frag) (R : Rel) : Sp := fun vs H Q _ =>
  ∃ g Γ B H0 r B', RvAll K g H0 vs Γ ∧ On K g B H0 H ∧ R Γ B r B' ∧
    ∀ v H0' H', To g H0 H H0' H' → On K g B' H0' H' → Rp K H0' v r → Q v H'
def Cal (P : Program) (w : World) (K : PySem.W.Frag) (mg : Str → Option Value) (base : Heap) (x : Str) (k : Nat) (R : Rel) : Prop :=
  ∃ f fd ps, FnG P w K mg base k f fd ps (DefSp K R) ∧ mg x = some (.ref f) ∧ PySem.W.keepIn K (.ref f) = true ∧ Binds K fd ps []
theorem Cal.imp {P : Program} {w : World} {K : PySem.W.Frag} {mg : Str → Option Value} {base : Heap} {x : Str} {k : Nat} {R R' : Rel}
    (c : Cal P w K mg base x k R) (h : ∀ Γ B r B', R' Γ B r B' → R Γ B r B') : Cal P w K mg base x k R' := by
  obtain ⟨f, fd, ps, F, h1, h2, h3⟩ := c
  refine ⟨f, fd, ps, ⟨?_, ?_⟩, h1, h2, h3⟩
  · rintro vs H Q E ⟨g, Γ, B, H0, r, B', a, b, c, d⟩
    exact F.len vs H Q E ⟨g, Γ, B, H0, r, B', a, b, h _ _ _ _ c, d⟩
  · intro A o s H ar us vs Q E q1 q2 q3 q4 q5 ⟨g, Γ, B, H0, r, B', a, b, c, d⟩
    exact F.run A o s H ar us vs Q E q1 q2 q3 q4 q5 ⟨g, Γ, B, H0, r, B', a, b, h _ _ _ _ c, d⟩
theorem start_env {K : PySem.W.Frag} {g : Gh} {H0 : Hp} {N : List Str} {vs : List V} {Γ : List VD} (h : RvAll K g H0 vs Γ) (hl : Γ.length ≤ N.length) :
    EnvD K g H0 (L2.start N vs) (Γ ++ List.replicate (N.length - Γ.length) .no) := by
  have e := h.length
  refine ⟨?_, ?_⟩
  · unfold L2.start; rw [List.length_append, List.length_append, List.length_map, List.length_replicate, List.length_replicate]; omega
  · have : ∀ (vs : List V) (Γ : List VD) (m n : Nat), RvAll K g H0 vs Γ → ∀ (i : Nat) (d : VD), (Γ ++ List.replicate m .no)[i]? = some d → d ≠ .no →
        ∃ v : V, (vs.map some ++ List.replicate n (none : Option V))[i]? = some (some v) ∧ Rv K g H0 v d := by
      intro vs
      induction vs with
      | nil =>
        intro Γ m n h i d h1 h2
        cases Γ with
        | nil =>
          rw [List.nil_append, List.getElem?_replicate] at h1
          split at h1
          · cases h1; exact absurd rfl h2
          · cases h1
        | cons _ _ => exact h.elim
      | cons v vs ih =>
        intro Γ m n h i d h1 h2
        cases Γ with
        | nil => exact h.elim
        | cons d' Γ =>
          cases i with
          | zero => cases h1; exact ⟨v, rfl, h.1⟩
          | succ i => exact ih Γ m n h.2 i d h1 h2
    unfold L2.start
    exact this vs Γ _ _ h
theorem cal_of {P : Program} {w : World} {K : PySem.W.Frag} {mg : Str → Option Value} {base : Heap} {x qual : Str} {st : Stmt} {f : Addr} {fd : FuncData}
    {N ps : List Str} {k : Nat} {R : Rel} (F : Fun K x qual st f fd) (hm : mg x = some (.ref f)) (hb : Binds K fd ps []) (S : FnScope N ps (defScope st))
    (len : ∀ Γ B r B', R Γ B r B' → Γ.length = ps.length)
    (body : ∀ (cdv : Value) (A : Around) (out : List Env) (s : Shared) (H : Hp) (E : XK),
      Gx k (cxOf CX0 P w K mg base N qual (defScope st) f cdv A out s H E).nox → ∀ Γ B r B', R Γ B r B' →
      SJ (cxOf CX0 P w K mg base N qual (defScope st) f cdv A out s H E).nox (Γ ++ List.replicate (N.length - ps.length) .no) B (defBody st)
        { nx := fun _ B2 => r = .none ∧ B2 = B', rt := fun d B2 => d = r ∧ B2 = B' }) :
    Cal P w K mg base x (k + 1) R := by
  have hpl : ps.length ≤ N.length := by
    have := congrArg List.length S.pre
    rw [List.length_take] at this; omega
  refine ⟨f, fd, ps, fnG_of F S ?_ ?_, hm, F.kp, hb⟩
  · rintro vs H Q E ⟨g, Γ, B, H0, r, B', a, b, c, d⟩
    rw [a.length]; exact len _ _ _ _ c
  · intro cdv A out s H vs Q E G ⟨g, Γ, B, H0, r, B', a, b, c, d⟩
    have hl := len _ _ _ _ c
    have E0' := start_env (N := N) a (by rw [hl]; exact hpl)
    rw [hl] at E0'
    refine body cdv A out s H E G Γ B r B' c g _ H0 H E0' b _ ⟨?_, ?_, ?_, ?_⟩
    · rintro Γ2 B2 σ H1 H' ⟨rfl, rfl⟩ t _ o
      exact d _ _ _ t o .non
    · rintro r2 B2 v H1 H' ⟨rfl, rfl⟩ t o rv
      exact d _ _ _ t o rv
    · intro _ _ _ _ _ z; exact z.elim
    · intro _ _ _ _ _ z; exact z.elim
section
variable {X : Cx} {Γ : List VD} {B B1 B2 B' : Bag} {e a b c : Expr} {es : List Expr} {d da db dc : VD} {pos p pos' : Pos} {rest ss s1 s2 : List Stmt} {E : En}
theorem ej_call {x : Str} {k : Nat} {R : Rel} {ds : List VD} {r : PyData} (c : Cal X.prog X.w X.K X.mg X.base x k R) (g : Gx k X) (ha : AJ X Γ B (e :: es) ds B1) (hR : R ds B1 r B2)
    (hg : Gl X x := by rfl) (hdb : (x == ("__debug__" : Str)) = false := by decide) (he : starEach (e :: es) X.env = (false, eval e X.env) :: starEach es X.env := by rfl)
    (hpl : (backTo pos (starEach es X.env)).any (·.1) = false := by rfl) : EJ X Γ B (.Call (.Name x p) (e :: es) [] pos) (.da r) B2 := by
  obtain ⟨f, fd, ps, F, hm, hk, hb⟩ := c
  intro gh σ H0 H E O Q q
  refine ⟨fun σ H Q => WA X (e :: es) σ H fun vs H1 => DefSp X.K R vs H1 Q E0, ⟨fun pins s σ H Q I h => ?_⟩, ?_⟩
  · refine wpAny_Call_Name_kw (ld_glob I hg hm ?_ hdb)
    refine PySem.W.callWith_K (h₀ := X.base) I.ok.mod.kin hk (thn ((wa (e :: es)).run pos pins s σ H _ I h) ?_) he hpl
    rintro us s1 ⟨vs, H1, I1, r1, q1⟩
    exact ⟨I1.kIn, runG F g hb I1 r1 q1⟩
  · refine ha gh σ H0 H E O _ fun vs H1 H' t o rs => ?_
    exact ⟨gh, ds, B1, H1, r, B2, rs, o, hR, fun v H2 H'' t2 o2 rv => q v H2 H'' (t.trans t2) o2 rv⟩
theorem ej_callB {x : Str} {id : String} {r : List V → Hp → VK → Prop} {ds : List VD} (hc : CallR X (.builtin id) r) (hm : X.mg x = none) (ha : AJ X Γ B (e :: es) ds B1)
    (hr : ∀ g vs H0 H, On X.K g B1 H0 H → RvAll X.K g H0 vs ds → ∀ Q : VK, (∀ z H0' H', To g H0 H H0' H' → On X.K g B1 H0' H' → Rv X.K g H0' z d → Q z H') → r vs H Q)
    (hv : bootBuiltins x = some (.builtin id) := by decide +kernel) (hg : Gl X x := by rfl) (hn : x ≠ "__name__" := by decide) (hdb : (x == ("__debug__" : Str)) = false := by decide)
    (hpl : (backTo pos (starEach es X.env)).any (·.1) = false := by rfl) (he : starEach (e :: es) X.env = (false, eval e X.env) :: starEach es X.env := by rfl) :
    EJ X Γ B (.Call (.Name x p) (e :: es) [] pos) d B1 := fun g σ H0 H E O Q q =>
  ⟨_, pe_callB hc hg hm hv (wa (e :: es)) hn hdb he hpl, ha g σ H0 H E O _ fun vs H1 H' t o rs => hr g vs H1 H' o rs Q fun z H2 H'' t2 o2 rz => q z H2 H'' (t.trans t2) o2 rz⟩
theorem ej_callTy {x : Str} {T : String} {r : List V → Hp → VK → Prop} {ds : List VD} (hc : CallR X (.type T) r) (hm : X.mg x = none) (ha : AJ X Γ B (e :: es) ds B1)
    (hr : ∀ g vs H0 H, On X.K g B1 H0 H → RvAll X.K g H0 vs ds → ∀ Q : VK, (∀ z H0' H', To g H0 H H0' H' → On X.K g B1 H0' H' → Rv X.K g H0' z d → Q z H') → r vs H Q)
    (hv : bootBuiltins x = some (.type T) := by decide +kernel) (hg : Gl X x := by rfl) (hn : x ≠ "__name__" := by decide) (hdb : (x == ("__debug__" : Str)) = false := by decide)
    (hpl : (backTo pos (starEach es X.env)).any (·.1) = false := by rfl) (he : starEach (e :: es) X.env = (false, eval e X.env) :: starEach es X.env := by rfl) :
    EJ X Γ B (.Call (.Name x p) (e :: es) [] pos) d B1 := fun g σ H0 H E O Q q =>
  ⟨_, pe_callTy hc hg hm hv (wa (e :: es)) hn hdb he hpl, ha g σ H0 H E O _ fun vs H1 H' t o rs => hr g vs H1 H' o rs Q fun z H2 H'' t2 o2 rz => q z H2 H'' (t.trans t2) o2 rz⟩
theorem rv1 {K : PySem.W.Frag} {g : Gh} {H0 : Hp} {vs : List V} {d : VD} (h : RvAll K g H0 vs [d]) : ∃ v, vs = [v] ∧ Rv K g H0 v d := by
  match vs, h with
  | [v], h => exact ⟨v, rfl, h.1⟩
theorem rv2 {K : PySem.W.Frag} {g : Gh} {H0 : Hp} {vs : List V} {d d' : VD} (h : RvAll K g H0 vs [d, d']) : ∃ v v', vs = [v, v'] ∧ Rv K g H0 v d ∧ Rv K g H0 v' d' := by
  match vs, h with
  | [v, v'], h => exact ⟨v, v', rfl, h.1, h.2.1⟩
theorem ej_abs {i : Int} (hm : X.mg "abs" = none) (ha : EJ X Γ B a (.da (.int i)) B1) (hs : starEach [a] X.env = [(false, eval a X.env)] := by rfl) (hg : Gl X "abs" := by rfl) :
    EJ X Γ B (.Call (.Name "abs" p) [a] [] pos) (.da (.int (if i < 0 then -i else i))) B1 :=
  ej_callB call_abs hm (aj_cons ha aj_nil hs) (fun g vs H0 H O r Q q => by
    obtain ⟨v, rfl, h⟩ := rv1 r
    exact ⟨i, by rw [rvI h], q _ _ _ To.refl O (Rp.int _)⟩) (hg := hg) (he := hs)
theorem ej_int1 {i : Int} (hm : X.mg "int" = none) (ha : EJ X Γ B a (.da (.int i)) B1) (hs : starEach [a] X.env = [(false, eval a X.env)] := by rfl) (hg : Gl X "int" := by rfl) :
    EJ X Γ B (.Call (.Name "int" p) [a] [] pos) (.da (.int i)) B1 :=
  ej_callTy call_int1 hm (aj_cons ha aj_nil hs) (fun g vs H0 H O r Q q => by
    obtain ⟨v, rfl, h⟩ := rv1 r
    exact .inl ⟨i, by rw [rvI h], q _ _ _ To.refl O (Rp.int _)⟩) (hg := hg) (he := hs)
theorem ej_intB {i : Bool} (hm : X.mg "int" = none) (ha : EJ X Γ B a (.da (.bool i)) B1) (hs : starEach [a] X.env = [(false, eval a X.env)] := by rfl) (hg : Gl X "int" := by rfl) :
    EJ X Γ B (.Call (.Name "int" p) [a] [] pos) (.da (.int (if i then 1 else 0))) B1 :=
  ej_callTy call_int1 hm (aj_cons ha aj_nil hs) (fun g vs H0 H O r Q q => by
    obtain ⟨v, rfl, h⟩ := rv1 r
    exact .inr ⟨i, by rw [rvB h], q _ _ _ To.refl O (Rp.int _)⟩) (hg := hg) (he := hs)
theorem ej_lenL {ds : List PyData} (hm : X.mg "len" = none) (ha : EJ X Γ B a (.da (.list ds)) B1) (hs : starEach [a] X.env = [(false, eval a X.env)] := by rfl) (hg : Gl X "len" := by rfl) :
    EJ X Γ B (.Call (.Name "len" p) [a] [] pos) (.da (.int ds.length)) B1 :=
  ej_callB call_len_seq hm (aj_cons ha aj_nil hs) (fun g vs H0 H O r Q q => by
    obtain ⟨v, rfl, h⟩ := rv1 r
    obtain ⟨p, xs, rfl, hx, rs⟩ := rvL h
    refine ⟨p, xs, rfl, .inl (SqL.of (O.ex _ _ hx)), ?_⟩
    rw [rs.length]; exact q _ _ _ To.refl O (Rp.int _)) (hg := hg) (he := hs)
theorem ej_lenT {ds : List PyData} (hm : X.mg "len" = none) (ha : EJ X Γ B a (.da (.tuple ds)) B1) (hs : starEach [a] X.env = [(false, eval a X.env)] := by rfl) (hg : Gl X "len" := by rfl) :
    EJ X Γ B (.Call (.Name "len" p) [a] [] pos) (.da (.int ds.length)) B1 :=
  ej_callB call_len_seq hm (aj_cons ha aj_nil hs) (fun g vs H0 H O r Q q => by
    obtain ⟨v, rfl, h⟩ := rv1 r
    obtain ⟨p, xs, rfl, hx, rs⟩ := rvT h
    refine ⟨p, xs, rfl, .inr (seqT O.ex hx), ?_⟩
    rw [rs.length]; exact q _ _ _ To.refl O (Rp.int _)) (hg := hg) (he := hs)
def boxed : PyData → Bool
  | .list _ => true
  | .tuple _ => true
  | _ => false
theorem tj_val {x : Bool} (h : EJ X Γ B e (.da (.bool x)) B1) (he : ∀ whole, isTrue e X.env whole = (do let v ← whole; standAt e.pos; holding [v] (truthy v)) := by intro _; rfl) :
    TJ X Γ B e x B1 := fun g σ H0 H E O Q q => ⟨_, pt_val (we e) he, h g σ H0 H E O _ fun v H1 H' t o r => ⟨x, rvB r, q H1 H' t o⟩⟩
theorem tj_cmp {op : CmpOp} {x : Bool} {r : R2} (ha : EJ X Γ B a da B1) (hb : EJ X Γ B1 b db B2) (ho : OpR X (compareOp op) r) (hm : behindInMarks op b = false)
    (hr : ∀ g v w H0 H, On X.K g B2 H0 H → Rv X.K g H0 v da → Rv X.K g H0 w db → ∀ Q : VK, (∀ H0' H', To g H0 H H0' H' → On X.K g B2 H0' H' → Q (.bl x) H') → r v w H Q) :
    TJ X Γ B (.Compare a [op] [b] pos) x B2 := fun g σ H0 H E O Q q =>
  ⟨_, pt_cmpR ho (we a) (we b) hm, ha g σ H0 H E O _ fun v H1 H' t o rv => hb g σ H1 H' (E.mono t.ex) o _ fun w H2 H'' t2 o2 rw' =>
    hr g v w H2 H'' o2 (rv.mono t2.ex) rw' _ fun H3 H3' t3 o3 => ⟨x, rfl, q H3 H3' ((t.trans t2).trans t3) o3⟩⟩
theorem tj_cmpI {i j : Int} {z : Int → Int → V} {y : Bool} {op : CmpOp} (ha : EJ X Γ B a (.da (.int i)) B1) (hb : EJ X Γ B1 b (.da (.int j)) B2)
    (ho : OpR X (compareOp op) (rI0 z)) (hz : z i j = .bl y) (hm : behindInMarks op b = false) : TJ X Γ B (.Compare a [op] [b] pos) y B2 :=
  tj_cmp ha hb ho hm fun g v w H0 H O r1 r2 Q q => ⟨i, j, rvI r1, rvI r2, by rw [hz]; exact q H0 H To.refl O⟩
theorem tj_lt {i j : Int} (ha : EJ X Γ B a (.da (.int i)) B1) (hb : EJ X Γ B1 b (.da (.int j)) B2) : TJ X Γ B (.Compare a [.Lt] [b] pos) (decide (i < j)) B2 := tj_cmpI ha hb op_lt rfl (nomark _)
theorem tj_le {i j : Int} (ha : EJ X Γ B a (.da (.int i)) B1) (hb : EJ X Γ B1 b (.da (.int j)) B2) : TJ X Γ B (.Compare a [.LtE] [b] pos) (decide (i ≤ j)) B2 := tj_cmpI ha hb op_le rfl (nomark _)
theorem tj_gt {i j : Int} (ha : EJ X Γ B a (.da (.int i)) B1) (hb : EJ X Γ B1 b (.da (.int j)) B2) : TJ X Γ B (.Compare a [.Gt] [b] pos) (decide (j < i)) B2 := tj_cmpI ha hb op_gt rfl (nomark _)
theorem tj_ge {i j : Int} (ha : EJ X Γ B a (.da (.int i)) B1) (hb : EJ X Γ B1 b (.da (.int j)) B2) : TJ X Γ B (.Compare a [.GtE] [b] pos) (decide (j ≤ i)) B2 := tj_cmpI ha hb op_ge rfl (nomark _)
theorem tj_eq {x y : PyData} (hu : X.A.units + 64 < cLine) (ha : EJ X Γ B a (.da x) B1) (hb : EJ X Γ B1 b (.da y) B2) (hx : SeqAt.shaped x = true) (hy : SeqAt.shaped y = true) :
    TJ X Γ B (.Compare a [.Eq] [b] pos) (PyData.eqv x y) B2 :=
  tj_cmp ha hb (op_eqD hu) (nomark _) fun g v w H0 H O r1 r2 Q q => ⟨x, y, (Rp.mono O.ex r1).dp, (Rp.mono O.ex r2).dp, hx, hy, q H0 H To.refl O⟩
theorem tj_ne {x y : PyData} (hu : X.A.units + 64 < cLine) (ha : EJ X Γ B a (.da x) B1) (hb : EJ X Γ B1 b (.da y) B2) (hx : SeqAt.shaped x = true) (hy : SeqAt.shaped y = true) :
    TJ X Γ B (.Compare a [.NotEq] [b] pos) (!PyData.eqv x y) B2 :=
  tj_cmp ha hb (op_neD hu) (nomark _) fun g v w H0 H O r1 r2 Q q => ⟨x, y, (Rp.mono O.ex r1).dp, (Rp.mono O.ex r2).dp, hx, hy, q H0 H To.refl O⟩
theorem eqv_int (i j : Int) : PyData.eqv (.int i) (.int j) = decide (i = j) := by
  simp only [PyData.eqv]; exact Bool.beq_eq_decide_eq i j
theorem tj_eqI {i j : Int} (hu : X.A.units + 64 < cLine) (ha : EJ X Γ B a (.da (.int i)) B1) (hb : EJ X Γ B1 b (.da (.int j)) B2) : TJ X Γ B (.Compare a [.Eq] [b] pos) (decide (i = j)) B2 := by
  rw [← eqv_int]; exact tj_eq hu ha hb rfl rfl
theorem tj_eqS {i j : Str} (ha : EJ X Γ B a (.da (.str i)) B1) (hb : EJ X Γ B1 b (.da (.str j)) B2) : TJ X Γ B (.Compare a [.Eq] [b] pos) (decide (i = j)) B2 :=
  tj_cmp ha hb op_eq (nomark _) fun g v w H0 H O r1 r2 Q q => by
    rw [rvS r1, rvS r2]
    have e : decide (V.str i = V.str j) = decide (i = j) := by
      by_cases h : i = j
      · subst h; simp
      · rw [decide_eq_false h, decide_eq_false fun z => h (V.str.inj z)]
    refine ⟨rfl, ?_⟩
    rw [e]; exact q H0 H To.refl O
theorem tj_is {x y : Bool} (h : TJ X Γ B e x B1) (hxy : x = y) : TJ X Γ B e y B1 := hxy ▸ h
theorem ej_is {x y : PyData} (h : EJ X Γ B e (.da x) B1) (hxy : x = y) : EJ X Γ B e (.da y) B1 := hxy ▸ h
theorem tj_not {x : Bool} (h : TJ X Γ B e x B1) : TJ X Γ B (.UnaryOp .Not e pos) (!x) B1 := fun g σ H0 H E O Q q =>
  ⟨_, pt_not (wt e), h g σ H0 H E O _ fun H1 H' t o => q H1 H' t o⟩
def WW (X : Cx) (e : Expr) : TT := fun σ H Q => ∃ t, PW X e t ∧ t σ H Q
theorem ww {X : Cx} (e : Expr) : PW X e (WW X e) := ⟨fun w p s σ H Q I ⟨_, ht, h⟩ => ht.run w p s σ H Q I h⟩
def WJ (X : Cx) (Γ : List VD) (B : Bag) (e : Expr) (b : Bool) (B' : Bag) : Prop :=
  ∀ g σ H0 H, EnvD X.K g H0 σ Γ → On X.K g B H0 H → ∀ Q : Bool → Hp → Prop, (∀ H0' H', To g H0 H H0' H' → On X.K g B' H0' H' → Q b H') → WW X e σ H Q
theorem tj_w {x : Bool} (h : WJ X Γ B e x B1) : TJ X Γ B e x B1 := fun g σ H0 H E O Q q => let ⟨t, h1, h2⟩ := h g σ H0 H E O Q q; ⟨t, h1.pt, h2⟩
theorem wj_and1 {x : Bool} (h : TJ X Γ B e x B1) : WJ X Γ B (.BoolOp .And [e] pos) x B1 := fun g σ H0 H E O Q q => ⟨_, pw_and1 (wt e), h g σ H0 H E O Q q⟩
theorem wj_or1 {x : Bool} (h : TJ X Γ B e x B1) : WJ X Γ B (.BoolOp .Or [e] pos) x B1 := fun g σ H0 H E O Q q => ⟨_, pw_or1 (wt e), h g σ H0 H E O Q q⟩
theorem wj_and {x y : Bool} (h : TJ X Γ B e x B) (hr : x = true → WJ X Γ B (.BoolOp .And (a :: es) pos) y B) : WJ X Γ B (.BoolOp .And (e :: a :: es) pos) (x && y) B := fun g σ H0 H E O Q q =>
  ⟨_, pw_and (wt e) (ww _), h g σ H0 H E O _ fun H1 H' t o => by
    cases x with
    | true => exact iteT (hr rfl g σ H1 H' (E.mono t.ex) o Q fun H2 H'' t2 o2 => q H2 H'' (t.trans t2) o2)
    | false => exact iteF (q H1 H' t o)⟩
theorem wj_or {x y : Bool} (h : TJ X Γ B e x B) (hr : x = false → WJ X Γ B (.BoolOp .Or (a :: es) pos) y B) : WJ X Γ B (.BoolOp .Or (e :: a :: es) pos) (x || y) B := fun g σ H0 H E O Q q =>
  ⟨_, pw_or (wt e) (ww _), h g σ H0 H E O _ fun H1 H' t o => by
    cases x with
    | true => exact iteT (q H1 H' t o)
    | false => exact iteF (hr rfl g σ H1 H' (E.mono t.ex) o Q fun H2 H'' t2 o2 => q H2 H'' (t.trans t2) o2)⟩
theorem ej_one {op} (h : EJ X Γ B e d B1) : EJ X Γ B (.BoolOp op [e] pos) d B1 := fun g σ H0 H E O Q q => ⟨_, pe_one (we e), h g σ H0 H E O Q q⟩
theorem ej_and {x y : Bool} (h : EJ X Γ B e (.da (.bool x)) B1) (hr : x = true → EJ X Γ B1 (.BoolOp .And (a :: es) pos) (.da (.bool y)) B1) : EJ X Γ B (.BoolOp .And (e :: a :: es) pos) (.da (.bool (x && y))) B1 := fun g σ H0 H E O Q q =>
  ⟨_, pe_and (we e) (we _), h g σ H0 H E O _ fun v H1 H' t o r => ⟨x, rvB r, by
    cases x with
    | true => exact iteT (hr rfl g σ H1 H' (E.mono t.ex) o Q fun z H2 H'' t2 o2 r2 => q z H2 H'' (t.trans t2) o2 r2)
    | false => exact iteF (q _ H1 H' t o (Rp.bl _))⟩⟩
theorem ej_or {x y : Bool} (h : EJ X Γ B e (.da (.bool x)) B1) (hr : x = false → EJ X Γ B1 (.BoolOp .Or (a :: es) pos) (.da (.bool y)) B1) : EJ X Γ B (.BoolOp .Or (e :: a :: es) pos) (.da (.bool (x || y))) B1 := fun g σ H0 H E O Q q =>
  ⟨_, pe_or (we e) (we _), h g σ H0 H E O _ fun v H1 H' t o r => ⟨x, rvB r, by
    cases x with
    | true => exact iteT (q _ H1 H' t o (Rp.bl _))
    | false => exact iteF (hr rfl g σ H1 H' (E.mono t.ex) o Q fun z H2 H'' t2 o2 r2 => q z H2 H'' (t.trans t2) o2 r2)⟩⟩
theorem ej_not {x : Bool} (h : EJ X Γ B e (.da (.bool x)) B1) : EJ X Γ B (.UnaryOp .Not e pos) (.da (.bool (!x))) B1 := fun g σ H0 H E O Q q =>
  ⟨_, pe_not (we e), h g σ H0 H E O _ fun v H1 H' t o r => ⟨x, rvB r, q _ H1 H' t o (Rp.bl _)⟩⟩
theorem ej_if {x : Bool} (h : TJ X Γ B c x B1) (h1 : x = true → EJ X Γ B1 a d B2) (h2 : x = false → EJ X Γ B1 b d B2) : EJ X Γ B (.IfExp c a b pos) d B2 := fun g σ H0 H E O Q q =>
  ⟨_, pe_ifExp (wt c) (we a) (we b), h g σ H0 H E O _ fun H1 H' t o => by
    cases x with
    | true => exact iteT (h1 rfl g σ H1 H' (E.mono t.ex) o Q fun z H2 H'' t2 o2 r2 => q z H2 H'' (t.trans t2) o2 r2)
    | false => exact iteF (h2 rfl g σ H1 H' (E.mono t.ex) o Q fun z H2 H'' t2 o2 r2 => q z H2 H'' (t.trans t2) o2 r2)⟩
theorem sj_nil (h : E.nx Γ B) : SJ X Γ B [] E := fun g σ H0 H Ev O D G => ⟨_, pss_nil, G.nx Γ B σ H0 H h To.refl Ev O⟩
theorem sj_ret (h : EJ X Γ B e (.da da') B1) (hr : E.rt da' B1) : SJ X Γ B (.Return (some e) pos :: rest) E := fun g σ H0 H Ev O D G =>
  ⟨_, pss_cons (ps_ret (we e)) (ws rest), h g σ H0 H Ev O _ fun v H1 H' t o r => G.rt _ B1 v H1 H' hr t o r⟩
theorem sj_set (i : Nat) {x : Str} (nd : X.N.Nodup) (h : EJ X Γ B e d B1) (k : SJ X (Γ.set i d) B1 rest E) (hi : X.N[i]? = some x := by rfl)
    (hx : Loc X.env.scope x := by first | exact Or.inl rfl | exact Or.inr rfl) (hs : swapsWith e (some (.Name x pos')) pos.line X.env = pure false := by rfl)
    (hf : X.fn x = true ∨ X.env.scope.names.lookup x = some .local := by first | exact Or.inl rfl | exact Or.inr rfl) : SJ X Γ B (.Assign [.Name x pos'] e pos :: rest) E := fun g σ H0 H Ev O D G =>
  ⟨_, pss_cons (ps_set nd hi hx (we e) hs hf) (ws rest), h g σ H0 H Ev O _ fun v H1 H' t o r => k g _ H1 H' ((Ev.mono t.ex).set i r) o D (G.on t)⟩
theorem sj_if {x : Bool} (h : TJ X Γ B c x B1) (h1 : x = true → SJ X Γ B1 s1 { E with nx := fun Γ' B' => SJ X Γ' B' rest E }) (h2 : x = false → SJ X Γ B1 s2 { E with nx := fun Γ' B' => SJ X Γ' B' rest E }) :
    SJ X Γ B (.If c s1 s2 pos :: rest) E := fun g σ H0 H Ev O D G =>
  ⟨_, pss_cons (ps_if (wt c) (ws s1) (ws s2)) (ws rest), h g σ H0 H Ev O _ fun H1 H' t o => by
    have G' : Gets X { E with nx := fun Γ' B' => SJ X Γ' B' rest E } g H1 H' { D with nx := WS X rest D } :=
      ⟨fun Γ2 B2 σ2 H2 H'' q t2 ev o2 => q g σ2 H2 H'' ev o2 D (G.on (t.trans t2)), (G.on t).rt, (G.on t).bk, (G.on t).ct⟩
    cases x with
    | true => exact iteT (h1 rfl g σ H1 H' (Ev.mono t.ex) o _ G')
    | false => exact iteF (h2 rfl g σ H1 H' (Ev.mono t.ex) o _ G')⟩
theorem sj_when {x : Bool} (h : TJ X Γ B c x B1) (h1 : x = true → SJ X Γ B1 s1 { E with nx := fun Γ' B' => SJ X Γ' B' rest E }) (h2 : x = false → SJ X Γ B1 rest E) :
    SJ X Γ B (.If c s1 [] pos :: rest) E := sj_if h h1 fun e => sj_nil (h2 e)
theorem sj_mono {E' : En} (h : SJ X Γ B ss E) (h1 : ∀ Γ B, E.nx Γ B → E'.nx Γ B) (h2 : ∀ r B, E.rt r B → E'.rt r B) (h3 : ∀ Γ B, E.bk Γ B → E'.bk Γ B) (h4 : ∀ Γ B, E.ct Γ B → E'.ct Γ B) : SJ X Γ B ss E' :=
  fun g σ H0 H Ev O D G => h g σ H0 H Ev O D ⟨fun Γ B σ a b q => G.nx Γ B σ a b (h1 _ _ q), fun r B v a b q => G.rt r B v a b (h2 _ _ q), fun Γ B σ a b q => G.bk Γ B σ a b (h3 _ _ q), fun Γ B σ a b q => G.ct Γ B σ a b (h4 _ _ q)⟩
end
end Gd
namespace Gd
open PySem PySem.Spec PyProof.Rows L2
def cutP (ds : List PyData) (lo hi : Option Int) : List PyData := (ds.drop (HT.sIx ds.length 0 lo)).take (HT.sIx ds.length ds.length hi - HT.sIx ds.length 0 lo)
theorem RpAll.cut {K : PySem.W.Frag} {H : Hp} {xs : List V} {ds : List PyData} (r : RpAll K H xs ds) (lo hi : Option Int) : RpAll K H (cutV xs lo hi) (cutP ds lo hi) := by
  unfold cutV cutP
  rw [r.length]
  exact (r.drop _).take _
theorem RpAll.ints {K : PySem.W.Frag} {H : Hp} : ∀ ns : List Int, RpAll K H (ns.map V.int) (ns.map PyData.int)
  | [] => .nil
  | n :: ns => .cons (.int n) (RpAll.ints ns)
theorem RpAll.ints_of {K : PySem.W.Frag} {H : Hp} : ∀ {xs : List V} {ns : List Int}, RpAll K H xs (ns.map PyData.int) → xs = ns.map V.int
  | [], [], _ => rfl
  | _ :: _, n :: ns, .cons h r => by
    cases h
    rw [RpAll.ints_of r]; rfl
section
variable {X : Cx} {Γ : List VD} {B B1 B2 B3 B' : Bag} {e a b c : Expr} {es : List Expr} {d da db dc : VD} {pos p pos' : Pos} {rest ss s1 s2 : List Stmt} {E : En}
def OJ (X : Cx) (Γ : List VD) (B : Bag) (o : Option Expr) (v : Option Int) (B' : Bag) : Prop :=
  ∀ g σ H0 H, EnvD X.K g H0 σ Γ → On X.K g B H0 H → ∀ Q : Option Int → Hp → Prop,
    (∀ H0' H', To g H0 H H0' H' → On X.K g B' H0' H' → Q v H') → ∃ t, PO X o t ∧ t σ H Q
theorem oj_none : OJ X Γ B none none B := fun g σ H0 H _ O Q q => ⟨_, po_none, q H0 H To.refl O⟩
theorem oj_some {i : Int} (h : EJ X Γ B e (.da (.int i)) B1) : OJ X Γ B (some e) (some i) B1 := fun g σ H0 H E O Q q =>
  ⟨_, po_some (we e), h g σ H0 H E O _ fun v H1 H' t o r => ⟨i, rvI r, q H1 H' t o⟩⟩
def WO (X : Cx) (o : Option Expr) : TO := fun σ H Q => ∃ t, PO X o t ∧ t σ H Q
theorem wo (o : Option Expr) : PO X o (WO X o) := ⟨fun p s σ H Q I ⟨_, ht, h⟩ => ht.run p s σ H Q I h⟩
theorem ej_slice {r : V → Option Int → Option Int → Hp → VK → Prop} {lo hi : Option Expr} {l u : Option Int} {p2 : Pos} (hr : SlR X r) (ha : EJ X Γ B a da B1) (hl : OJ X Γ B1 lo l B2) (hu : OJ X Γ B2 hi u B3)
    (k : ∀ g v H0 H, On X.K g B3 H0 H → Rv X.K g H0 v da → ∀ Q : VK, (∀ z H0' H', To g H0 H H0' H' → On X.K g B3 H0' H' → Rv X.K g H0' z d → Q z H') → r v l u H Q) :
    EJ X Γ B (.Subscript a (.Slice lo hi none p2) pos) d B3 := fun g σ H0 H E O Q q =>
  ⟨_, pe_slice hr (we a) (wo lo) (wo hi), ha g σ H0 H E O _ fun v H1 H' t o rv => hl g σ H1 H' (E.mono t.ex) o _ fun H2 H'' t2 o2 =>
    hu g σ H2 H'' (E.mono (t.trans t2).ex) o2 _ fun H3 H3' t3 o3 => k g v H3 H3' o3 (rv.mono (t2.trans t3).ex) Q fun z H4 H4' t4 o4 r4 => q z H4 H4' (((t.trans t2).trans t3).trans t4) o4 r4⟩
theorem ej_sliceL {lo hi : Option Expr} {l u : Option Int} {p2 : Pos} {ds : List PyData} (ha : EJ X Γ B a (.da (.list ds)) B1) (hl : OJ X Γ B1 lo l B2) (hu : OJ X Γ B2 hi u B3) :
    EJ X Γ B (.Subscript a (.Slice lo hi none p2) pos) (.da (.list (cutP ds l u))) B3 :=
  ej_slice sl_list ha hl hu fun g v H0 H O r Q q => by
    obtain ⟨p, xs, rfl, hx, rs⟩ := rvL r
    refine ⟨p, xs, rfl, SqL.of (O.ex _ _ hx), fun n hn => ?_⟩
    obtain ⟨t2, o2⟩ := laid (o := .lst (cutV xs l u)) O hn
    exact q _ _ _ t2 o2 (Rp.lst upd_same ((rs.cut l u).mono t2.ex))
theorem ej_sliceT {lo hi : Option Expr} {l u : Option Int} {p2 : Pos} {ds : List PyData} (ha : EJ X Γ B a (.da (.tuple ds)) B1) (hl : OJ X Γ B1 lo l B2) (hu : OJ X Γ B2 hi u B3) :
    EJ X Γ B (.Subscript a (.Slice lo hi none p2) pos) (.da (.tuple (cutP ds l u))) B3 :=
  ej_slice sl_tupA ha hl hu fun g v H0 H O r Q q => by
    obtain ⟨p, xs, rfl, hx, rs⟩ := rvT r
    refine ⟨p, xs, rfl, seqT O.ex hx, fun w => ?_, fun _ n hn => ?_⟩
    · have e : cutP ds l u = ds := by
        rw [rs.length] at w
        unfold cutP
        rw [w.1, w.2]
        simp
      have q := q (.ref p) H0 H To.refl O
      rw [e] at q
      exact q (Rp.tup hx rs)
    · obtain ⟨t2, o2⟩ := laid (o := .tup (cutV xs l u)) O hn
      exact q _ _ _ t2 o2 (Rp.tup (SqT.of upd_same) ((rs.cut l u).mono t2.ex))
theorem ej_sliceScr {lo hi : Option Expr} {l u : Option Int} {p2 : Pos} {ns : List Int} (ha : EJ X Γ B a (.scr ns) B1) (hl : OJ X Γ B1 lo l B2) (hu : OJ X Γ B2 hi u B3) :
    EJ X Γ B (.Subscript a (.Slice lo hi none p2) pos) (.da (.list (cutP (ns.map .int) l u))) B3 :=
  ej_slice sl_list ha hl hu fun g v H0 H O r Q q => by
    obtain ⟨p, rfl, hx⟩ := r
    refine ⟨p, _, rfl, O.ex.seq hx, fun n hn => ?_⟩
    obtain ⟨t2, o2⟩ := laid (o := .lst (cutV (ns.map V.int) l u)) O hn
    exact q _ _ _ t2 o2 (Rp.lst upd_same ((RpAll.ints ns).cut l u))
theorem ej_bagAt {i : Int} {y : PyData} {k : Nat} (ha : EJ X Γ B a .bag B1) (hb : EJ X Γ B1 b (.da (.int i)) B2) (hi : i = (k : Int)) (hk : k = 0 ∧ y = .int B2.x ∨ k = 1 ∧ y = .int B2.y ∨ k = 2 ∧ y = .int B2.z ∨ k = 3 ∧ y = .list (B2.cs.map .int)) (hs : PlainIx b) :
    EJ X Γ B (.Subscript a b pos) (.da y) B2 :=
  ej_bin ha hb (fun _ _ h1 h2 => pe_ix ix_list h1 h2 hs) fun g v w H0 H O r1 r2 Q q => by
    obtain ⟨p, l, hg, rfl⟩ := r1
    obtain ⟨_, h2, h3⟩ := O.bag p l hg
    subst hi
    rcases hk with ⟨rfl, rfl⟩ | ⟨rfl, rfl⟩ | ⟨rfl, rfl⟩ | ⟨rfl, rfl⟩
    · exact ⟨p, _, _, _, rfl, rvI r2, SqL.of h2, rfl, q _ _ _ To.refl O (Rp.int _)⟩
    · exact ⟨p, _, _, _, rfl, rvI r2, SqL.of h2, rfl, q _ _ _ To.refl O (Rp.int _)⟩
    · exact ⟨p, _, _, _, rfl, rvI r2, SqL.of h2, rfl, q _ _ _ To.refl O (Rp.int _)⟩
    · exact ⟨p, _, _, _, rfl, rvI r2, SqL.of h2, rfl, q _ _ _ To.refl O (Rp.lst h3 (RpAll.ints _))⟩
theorem bagged {K : PySem.W.Frag} {g : Gh} {B B' : Bag} {H0 H : Hp} {a l : Addr} (O : On K g B H0 H) (hg : g = some (a, l)) (hc : B'.cs = B.cs) :
    To g H0 H H0 (upd H a (.lst (bagCells B' l))) ∧ On K g B' H0 (upd H a (.lst (bagCells B' l))) := by
  obtain ⟨h1, h2, h3⟩ := O.bag a l hg
  refine ⟨⟨Same.refl _, fun q u f e1 e2 => ⟨e1, ?_⟩⟩, ⟨fun q u e => ?_, fun q m e => ?_⟩⟩
  · rw [upd_ne (fun z => f l (by rw [z]; exact hg))]; exact e2
  · rw [upd_ne (ne_of_none e h1)]; exact O.ex _ _ e
  · rw [hg] at e; cases e
    exact ⟨h1, upd_same, by rw [hc]; exact h3⟩
theorem sj_bagSet {i n : Int} {k : Nat} {px : Pos} (hv : EJ X Γ B e (.da (.int n)) B1) (ha : EJ X Γ B1 a .bag B2) (hb : EJ X Γ B2 b (.da (.int i)) B3) (hi : i = (k : Int))
    (hk : k = 0 ∧ B' = { B3 with x := n } ∨ k = 1 ∧ B' = { B3 with y := n } ∨ k = 2 ∧ B' = { B3 with z := n }) (q : SJ X Γ B' rest E)
    (h1 : swapsWithSole [.Subscript a b px] e pos.line X.env = pure false := by rfl) (h2 : swappedStores [.Subscript a b px] e X.env = pure none := by rfl)
    (h3 : (assignEach [.Subscript a b px] X.env).map (·.2) = [assign (.Subscript a b px) X.env] := by rfl)
    (h4 : ∀ v, assign (.Subscript a b px) X.env v = (do
      let ov ← holding [v] (eval a X.env)
      let iv ← holding [v, ov] (eval b X.env)
      standAt px; holding [v, ov, iv] (setItem ov iv v)
      release [v, ov, iv] []) := by intro _; rfl) :
    SJ X Γ B (.Assign [.Subscript a b px] e pos :: rest) E := fun g σ H0 H Ev O D G =>
  ⟨_, pss_cons (ps_asg (we e) (pg_sub (we a) (we b) set_list h4) h1 h2 h3) (ws rest), hv g σ H0 H Ev O _ fun v H1 H' t o rv => ha g σ H1 H' (Ev.mono t.ex) o _ fun w H2 H'' t2 o2 rw' =>
    hb g σ H2 H'' (Ev.mono (t.trans t2).ex) o2 _ fun u H3 H3' t3 o3 ru => by
      obtain ⟨p, l, hg, rfl⟩ := rw'
      rw [rvI ru, rvI rv]
      subst hi
      obtain ⟨_, e2, _⟩ := o3.bag p l hg
      have tt := (t.trans t2).trans t3
      have fin : ∀ (H4 : Hp), H4 = upd H3' p (.lst (bagCells B' l)) → B'.cs = B3.cs → WS X rest D σ H4 := by
        rintro H4 rfl hc
        obtain ⟨t4, o4⟩ := bagged o3 hg hc
        exact q g σ H3 _ (Ev.mono tt.ex) o4 D (G.on (tt.trans t4))
      rcases hk with ⟨rfl, rfl⟩ | ⟨rfl, rfl⟩ | ⟨rfl, rfl⟩
      · exact ⟨p, _, _, 0, rfl, rfl, e2, rfl, fin _ rfl rfl⟩
      · exact ⟨p, _, _, 1, rfl, rfl, e2, rfl, fin _ rfl rfl⟩
      · exact ⟨p, _, _, 2, rfl, rfl, e2, rfl, fin _ rfl rfl⟩⟩
def rGetL : V → V → Hp → VK → Prop := fun o i H Q => ∃ p xs k v, o = .ref p ∧ i = .int ((k : Nat) : Int) ∧ H p = some (.lst xs) ∧ xs[k]? = some v ∧ k < 1000 ∧ Q v H
theorem get_list : PGet X rGetL := by
  intro pins s σ H o i ov iv Q I r1 r2 h
  obtain ⟨p, xs, k, v, rfl, rfl, hp, hv, hk, q⟩ := h
  cases (show ov = Value.ref p from r1)
  obtain ⟨t, rfl⟩ := r2
  obtain ⟨its, r, pl, hz⟩ := I.list (SqL.of hp)
  obtain ⟨u, hu, ru⟩ := r.get hv
  refine wpAny_getItem_list pl.isList (Int.natCast_nonneg k) (by omega) ?_ ⟨v, H, I, ru, q⟩
  rw [Int.toNat_natCast]; simpa using hu
theorem sj_bagAug {n : Int} {px : Pos} (ha : EJ X Γ B a .bag B1) (hb : EJ X Γ B1 b (.da (.int 2)) B2) (hv : EJ X Γ B2 e (.da (.int n)) B3) (hz : B3.z = B2.z) (q : SJ X Γ { B3 with z := B3.z + n } rest E)
    (h1 : ∀ ov iv new, augStore b ov iv new = (do holding [new, ov, iv] (setItem ov iv new); release [new, ov, iv] []; pure .next) := by intros; rfl) :
    SJ X Γ B (.AugAssign (.Subscript a b px) .Add e pos :: rest) E := fun g σ H0 H Ev O D G =>
  ⟨_, pss_cons (ps_augS (we a) (we b) get_list (we e) ip_add set_list h1) (ws rest), ha g σ H0 H Ev O _ fun w H1 H' t o rw' => hb g σ H1 H' (Ev.mono t.ex) o _ fun u H2 H'' t2 o2 ru => by
    obtain ⟨p, l, hg, rfl⟩ := rw'
    rw [rvI ru]
    obtain ⟨_, e2, _⟩ := o2.bag p l hg
    refine ⟨p, _, 2, .int B2.z, rfl, rfl, e2, rfl, by omega, ?_⟩
    refine hv g σ H2 H'' (Ev.mono (t.trans t2).ex) o2 _ fun v H3 H3' t3 o3 rv => ?_
    rw [rvI rv]
    obtain ⟨_, e3, _⟩ := o3.bag p l hg
    have tt := (t.trans t2).trans t3
    refine ⟨B2.z, n, rfl, rfl, p, _, 2, 2, rfl, rfl, e3, rfl, ?_⟩
    obtain ⟨t4, o4⟩ := bagged (B' := { B3 with z := B3.z + n }) o3 hg rfl
    rw [← hz]
    exact q g σ H3 _ (Ev.mono tt.ex) o4 D (G.on (tt.trans t4))⟩
theorem sj_while (nd : X.N.Nodup) (P : List VD → Bag → Prop) (μ : List VD → Bag → Nat) (h0 : P Γ B)
    (hs : ∀ Γ B, P Γ B → ∃ x, TJ X Γ B c x B ∧
      (x = true → SJ X Γ B s1 { nx := fun Γ' B' => P Γ' B' ∧ μ Γ' B' < μ Γ B, ct := fun Γ' B' => P Γ' B' ∧ μ Γ' B' < μ Γ B, bk := fun Γ' B' => SJ X Γ' B' rest E, rt := E.rt }) ∧
      (x = false → SJ X Γ B rest E))
    (hp : PassesOwn (model X.prog X.w) X.A X.env X.xe := by exact PassesOwn.never) : SJ X Γ B (.While c s1 [] pos :: rest) E := fun g σ H0 H Ev O D G =>
  ⟨_, pss_cons (ps_while hp (wt c) (ws s1)) (ws rest), by
    refine ⟨fun m σ' H' => ∃ Γ' B' H1, P Γ' B' ∧ μ Γ' B' = m ∧ To g H0 H H1 H' ∧ EnvD X.K g H1 σ' Γ' ∧ On X.K g B' H1 H', ⟨_, Γ, B, H0, h0, rfl, To.refl, Ev, O⟩, ?_⟩
    rintro m σ' H' ⟨Γ', B', H1, hP, rfl, t, ev, o⟩
    obtain ⟨x, ht, hb, hd⟩ := hs Γ' B' hP
    refine ht g σ' H1 H' ev o _ fun H2 H'' t2 o2 => ?_
    have tt := t.trans t2
    cases x with
    | true =>
      refine iteT ⟨fun σ2 H3' => ∃ m', m' < μ Γ' B' ∧ ∃ Γ2 B2 H3, P Γ2 B2 ∧ μ Γ2 B2 = m' ∧ To g H0 H H3 H3' ∧ EnvD X.K g H3 σ2 Γ2 ∧ On X.K g B2 H3 H3', fun _ _ z => z, ?_⟩
      refine hb rfl g σ' H2 H'' (ev.mono t2.ex) o2 _ ⟨?_, ?_, ?_, ?_⟩
      · rintro Γ3 B3 σ3 H3 H3' ⟨q1, q2⟩ t3 e3 o3
        exact ⟨_, q2, Γ3, B3, H3, q1, rfl, tt.trans t3, e3, o3⟩
      · intro r B3 v H3 H3' q t3 o3 rv
        exact (G.on tt).rt r B3 v H3 H3' q t3 o3 rv
      · intro Γ3 B3 σ3 H3 H3' q t3 e3 o3
        exact q g σ3 H3 H3' e3 o3 D (G.on (tt.trans t3))
      · rintro Γ3 B3 σ3 H3 H3' ⟨q1, q2⟩ t3 e3 o3
        exact ⟨_, q2, Γ3, B3, H3, q1, rfl, tt.trans t3, e3, o3⟩
    | false => exact iteF (hd rfl g σ' H2 H'' (ev.mono t2.ex) o2 D (G.on tt))⟩
theorem sj_forL (j : Nat) {x : Str} {ds : List PyData} {px : Pos} (nd : X.N.Nodup) (hc : X.calm = true) (P : Nat → List VD → Bag → Prop) (hi : EJ X Γ B e (.da (.list ds)) B1) (h0 : P 0 Γ B1)
    (hs : ∀ i y Γ' B', ds[i]? = some y → P i Γ' B' → SJ X (Γ'.set j (.da y)) B' s1 { nx := P (i + 1), ct := P (i + 1), bk := fun Γ' B' => SJ X Γ' B' rest E, rt := E.rt })
    (hd : ∀ Γ' B', P ds.length Γ' B' → SJ X Γ' B' rest E) (hN : X.N[j]? = some x := by rfl) (hx : Loc X.env.scope x := by first | exact Or.inl rfl | exact Or.inr rfl)
    (hf : X.fn x = true ∨ X.env.scope.names.lookup x = some .local := by first | exact Or.inl rfl | exact Or.inr rfl)
    (hp : PassesOwn (model X.prog X.w) X.A X.env X.xe := by exact PassesOwn.never) (hq : ∀ x, foldedSetIterable e X.env x = pure x := by intro _; rfl) :
    SJ X Γ B (.For (.Name x px) e s1 [] pos :: rest) E := fun g σ H0 H Ev O D G =>
  ⟨_, pss_cons (ps_for hp hc (pi_list (we e)) (pg_name nd hN hx hf) (ws s1) hq) (ws rest), hi g σ H0 H Ev O _ fun v H1 H' t o r => by
    obtain ⟨p, xs, rfl, hxs, rs⟩ := rvL r
    refine ⟨p, rfl, ⟨xs, SqL.of (o.ex _ _ hxs)⟩, ?_⟩
    refine for_list (xs := xs) (fun i σ' H'' => ∃ Γ' B' H2, P i Γ' B' ∧ To g H1 H' H2 H'' ∧ EnvD X.K g H2 σ' Γ' ∧ On X.K g B' H2 H'') ⟨Γ, B1, H1, h0, To.refl, Ev.mono t.ex, o⟩ ?_ ?_ ?_
    · rintro i σ' H'' _ ⟨Γ', B', H2, _, t2, _, o2⟩
      exact SqL.of (o2.ex _ _ (t2.ex _ _ hxs))
    · rintro i y σ' H'' hy ⟨Γ', B', H2, hP, t2, e2, o2⟩
      obtain ⟨d, hdi, rd⟩ := rs.get hy
      refine hs i d Γ' B' hdi hP g _ H2 H'' (e2.set j (Rp.mono t2.ex rd)) o2 _ ⟨?_, ?_, ?_, ?_⟩
      · intro Γ3 B3 σ3 H3 H3' q t3 e3 o3
        exact ⟨Γ3, B3, H3, q, t2.trans t3, e3, o3⟩
      · intro r B3 v H3 H3' q t3 o3 rv
        exact (G.on (t.trans t2)).rt r B3 v H3 H3' q t3 o3 rv
      · intro Γ3 B3 σ3 H3 H3' q t3 e3 o3
        exact q g σ3 H3 H3' e3 o3 D (G.on ((t.trans t2).trans t3))
      · intro Γ3 B3 σ3 H3 H3' q t3 e3 o3
        exact ⟨Γ3, B3, H3, q, t2.trans t3, e3, o3⟩
    · rintro σ' H'' ⟨Γ', B', H2, hP, t2, e2, o2⟩
      rw [rs.length] at hP
      exact hd Γ' B' hP g σ' H2 H'' e2 o2 D (G.on (t.trans t2))⟩
theorem sj_forT (j : Nat) {x : Str} {ds : List PyData} {px : Pos} (nd : X.N.Nodup) (hc : X.calm = true) (P : Nat → List VD → Bag → Prop) (hi : EJ X Γ B e (.da (.tuple ds)) B1) (h0 : P 0 Γ B1)
    (hs : ∀ i y Γ' B', ds[i]? = some y → P i Γ' B' → SJ X (Γ'.set j (.da y)) B' s1 { nx := P (i + 1), ct := P (i + 1), bk := fun Γ' B' => SJ X Γ' B' rest E, rt := E.rt })
    (hd : ∀ Γ' B', P ds.length Γ' B' → SJ X Γ' B' rest E) (hN : X.N[j]? = some x := by rfl) (hx : Loc X.env.scope x := by first | exact Or.inl rfl | exact Or.inr rfl)
    (hf : X.fn x = true ∨ X.env.scope.names.lookup x = some .local := by first | exact Or.inl rfl | exact Or.inr rfl)
    (hp : PassesOwn (model X.prog X.w) X.A X.env X.xe := by exact PassesOwn.never) (hq : ∀ x, foldedSetIterable e X.env x = pure x := by intro _; rfl) :
    SJ X Γ B (.For (.Name x px) e s1 [] pos :: rest) E := fun g σ H0 H Ev O D G =>
  ⟨_, pss_cons (ps_for hp hc (pi_tup (we e)) (pg_name nd hN hx hf) (ws s1) hq) (ws rest), hi g σ H0 H Ev O _ fun v H1 H' t o r => by
    obtain ⟨p, xs, rfl, hxs, rs⟩ := rvT r
    refine ⟨p, rfl, ⟨xs, seqT o.ex hxs⟩, ?_⟩
    refine for_tup (xs := xs) (fun i σ' H'' => ∃ Γ' B' H2, P i Γ' B' ∧ To g H1 H' H2 H'' ∧ EnvD X.K g H2 σ' Γ' ∧ On X.K g B' H2 H'') ⟨Γ, B1, H1, h0, To.refl, Ev.mono t.ex, o⟩ ?_ ?_ ?_
    · rintro i σ' H'' _ ⟨Γ', B', H2, _, t2, _, o2⟩
      exact seqT o2.ex (seqT t2.ex hxs)
    · rintro i y σ' H'' hy ⟨Γ', B', H2, hP, t2, e2, o2⟩
      obtain ⟨d, hdi, rd⟩ := rs.get hy
      refine hs i d Γ' B' hdi hP g _ H2 H'' (e2.set j (Rp.mono t2.ex rd)) o2 _ ⟨?_, ?_, ?_, ?_⟩
      · intro Γ3 B3 σ3 H3 H3' q t3 e3 o3
        exact ⟨Γ3, B3, H3, q, t2.trans t3, e3, o3⟩
      · intro r B3 v H3 H3' q t3 o3 rv
        exact (G.on (t.trans t2)).rt r B3 v H3 H3' q t3 o3 rv
      · intro Γ3 B3 σ3 H3 H3' q t3 e3 o3
        exact q g σ3 H3 H3' e3 o3 D (G.on ((t.trans t2).trans t3))
      · intro Γ3 B3 σ3 H3 H3' q t3 e3 o3
        exact ⟨Γ3, B3, H3, q, t2.trans t3, e3, o3⟩
    · rintro σ' H'' ⟨Γ', B', H2, hP, t2, e2, o2⟩
      rw [rs.length] at hP
      exact hd Γ' B' hP g σ' H2 H'' e2 o2 D (G.on (t.trans t2))⟩
theorem sj_par (i j : Nat) {x y : Str} {px py pt : Pos} {kt k2 pt2} {d1 d2 : VD} (nd : X.N.Nodup) (hc : X.calm = true) (h : AJ X Γ B [a, b] [d1, d2] B1) (k : SJ X ((Γ.set i d1).set j d2) B1 rest E)
    (hij : i ≠ j) (hw : swappedStores [.Tuple [.Name x px, .Name y py] kt pt] (.Tuple [a, b] k2 pt2) X.env = pure (some [x, y])) (hi : X.N[i]? = some x := by rfl) (hj : X.N[j]? = some y := by rfl)
    (hx : X.env.scope.names.lookup x = some .local := by rfl) (hy : X.env.scope.names.lookup y = some .local := by rfl)
    (hsw : swapsWithSole [.Tuple [.Name x px, .Name y py] kt pt] (.Tuple [a, b] k2 pt2) pos.line X.env = pure false := by rfl) :
    SJ X Γ B (.Assign [.Tuple [.Name x px, .Name y py] kt pt] (.Tuple [a, b] k2 pt2) pos :: rest) E := fun g σ H0 H Ev O D G =>
  ⟨_, pss_cons (ps_par hc nd hi hj hij hx hy (wa [a, b]) hw hsw) (ws rest), h g σ H0 H Ev O _ fun vs H1 H' t o r => by
    obtain ⟨v, w, rfl, r1, r2⟩ := rv2 r
    exact ⟨v, w, rfl, k g _ H1 H' (((Ev.mono t.ex).set i r1).set j r2) o D (G.on t)⟩⟩
def gNames : List Nat → TGs
  | [] => gNil
  | i :: is => gCons (gName i) (gNames is)
def setAll (Γ : List VD) : List Nat → List PyData → List VD
  | i :: is, d :: ds => setAll (Γ.set i (.da d)) is ds
  | _, _ => Γ
theorem gNames_run {K : PySem.W.Frag} {g : Gh} {H0 H : Hp} {Q : L2.St → Hp → Prop} : ∀ (is : List Nat) (vs : List V) (ds : List PyData) (σ : L2.St) (Γ : List VD), RpAll K H0 vs ds → is.length = ds.length → EnvD K g H0 σ Γ →
    (∀ σ', EnvD K g H0 σ' (setAll Γ is ds) → Q σ' H) → gNames is vs σ H Q
  | [], _, _, σ, Γ, .nil, _, e, q => ⟨rfl, q σ e⟩
  | i :: is, _, _, σ, Γ, .cons h r, hl, e, q => ⟨_, _, rfl, gNames_run is _ _ _ _ r (Nat.succ.inj hl) (e.set (d := .da _) i h) q⟩
theorem sj_unpack (is : List Nat) {ts : List Expr} {k} {pt : Pos} {ds : List PyData} (hc : X.calm = true) (h : EJ X Γ B e (.da (.tuple ds)) B1) (hg : PGs X ts (gNames is)) (hl : is.length = ds.length)
    (q : SJ X (setAll Γ is ds) B1 rest E) (hn : (assignEach ts X.env).length = ds.length := by rfl) (hst : (assignEach ts X.env).findIdx? (·.1) = none := by rfl)
    (h1 : swapsWithSole [.Tuple ts k pt] e pos.line X.env = pure false := by rfl) (h2 : swappedStores [.Tuple ts k pt] e X.env = pure none := by rfl)
    (h3 : (assignEach [.Tuple ts k pt] X.env).map (·.2) = [assign (.Tuple ts k pt) X.env] := by rfl) : SJ X Γ B (.Assign [.Tuple ts k pt] e pos :: rest) E := fun g σ H0 H Ev O D G =>
  ⟨_, pss_cons (ps_asg (we e) (pg_tup hc hg hn hst) h1 h2 h3) (ws rest), h g σ H0 H Ev O _ fun v H1 H' t o r => by
    obtain ⟨p, xs, rfl, hxs, rs⟩ := rvT r
    exact ⟨p, xs, rfl, seqT o.ex hxs, rs.length, gNames_run is xs ds σ Γ rs hl (Ev.mono t.ex) fun σ' e' => q g σ' H1 H' e' o D (G.on t)⟩⟩
def Blk (X : Cx) (scope : Scope) (J : Cx → Prop) : Prop := ∀ (s : Shared) (H : Hp) (C : Addr) (cl : List (Str × Addr)) (fp : List Addr), J (X.blk s H scope (compEnvC scope cl C X.env) fp)
def WB (X : Cx) (scope : Scope) (e : Expr) : TE := fun σ H Q => ∀ (s : Shared) (H' : Hp) (C : Addr) (cl : List (Str × Addr)) (fp : List Addr), WE (X.blk s H' scope (compEnvC scope cl C X.env) fp) e σ H Q
theorem wb (scope : Scope) (e : Expr) (s : Shared) (H : Hp) (C : Addr) (cl : List (Str × Addr)) (fp : List Addr) : PE (X.blk s H scope (compEnvC scope cl C X.env) fp) e (WB X scope e) :=
  ⟨fun pins s' σ H' Q I h => (we e).run pins s' σ H' Q I (h s H C cl fp)⟩
structure LcI (K : PySem.W.Frag) (g : Gh) (H1 H' : Hp) (A : Addr) (acc : List PyData) (B : Bag) (H2 H'' : Hp) : Prop where
  to : To g H1 H' H2 H''
  new : H' A = none
  no : H2 A = none
  at' : ∃ zs, H'' A = some (.lst zs) ∧ RpAll K H2 zs acc
  on : On K g B H2 H''
theorem lcI_start {K : PySem.W.Frag} {g : Gh} {H1 H' : Hp} {A : Addr} (o : On K g B H1 H') (h : H' A = none) : Off g A ∧ LcI K g H1 H' A [] B H1 (upd H' A (.lst [])) := by
  have h1 : H1 A = none := o.ex.free h
  have off : Off g A := fun l e => by
    obtain ⟨_, q, _⟩ := o.bag A l e
    rw [h] at q; cases q
  refine ⟨off, ⟨⟨Same.refl _, fun q u f e1 e2 => ⟨e1, ?_⟩⟩, h, h1, ⟨[], upd_same, .nil⟩, ⟨fun q u e => ?_, fun q l e => ?_⟩⟩⟩
  · rw [upd_ne (ne_of_none e2 h)]; exact e2
  · rw [upd_ne (ne_of_none e h1)]; exact o.ex _ _ e
  · obtain ⟨q1, q2, q3⟩ := o.bag q l e
    exact ⟨q1, by rw [upd_ne (ne_of_none q2 h)]; exact q2, q3⟩
theorem lcI_app {K : PySem.W.Frag} {g : Gh} {H1 H' : Hp} {A : Addr} {acc : List PyData} {H2 H'' H3 H3' : Hp} {v : V} {y : PyData} (off : Off g A) (I : LcI K g H1 H' A acc B1 H2 H'') (t : To g H2 H'' H3 H3') (o : On K g B2 H3 H3') (r : Rp K H3 v y) :
    ∃ zs, H3' A = some (.lst zs) ∧ zs.length = acc.length ∧ LcI K g H1 H' A (acc ++ [y]) B2 H3 (upd H3' A (.lst (zs ++ [v]))) := by
  obtain ⟨zs, h1, h2⟩ := I.at'
  obtain ⟨h3, h4⟩ := t.un A _ off I.no h1
  refine ⟨zs, h4, h2.length, ⟨⟨I.to.ex.trans t.ex, fun q u f e1 e2 => ?_⟩, I.new, h3, ⟨_, upd_same, (h2.mono t.ex).app (.cons r .nil)⟩, ⟨fun q u e => ?_, fun q l e => ?_⟩⟩⟩
  · by_cases hq : q = A
    · subst hq
      have z := I.new
      rw [e2] at z; cases z
    · obtain ⟨q1, q2⟩ := I.to.un q u f e1 e2
      obtain ⟨q3, q4⟩ := t.un q u f q1 q2
      exact ⟨q3, by rw [upd_ne hq]; exact q4⟩
  · rw [upd_ne (ne_of_none e h3)]; exact o.ex _ _ e
  · obtain ⟨q1, q2, q3⟩ := o.bag q l e
    have hq : q ≠ A := fun z => off l (by rw [← z]; exact e)
    exact ⟨q1, by rw [upd_ne hq]; exact q2, q3⟩
theorem lcI_end {K : PySem.W.Frag} {g : Gh} {H0 H H1 H' : Hp} {A : Addr} {acc : List PyData} {H2 H'' : Hp} (off : Off g A) (t : To g H0 H H1 H') (I : LcI K g H1 H' A acc B H2 H'') :
    ∃ H3, To g H0 H H3 H'' ∧ On K g B H3 H'' ∧ Rp K H3 (.ref A) (.list acc) := by
  obtain ⟨zs, h1, h2⟩ := I.at'
  have tt := t.trans I.to
  have up : Same H2 (upd H2 A (.lst zs)) := fun q u e => by rw [upd_ne (ne_of_none e I.no)]; exact e
  refine ⟨upd H2 A (.lst zs), ⟨tt.ex.trans up, fun q u f e1 e2 => ?_⟩, ⟨fun q u e => ?_, fun q l e => ?_⟩, Rp.lst upd_same (h2.mono up)⟩
  · obtain ⟨q1, q2⟩ := tt.un q u f e1 e2
    have hq : q ≠ A := fun z => by
      subst z
      obtain ⟨_, q3⟩ := t.un q u f e1 e2
      rw [I.new] at q3; cases q3
    exact ⟨by rw [upd_ne hq]; exact q1, q2⟩
  · by_cases hq : q = A
    · subst hq; rw [upd_same] at e; cases e; exact h1
    · rw [upd_ne hq] at e; exact I.on.ex _ _ e
  · obtain ⟨q1, q2, q3⟩ := I.on.bag q l e
    have hq : q ≠ A := fun z => off l (by rw [← z]; exact e)
    have hl : l ≠ A := fun z => by rw [z, I.no] at q3; cases q3
    exact ⟨by rw [upd_ne hq]; exact q1, q2, by rw [upd_ne hl]; exact q3⟩
theorem wipe1 {σ : L2.St} {j : Nat} {v : Option V} : wipe ((wipe σ [j]).set j v) [j] = wipe σ [j] := by
  show (((σ.set j none).set j v).set j none) = σ.set j none
  rw [List.set_set, List.set_set]
theorem wipe_env {K : PySem.W.Frag} {g : Gh} {H0 : Hp} {σ : L2.St} {j : Nat} {v : V} {d : PyData} (Ev : EnvD K g H0 σ Γ) (r : Rp K H0 v d) : EnvD K g H0 ((wipe σ [j]).set j (some v)) (Γ.set j (.da d)) := by
  show EnvD K g H0 ((σ.set j none).set j (some v)) (Γ.set j (.da d))
  rw [List.set_set]
  exact Ev.set (d := .da d) j r
def RJ (X : Cx) (Γ : List VD) (B : Bag) (t : TE) (d : VD) (B' : Bag) : Prop :=
  ∀ g σ H0 H, EnvD X.K g H0 σ Γ → On X.K g B H0 H → ∀ Q : VK,
    (∀ v H0' H', To g H0 H H0' H' → On X.K g B' H0' H' → Rv X.K g H0' v d → Q v H') → t σ H Q
theorem ej_of {t : TE} (h : PE X e t) (r : RJ X Γ B t d B1) : EJ X Γ B e d B1 := fun g σ H0 H E O Q q => ⟨t, h, r g σ H0 H E O Q q⟩
section
variable {elt : Expr} {scope : Scope} {j : Nat} {x : Str} {px : Pos} {ds ys : List PyData}
theorem lc_turn {g : Gh} {H1 H' : Hp} {A : Addr} {acc : List PyData} {H'' H2 : Hp} {σ : L2.St} {v : V} {y z : PyData} {Nx : Hp → Prop} (off : Off g A) (Ev : EnvD X.K g H1 σ Γ) (I : LcI X.K g H1 H' A acc B1 H2 H'') (r : Rp X.K H2 v y)
    (hz : acc.length < 1000) (he : Blk X scope fun Y => EJ Y (Γ.set j (.da y)) B1 elt (.da z) B2) (k : ∀ H3 H3', LcI X.K g H1 H' A (acc ++ [z]) B2 H3 H3' → Nx H3') :
    gName j v (wipe σ [j]) H'' fun σ2 H2 => wipe σ2 [j] = wipe σ [j] ∧ tYes σ2 H2 fun b H3 => if b = true then WB X scope elt σ2 H3 fun y H4 => ∃ acc, H4 A = some (.lst acc) ∧ acc.length < sizeLine ∧ Nx (upd H4 A (.lst (acc ++ [y]))) else Nx H3 := by
  refine ⟨wipe1, ?_⟩
  unfold tYes
  refine iteT ?_
  intro s hH C cl fp
  refine he s hH C cl fp g _ H2 H'' (wipe_env (Ev.mono I.to.ex) r) I.on _ fun w H3 H3' t o rw' => ?_
  obtain ⟨zs, h1, h2, J⟩ := lcI_app off I t o rw'
  exact ⟨zs, h1, by rw [h2]; exact small1000 (Nat.le_of_lt hz), k _ _ J⟩
theorem rj_lc (Bs : Nat → Bag) (hi : EJ X Γ B e (.da (.list ds)) (Bs 0)) (hl : ys.length = ds.length) (hz : ds.length ≤ 1000)
    (hs : ∀ i y z, ds[i]? = some y → ys[i]? = some z → Blk X scope fun Y => EJ Y (Γ.set j (.da y)) (Bs i) elt (.da z) (Bs (i + 1))) :
    RJ X Γ B (tLc (iList X.K (WE X e)) (gName j) tYes (WB X scope elt) [j]) (.da (.list ys)) (Bs ds.length) := fun g σ H0 H Ev O Q q =>
  hi g σ H0 H Ev O _ fun v H1 H' t o r => by
    obtain ⟨p, xs, rfl, hxs, rs⟩ := rvL r
    refine ⟨p, rfl, ⟨xs, SqL.of (o.ex _ _ hxs)⟩, fun A hA => ?_⟩
    obtain ⟨off, I0⟩ := lcI_start o hA
    refine lc_list (xs := xs) (fun i H'' => ∃ H2, LcI X.K g H1 H' A (ys.take i) (Bs i) H2 H'') ⟨_, I0⟩ ?_ ?_ ?_
    · rintro i H'' _ ⟨H2, I⟩
      exact SqL.of (I.on.ex _ _ (I.to.ex _ _ hxs))
    · rintro i w H'' hw ⟨H2, I⟩
      obtain ⟨y, hy, ry⟩ := rs.get hw
      have hi2 : i < ys.length := by rw [hl]; exact (List.getElem?_eq_some_iff.mp hy).1
      have hyz : ys[i]? = some ys[i] := List.getElem?_eq_getElem hi2
      refine lc_turn off (Ev.mono t.ex) I (ry.mono I.to.ex) (by rw [List.length_take]; omega) (hs i y _ hy hyz) fun H3 H3' J => ⟨H3, ?_⟩
      rw [List.take_add_one, hyz]; exact J
    · rintro H'' ⟨H2, I⟩
      rw [rs.length, ← hl, List.take_length] at I
      obtain ⟨H3, t3, o3, r3⟩ := lcI_end off t I
      rw [hl] at o3
      exact q _ H3 H'' t3 o3 r3
theorem rj_lcT (Bs : Nat → Bag) (hi : EJ X Γ B e (.da (.tuple ds)) (Bs 0)) (hl : ys.length = ds.length) (hz : ds.length ≤ 1000)
    (hs : ∀ i y z, ds[i]? = some y → ys[i]? = some z → Blk X scope fun Y => EJ Y (Γ.set j (.da y)) (Bs i) elt (.da z) (Bs (i + 1))) :
    RJ X Γ B (tLc (iTup X.K (WE X e)) (gName j) tYes (WB X scope elt) [j]) (.da (.list ys)) (Bs ds.length) := fun g σ H0 H Ev O Q q =>
  hi g σ H0 H Ev O _ fun v H1 H' t o r => by
    obtain ⟨p, xs, rfl, hxs, rs⟩ := rvT r
    refine ⟨p, rfl, ⟨xs, seqT o.ex hxs⟩, fun A hA => ?_⟩
    obtain ⟨off, I0⟩ := lcI_start o hA
    refine lc_tup (xs := xs) (fun i H'' => ∃ H2, LcI X.K g H1 H' A (ys.take i) (Bs i) H2 H'') ⟨_, I0⟩ ?_ ?_ ?_
    · rintro i H'' _ ⟨H2, I⟩
      exact seqT I.on.ex (seqT I.to.ex hxs)
    · rintro i w H'' hw ⟨H2, I⟩
      obtain ⟨y, hy, ry⟩ := rs.get hw
      have hi2 : i < ys.length := by rw [hl]; exact (List.getElem?_eq_some_iff.mp hy).1
      have hyz : ys[i]? = some ys[i] := List.getElem?_eq_getElem hi2
      refine lc_turn off (Ev.mono t.ex) I (ry.mono I.to.ex) (by rw [List.length_take]; omega) (hs i y _ hy hyz) fun H3 H3' J => ⟨H3, ?_⟩
      rw [List.take_add_one, hyz]; exact J
    · rintro H'' ⟨H2, I⟩
      rw [rs.length, ← hl, List.take_length] at I
      obtain ⟨H3, t3, o3, r3⟩ := lcI_end off t I
      rw [hl] at o3
      exact q _ H3 H'' t3 o3 r3
theorem ej_lc (nd : X.N.Nodup) (hc : X.calm = true) (ok : BlkOk X.N X.env.scope scope [(x, j)])
    (hg : ∀ (s : Shared) (H : Hp) (C : Addr) (cl : List (Str × Addr)) (fp : List Addr), PG (X.blk s H scope (compEnvC scope cl C X.env) fp) (.Name x px) (gName j))
    (r : RJ X Γ B (tLc (iList X.K (WE X e)) (gName j) tYes (WB X scope elt) [j]) d B1) (hq : ∀ x, foldedSetIterable e X.env x = pure x := by intro _; rfl) :
    EJ X Γ B (.ListComp elt [⟨.Name x px, e, [], 0⟩] scope pos) d B1 := ej_of (pe_lc (own := [(x, j)]) hc nd (pi_list (we e)) ok hg (fun _ _ _ _ _ => pts_nil) (wb scope elt) hq) r
theorem ej_lcT (nd : X.N.Nodup) (hc : X.calm = true) (ok : BlkOk X.N X.env.scope scope [(x, j)])
    (hg : ∀ (s : Shared) (H : Hp) (C : Addr) (cl : List (Str × Addr)) (fp : List Addr), PG (X.blk s H scope (compEnvC scope cl C X.env) fp) (.Name x px) (gName j))
    (r : RJ X Γ B (tLc (iTup X.K (WE X e)) (gName j) tYes (WB X scope elt) [j]) d B1) (hq : ∀ x, foldedSetIterable e X.env x = pure x := by intro _; rfl) :
    EJ X Γ B (.ListComp elt [⟨.Name x px, e, [], 0⟩] scope pos) d B1 := ej_of (pe_lc (own := [(x, j)]) hc nd (pi_tup (we e)) ok hg (fun _ _ _ _ _ => pts_nil) (wb scope elt) hq) r
theorem sj_setLc (i : Nat) {y : Str} {py : Pos} (nd : X.N.Nodup) (hc : X.calm = true) (ok : BlkOk X.N X.env.scope scope [(x, j)])
    (hg : ∀ (s : Shared) (H : Hp) (C : Addr) (cl : List (Str × Addr)) (fp : List Addr), PG (X.blk s H scope (compEnvC scope cl C X.env) fp) (.Name x px) (gName j))
    (r : RJ X Γ B (tLc (iList X.K (WE X e)) (gName j) tYes (WB X scope elt) [j]) d B1) (k : SJ X (Γ.set i d) B1 rest E)
    (hsw : swapsWith (.ListComp elt [⟨.Name x px, e, [], 0⟩] scope pos) (some (.Name y py)) pos'.line X.env = pure true) (hy : X.N[i]? = some y := by rfl) (hyl : X.env.scope.names.lookup y = some .local := by rfl)
    (hq : ∀ x, foldedSetIterable e X.env x = pure x := by intro _; rfl) : SJ X Γ B (.Assign [.Name y py] (.ListComp elt [⟨.Name x px, e, [], 0⟩] scope pos) pos' :: rest) E := fun g σ H0 H Ev O D G =>
  ⟨_, pss_cons (ps_setLc (i := i) (own := [(x, j)]) hc nd hy hyl hsw (pi_list (we e)) ok hg (fun _ _ _ _ _ => pts_nil) (wb scope elt) hq) (ws rest),
    r g σ H0 H Ev O _ fun v H1 H' t o rv => k g _ H1 H' ((Ev.mono t.ex).set i rv) o D (G.on t)⟩
end
end
end Gd
namespace Gd
open PySem PySem.Spec PyProof.Rows L2
section
variable {X : Cx} {Γ : List VD} {B B1 B2 B3 B' : Bag} {e a b c : Expr} {es : List Expr} {d da db dc : VD} {pos p pos' : Pos} {rest ss s1 s2 : List Stmt} {E : En}
def CDivX (_ j : Int) : Prop := j ≠ 0 ∧ j.natAbs.log2 < 9000
theorem op_fdivX : OpR X (binaryOp .FloorDiv) (rI CDivX fun i j => .int (i.fdiv j)) :=
  opI fun i j _ _ _ _ _ hc q => PyProof.Rows.floordiv_int hc.1 q (.inl (PyProof.noPylong_of_log2 hc.2))
theorem ej_fdivX {i j : Int} (ha : EJ X Γ B a (.da (.int i)) B1) (hb : EJ X Γ B1 b (.da (.int j)) B2) (hc : CDivX i j) : EJ X Γ B (.BinOp a .FloorDiv b pos) (.da (.int (i.fdiv j))) B2 :=
  ej_iic ha hb op_fdivX hc fun _ => .int _
theorem ej_gcd {i j : Int} (hm : X.mg "gcd" = some (.builtin "math.gcd")) (ha : EJ X Γ B a (.da (.int i)) B1) (hb : EJ X Γ B1 b (.da (.int j)) B2) (hg : Gl X "gcd" := by rfl)
    (h1 : starEach [a, b] X.env = (false, eval a X.env) :: starEach [b] X.env := by rfl) (h2 : starEach [b] X.env = (false, eval b X.env) :: starEach [] X.env := by rfl)
    (hpl : (backTo pos (starEach [b] X.env)).any (·.1) = false := by rfl) :
    EJ X Γ B (.Call (.Name "gcd" p) [a, b] [] pos) (.da (.int (Nat.gcd i.natAbs j.natAbs : Nat))) B2 := fun g σ H0 H E O Q q =>
  ⟨_, pe_callBfun cr_gcd hg hm (wa [a, b]) (by decide) h1 hpl, (aj_cons ha (aj_cons hb aj_nil h2) h1) g σ H0 H E O _ fun vs H1 H' t o r => by
    obtain ⟨v, w, rfl, r1, r2⟩ := rv2 r
    exact ⟨i, j, by rw [rvI r1, rvI r2], q _ _ _ t o (Rp.int _)⟩⟩
theorem ej_divmod {i j : Int} (hm : X.mg "divmod" = none) (ha : EJ X Γ B a (.da (.int i)) B1) (hb : EJ X Γ B1 b (.da (.int j)) B2) (h0 : 0 < j) (hc : j.natAbs.log2 < 9000) (hg : Gl X "divmod" := by rfl)
    (h1 : starEach [a, b] X.env = (false, eval a X.env) :: starEach [b] X.env := by rfl) (h2 : starEach [b] X.env = (false, eval b X.env) :: starEach [] X.env := by rfl)
    (hpl : (backTo pos (starEach [b] X.env)).any (·.1) = false := by rfl) :
    EJ X Γ B (.Call (.Name "divmod" p) [a, b] [] pos) (.da (.tuple [.int (i / j), .int (i % j)])) B2 :=
  ej_callB call_divmodW hm (aj_cons ha (aj_cons hb aj_nil h2) h1) (fun g vs H0 H O r Q q => by
    obtain ⟨v, w, rfl, r1, r2⟩ := rv2 r
    refine ⟨i, j, by rw [rvI r1, rvI r2], ⟨h0, PyProof.noPylong_of_log2 hc⟩, fun n hn => ?_⟩
    obtain ⟨t2, o2⟩ := laid (o := .tup [.int (i / j), .int (i % j)]) O hn
    exact q _ _ _ t2 o2 (Rp.tup (SqT.of upd_same) (.cons (.int _) (.cons (.int _) .nil)))) (hg := hg) (he := h1) (hpl := hpl)
theorem ej_tupleL {ds : List PyData} (hm : X.mg "tuple" = none) (ha : EJ X Γ B a (.da (.list ds)) B1) (hs : starEach [a] X.env = [(false, eval a X.env)] := by rfl) (hg : Gl X "tuple" := by rfl) :
    EJ X Γ B (.Call (.Name "tuple" p) [a] [] pos) (.da (.tuple ds)) B1 :=
  ej_callTy call_tuple_of hm (aj_cons ha aj_nil hs) (fun g vs H0 H O r Q q => by
    obtain ⟨v, rfl, h⟩ := rv1 r
    obtain ⟨p, xs, rfl, hx, rs⟩ := rvL h
    refine ⟨p, xs, rfl, .inl ⟨SqL.of (O.ex _ _ hx), fun n hn => ?_⟩⟩
    obtain ⟨t2, o2⟩ := laid (o := .tup xs) O hn
    exact q _ _ _ t2 o2 (Rp.tup (SqT.of upd_same) (rs.mono t2.ex))) (hg := hg) (he := hs)
theorem RpAll.rep {K : PySem.W.Frag} {H : Hp} {xs : List V} {ds : List PyData} (r : RpAll K H xs ds) : ∀ n : Nat, RpAll K H (List.replicate n xs).flatten (List.replicate n ds).flatten
  | 0 => .nil
  | n + 1 => by
    rw [List.replicate_succ, List.flatten_cons, List.replicate_succ, List.flatten_cons]
    exact r.app (RpAll.rep r n)
theorem inV_strs (x : Str) : ∀ ss : List Str, inV (.str x) (ss.map V.str) = ss.any fun s => decide (s = x)
  | [] => rfl
  | s :: ss => by
    show (eqV (.str s) (.str x) || inV (.str x) (ss.map V.str)) = (decide (s = x) || ss.any fun s => decide (s = x))
    rw [inV_strs x ss]
    have e : eqV (.str s) (.str x) = decide (s = x) := by
      first
        | rfl
        | (unfold eqV; exact Bool.beq_eq_decide_eq s x)
        | (simp [eqV])
    rw [e]
theorem RpAll.strs_of {K : PySem.W.Frag} {H : Hp} : ∀ {xs : List V} {ns : List Str}, RpAll K H xs (ns.map PyData.str) → xs = ns.map V.str
  | [], [], _ => rfl
  | _ :: _, n :: ns, .cons h r => by
    cases h
    rw [RpAll.strs_of r]; rfl
theorem tj_inT {x : Str} {ss : List Str} (ha : EJ X Γ B a (.da (.str x)) B1) (hb : EJ X Γ B1 b (.da (.tuple (ss.map .str))) B2) (hm : behindInMarks .In b = false := by rfl) :
    TJ X Γ B (.Compare a [.In] [b] pos) (ss.any fun s => decide (s = x)) B2 :=
  tj_cmp ha hb op_in_seq hm fun g v w H0 H O r1 r2 Q q => by
    obtain ⟨p, xs, rfl, hx, rs⟩ := rvT r2
    rw [rvS r1]
    have e := rs.strs_of
    subst e
    refine ⟨p, _, rfl, .inr (seqT O.ex hx), rfl, ?_, ?_⟩
    · rw [List.all_map]; exact List.all_eq_true.mpr fun _ _ => rfl
    · rw [if_neg (by decide), inV_strs]; exact q _ _ To.refl O
end
theorem sj_law {X : Cx} {Γ : List VD} {B B1 : Bag} {e : Expr} {x : Str} {pos pos' : Pos} {rest : List Stmt} {ns : List Int} {y : Int} (i : Nat) (nd : X.N.Nodup)
    (h : EJ X Γ B e (.da (.list [.int 0, .int y, .int 0, .list (ns.map .int)])) B1)
    (k : SJ X ((List.replicate Γ.length VD.no).set i .bag) ⟨0, y, 0, ns⟩ rest { nx := fun _ _ => False, rt := fun r _ => r = .bool true })
    (hi : X.N[i]? = some x := by rfl) (hx : Loc X.env.scope x := by first | exact Or.inl rfl | exact Or.inr rfl) (hs : swapsWith e (some (.Name x pos')) pos.line X.env = pure false := by rfl)
    (hf : X.fn x = true ∨ X.env.scope.names.lookup x = some .local := by first | exact Or.inl rfl | exact Or.inr rfl)
    {σ : L2.St} {H0 H : Hp} (Ev : EnvD X.K none H0 σ Γ) (O : On X.K none B H0 H) {Q : VK} (q : ∀ H', Q (.bl true) H') :
    WS X (.Assign [.Name x pos'] e pos :: rest) { nx := fun _ H' => Q .non H', rt := Q } σ H :=
  ⟨_, pss_cons (ps_set nd hi hx (we e) hs hf) (ws rest), h none σ H0 H Ev O _ fun v H1 H' t o r => by
    obtain ⟨p, xs, rfl, hp, rs⟩ := rvL r
    cases rs with
    | cons r0 rs =>
    cases rs with
    | cons r1 rs =>
    cases rs with
    | cons r2 rs =>
    cases rs with
    | cons r3 rs =>
    cases rs
    cases r0; cases r1; cases r2
    cases r3 with
    | lst hl rl =>
    rename_i l zs
    have ez := rl.ints_of
    subst ez
    have hlp : l ≠ p := by
      intro z
      rw [z, hp] at hl
      have e1 := HO.lst.inj (Option.some.inj hl)
      cases ns with
      | nil => cases e1
      | cons n ns =>
        cases ns with
        | nil => cases e1
        | cons m ns =>
          cases ns with
          | nil => cases e1
          | cons m2 ns =>
            cases ns with
            | nil => cases e1
            | cons m3 ns => cases e1
    refine k (some (p, l)) _ (fun b => if b = p then none else H1 b) H' ⟨?_, ?_⟩ ⟨fun b u hb => ?_, fun b m hb => ?_⟩ _ ⟨?_, ?_, ?_, ?_⟩
    · rw [List.length_set, List.length_set, List.length_replicate]; exact Ev.len
    · intro j dd hj hne
      by_cases hij : i = j
      · subst hij
        have hlt : i < Γ.length := by
          have := (List.getElem?_eq_some_iff.mp hj).1
          rwa [List.length_set, List.length_replicate] at this
        rw [List.getElem?_set_self (by rw [List.length_replicate]; exact hlt)] at hj
        cases hj
        exact ⟨.ref p, List.getElem?_set_self (by rw [Ev.len]; exact hlt), p, l, rfl, rfl⟩
      · rw [List.getElem?_set_ne hij, List.getElem?_replicate] at hj
        split at hj
        · cases hj; exact absurd rfl hne
        · cases hj
    · by_cases hb2 : b = p
      · rw [if_pos hb2] at hb; cases hb
      · rw [if_neg hb2] at hb; exact o.ex _ _ hb
    · cases hb
      refine ⟨if_pos rfl, o.ex _ _ hp, ?_⟩
      rw [if_neg hlp]; exact hl
    · intro _ _ _ _ _ z; exact z.elim
    · rintro r2 B2 v H2 H2' rfl _ _ rv
      cases rv; exact q _
    · intro _ _ _ _ _ z; exact z.elim
    · intro _ _ _ _ _ z; exact z.elim⟩
def spLaw (K : PySem.W.Frag) : Sp := fun vs H Q _ => ∃ (a : Addr) (ns : List Int), vs = [.ref a] ∧ SqL K H a (ns.map V.int) ∧ ns.length ≤ 63 ∧ ∀ H', Q (.bl true) H'
end Gd
namespace Gd
open PySem PySem.Spec PyProof.Rows L2
def Bd (n : Nat) (i : Int) : Prop := i.natAbs < 2 ^ n
theorem Bd.le {n m : Nat} {i : Int} (h : Bd n i) (e : n ≤ m) : Bd m i := Nat.lt_of_lt_of_le h (Nat.pow_le_pow_right (by decide) e)
theorem Bd.mul {n m : Nat} {i j : Int} (h : Bd n i) (k : Bd m j) : Bd (n + m) (i * j) := wide_lt h k
theorem Bd.add {n m : Nat} {i j : Int} (h : Bd n i) (k : Bd m j) : Bd (n + m + 1) (i + j) := by
  have h1 := h.le (Nat.le_add_right n m)
  have h2 := k.le (Nat.le_add_left m n)
  have := Int.natAbs_add_le i j
  unfold Bd at *
  rw [Nat.pow_succ]; omega
theorem Bd.neg {n : Nat} {i : Int} (h : Bd n i) : Bd n (-i) := by unfold Bd; rw [Int.natAbs_neg]; exact h
theorem Bd.sub {n m : Nat} {i j : Int} (h : Bd n i) (k : Bd m j) : Bd (n + m + 1) (i - j) := by
  rw [Int.sub_eq_add_neg]; exact h.add k.neg
theorem Bd.abs {n : Nat} {i : Int} (h : Bd n i) : Bd n (if i < 0 then -i else i) := by
  split
  · exact h.neg
  · exact h
theorem Bd.mod {n : Nat} {i j : Int} (k : Bd n j) (h : 0 < j) : Bd n (i % j) := by
  have h1 := Int.emod_nonneg i (Int.ne_of_gt h)
  have h2 := Int.emod_lt_of_pos i h
  unfold Bd at *; omega
theorem Bd.div {n : Nat} {i j : Int} (h : Bd n i) : Bd n (i / j) := by
  unfold Bd at *
  exact Nat.lt_of_le_of_lt (Int.natAbs_ediv_le_natAbs i j) h
theorem Bd.nat {n a : Nat} (h : a < 2 ^ n) : Bd n (a : Int) := h
theorem cm {n m : Nat} {i j : Int} (h : Bd n i) (k : Bd m j) (e : n + m + 2 ≤ 1000000 := by decide) : CMulW i j :=
  wide_mul (h.le (Nat.le_succ n)) (k.le (Nat.le_succ m)) (Nat.succ_pos _) (Nat.succ_pos _) (by omega)
theorem cdv {n : Nat} {i j : Int} (k : Bd n j) (h : 0 < j) (e : n + 1 ≤ 9000 := by decide) : CDivW i j := wide_div h (k.le (Nat.le_succ n)) (Nat.succ_pos _) e
theorem cdx {n : Nat} {i j : Int} (k : Bd n j) (h : j ≠ 0) (e : n + 1 ≤ 9000 := by decide) : CDivX i j := ⟨h, (wide_div (i := i) (j := ((j.natAbs : Nat) : Int)) (by omega) (by rw [Int.natAbs_natCast]; exact k.le (Nat.le_succ n)) (Nat.succ_pos _) e).2⟩
theorem lg {n : Nat} {j : Int} (k : Bd n j) (e : n + 1 ≤ 9000 := by decide) : j.natAbs.log2 < 9000 := Nat.lt_of_lt_of_le (PySem.Flt.log2_lt_of (Nat.succ_pos _) (k.le (Nat.le_succ n))) e
section
variable {X : Cx} {Γ : List VD} {B B1 B2 B3 B' : Bag} {e a b c : Expr} {es : List Expr} {d da db dc : VD} {pos p pos' : Pos} {rest ss s1 s2 : List Stmt} {E : En}
def AD (X : Cx) (Γ : List VD) (B : Bag) (es : List Expr) (ds : List PyData) (B' : Bag) : Prop := AJ X Γ B es (ds.map .da) B'
theorem ad_nil : AD X Γ B [] [] B := aj_nil
theorem ad_cons {y : PyData} {ds : List PyData} (h : EJ X Γ B e (.da y) B1) (r : AD X Γ B1 es ds B2) (hs : starEach (e :: es) X.env = (false, eval e X.env) :: starEach es X.env := by rfl) : AD X Γ B (e :: es) (y :: ds) B2 := aj_cons h r hs
theorem ej_tupD {ds : List PyData} {k} (h : AD X Γ B es ds B1) (hl : ds.length ≤ 1000 := by decide) : EJ X Γ B (.Tuple es k pos) (.da (.tuple ds)) B1 := ej_tup h hl
theorem ej_lstD {ds : List PyData} (h : AD X Γ B es ds B1) (hl : ds.length ≤ 1000 := by decide) : EJ X Γ B (.List es pos) (.da (.list ds)) B1 := ej_lst h hl
theorem ej_at {ds : List PyData} {i : Int} {y : PyData} {j} (ha : EJ X Γ B a (.da (.tuple ds)) B1) (h : atI ds i = some y := by rfl) : EJ X Γ B (.Subscript a (.Constant (.int i) j p) pos) (.da y) B1 :=
  ej_ixT ha ej_int h fun _ _ => rfl
theorem ej_ifV {x : Bool} {u v : PyData} (h : TJ X Γ B c x B1) (h1 : x = true → EJ X Γ B1 a (.da u) B2) (h2 : x = false → EJ X Γ B1 b (.da v) B2) : EJ X Γ B (.IfExp c a b pos) (.da (bif x then u else v)) B2 :=
  ej_if h (fun e => by subst e; exact h1 rfl) fun e => by subst e; exact h2 rfl
theorem ej_ifI {x : Bool} {u v : Int} (h : TJ X Γ B c x B1) (h1 : x = true → EJ X Γ B1 a (.da (.int u)) B2) (h2 : x = false → EJ X Γ B1 b (.da (.int v)) B2) : EJ X Γ B (.IfExp c a b pos) (.da (.int (bif x then u else v))) B2 :=
  ej_if h (fun e => by subst e; exact h1 rfl) fun e => by subst e; exact h2 rfl
theorem sj_ifM {x : Bool} (M : List VD → Bag → Prop) (h : TJ X Γ B c x B1) (h1 : x = true → SJ X Γ B1 s1 { E with nx := M }) (h2 : x = false → SJ X Γ B1 s2 { E with nx := M }) (k : ∀ Γ' B', M Γ' B' → SJ X Γ' B' rest E) :
    SJ X Γ B (.If c s1 s2 pos :: rest) E :=
  sj_if h (fun e => sj_mono (h1 e) (fun Γ' B' q => k Γ' B' q) (fun _ _ q => q) (fun _ _ q => q) (fun _ _ q => q)) (fun e => sj_mono (h2 e) (fun Γ' B' q => k Γ' B' q) (fun _ _ q => q) (fun _ _ q => q) (fun _ _ q => q))
theorem wj_andT {y : Bool} (h : TJ X Γ B e true B1) (hr : WJ X Γ B1 (.BoolOp .And (a :: es) pos) y B2) : WJ X Γ B (.BoolOp .And (e :: a :: es) pos) y B2 := fun g σ H0 H E O Q q =>
  ⟨_, pw_and (wt e) (ww _), h g σ H0 H E O _ fun H1 H' t o => iteT (hr g σ H1 H' (E.mono t.ex) o Q fun H2 H'' t2 o2 => q H2 H'' (t.trans t2) o2)⟩
theorem ej_mulC {i j : Int} (ha : EJ X Γ B a (.da (.int i)) B1) (hb : EJ X Γ B1 b (.da (.int j)) B2) (hc : CMul i j) : EJ X Γ B (.BinOp a .Mult b pos) (.da (.int (i * j))) B2 :=
  ej_iic ha hb op_mul hc fun _ => .int _
theorem ej_atL {ds : List PyData} {i : Int} {y : PyData} {j} (ha : EJ X Γ B a (.da (.list ds)) B1) (h : atI ds i = some y) : EJ X Γ B (.Subscript a (.Constant (.int i) j p) pos) (.da y) B1 :=
  ej_ixL ha ej_int h fun _ _ => rfl
theorem eqv_refl_of {y : PyData} (h : SeqAt.shaped y = true) : PyData.eqv y y = true := SeqAt.eqv_refl y (SeqAt.canLay_of_shaped h)
end
def At (K : PySem.W.Frag) (mg : Str → Option Value) (x : Str) (st : Stmt) (ps : List Str) : Prop :=
  ∃ f fd, Fun K x x st f fd ∧ mg x = some (.ref f) ∧ Binds K fd ps []
theorem cal_at {P : Program} {w : World} {K : PySem.W.Frag} {mg : Str → Option Value} {base : Heap} {x : Str} {st : Stmt}
    {N ps : List Str} {k : Nat} {R : Rel} (T : At K mg x st ps) (S : FnScope N ps (defScope st))
    (len : ∀ Γ B r B', R Γ B r B' → Γ.length = ps.length)
    (body : ∀ (f : Addr) (cdv : Value) (A : Around) (out : List Env) (s : Shared) (H : Hp) (E : XK),
      Gx k (cxOf CX0 P w K mg base N x (defScope st) f cdv A out s H E).nox → ∀ Γ B r B', R Γ B r B' →
      SJ (cxOf CX0 P w K mg base N x (defScope st) f cdv A out s H E).nox (Γ ++ List.replicate (N.length - ps.length) .no) B (defBody st)
        { nx := fun _ B2 => r = .none ∧ B2 = B', rt := fun d B2 => d = r ∧ B2 = B' }) :
    Cal P w K mg base x (k + 1) R := by
  obtain ⟨f, fd, F, hm, hb⟩ := T
  exact cal_of F hm hb S len fun cdv A out s H E G => body f cdv A out s H E G
end Gd
namespace Fr
open Gd PySem
open scoped Rat
def fq (q : Rat) : PyData := .tuple [.int q.num, .int (q.den : Int)]
def com (n d : Int) : Int := if d < 0 then -((Nat.gcd n.natAbs d.natAbs : Nat) : Int) else ((Nat.gcd n.natAbs d.natAbs : Nat) : Int)
theorem com_ne {n d : Int} (h : d ≠ 0) : com n d ≠ 0 := by
  have : 0 < Nat.gcd n.natAbs d.natAbs := Nat.gcd_pos_of_pos_right _ (by omega)
  unfold com; split <;> omega
theorem com_bd {n d : Int} {k : Nat} (h : d ≠ 0) (b : Bd k d) : Bd k (com n d) := by
  have h1 : Nat.gcd n.natAbs d.natAbs ≤ d.natAbs := Nat.gcd_le_right _ (by omega)
  unfold Bd com at *; split <;> omega
theorem red_num {n d : Int} (h : d ≠ 0) : n.fdiv (com n d) = (n /. d).num := by
  rw [Rat.num_divInt]
  have hg : (d.gcd n : Int) = (Nat.gcd n.natAbs d.natAbs : Nat) := by rw [Int.gcd_comm]; rfl
  rw [hg]
  unfold com
  by_cases hd : d < 0
  · rw [if_pos hd, Int.sign_eq_neg_one_of_neg hd, Int.neg_one_mul]
    have := Int.neg_fdiv_neg (-n) ((Nat.gcd n.natAbs d.natAbs : Nat) : Int)
    rw [Int.neg_neg] at this
    rw [this, Int.fdiv_eq_ediv_of_nonneg _ (Int.natCast_nonneg _)]
  · rw [if_neg hd, Int.sign_eq_one_of_pos (by omega), Int.one_mul, Int.fdiv_eq_ediv_of_nonneg _ (Int.natCast_nonneg _)]
theorem red_den {n d : Int} (h : d ≠ 0) : d.fdiv (com n d) = ((n /. d).den : Int) := by
  rw [Rat.den_divInt, if_neg h]
  have hg : d.gcd n = Nat.gcd n.natAbs d.natAbs := by rw [Int.gcd_comm]; rfl
  rw [hg]
  unfold com
  by_cases hd : d < 0
  · rw [if_pos hd]
    have := Int.neg_fdiv_neg (-d) ((Nat.gcd n.natAbs d.natAbs : Nat) : Int)
    rw [Int.neg_neg] at this
    rw [this, Int.fdiv_eq_ediv_of_nonneg _ (Int.natCast_nonneg _)]
    rw [Int.natCast_ediv]
    have : -d = (d.natAbs : Int) := by omega
    rw [this]
  · rw [if_neg hd, Int.fdiv_eq_ediv_of_nonneg _ (Int.natCast_nonneg _), Int.natCast_ediv]
    have : d = (d.natAbs : Int) := by omega
    conv => lhs; lhs; rw [this]
theorem divInt_bd {n d : Int} {a b : Nat} (h : d ≠ 0) (ha : Bd a n) (hb : Bd b d) : Bd a (n /. d).num ∧ Bd b ((n /. d).den : Int) := by
  constructor
  · rw [← red_num h]
    unfold Bd at *
    refine Nat.lt_of_le_of_lt ?_ ha
    rw [red_num h, Rat.num_divInt]
    refine Nat.le_trans (Int.natAbs_ediv_le_natAbs _ _) ?_
    rw [Int.natAbs_mul, Int.natAbs_sign_of_ne_zero h, Nat.one_mul]
    exact Nat.le_refl _
  · unfold Bd at *
    rw [Int.natAbs_natCast, Rat.den_divInt, if_neg h]
    exact Nat.lt_of_le_of_lt (Nat.div_le_self _ _) hb
theorem den_pos (q : Rat) : (0 : Int) < (q.den : Int) := Int.natCast_pos.mpr q.den_pos
theorem den_ne (q : Rat) : (q.den : Int) ≠ 0 := Int.ne_of_gt (den_pos q)
theorem self_div (q : Rat) : q.num /. (q.den : Int) = q := Rat.num_divInt_den q
theorem add_div (x y : Rat) : (x.num * (y.den : Int) + y.num * (x.den : Int)) /. ((x.den : Int) * (y.den : Int)) = x + y := by
  rw [← Rat.divInt_add_divInt _ _ (den_ne x) (den_ne y), self_div, self_div]
theorem mul_div (x y : Rat) : (x.num * y.num) /. ((x.den : Int) * (y.den : Int)) = x * y := by
  rw [← Rat.divInt_mul_divInt, self_div, self_div]
theorem sub_div (x y : Rat) : (x.num * (y.den : Int) - y.num * (x.den : Int)) /. ((x.den : Int) * (y.den : Int)) = x - y := by
  have := add_div x (-y)
  rw [Rat.neg_num, Rat.neg_den] at this
  rw [Rat.sub_eq_add_neg, ← this]
  congr 1
  rw [Int.neg_mul, Int.sub_eq_add_neg]
theorem div_div (x y : Rat) (h : y ≠ 0) : (x.num * (y.den : Int)) /. ((x.den : Int) * y.num) = x / y := by
  rw [← Rat.divInt_mul_divInt, self_div, Rat.div_def, Rat.inv_def]
end Fr
namespace Gd
open PySem PySem.Spec PyProof.Rows L2
mutual
def nice : PyData → Bool
  | .none => true
  | .bool _ => true
  | .int i => decide (Nat.log2 i.natAbs < 1920)
  | .str x => x.cps.all fun c => c < 0x110000
  | .list xs => niceAll xs
  | .tuple xs => niceAll xs
  | .dict _ => false
def niceAll : List PyData → Bool
  | [] => true
  | x :: xs => nice x && niceAll xs
end
mutual
theorem nice_lay : ∀ d : PyData, nice d = true → d.canLay0 = true
  | .none, _ => by simp only [PyData.canLay0]
  | .bool _, _ => by simp only [PyData.canLay0]
  | .int i, h => by simp only [PyData.canLay0]
  | .str _, h => by simp only [nice] at h; simp only [PyData.canLay0]; exact h
  | .list xs, h => by simp only [nice] at h; simp only [PyData.canLay0]; exact nice_layA xs h
  | .tuple xs, h => by simp only [nice] at h; simp only [PyData.canLay0]; exact nice_layA xs h
  | .dict _, h => by simp only [nice] at h; cases h
theorem nice_layA : ∀ ds : List PyData, niceAll ds = true → PyData.canLayAll0 ds = true
  | [], _ => by simp only [PyData.canLayAll0]
  | x :: xs, h => by
    simp only [niceAll, Bool.and_eq_true] at h
    simp only [PyData.canLayAll0, Bool.and_eq_true]; exact ⟨nice_lay x h.1, nice_layA xs h.2⟩
end
structure Okd (d : PyData) : Prop where
  nice : Gd.nice d = true
  dp : d.depth ≤ 60
  bulk : d.bulk ≤ 5000
theorem Okd.shaped {d : PyData} (h : Okd d) : SeqAt.shaped d = true := by
  unfold SeqAt.shaped
  rw [nice_lay d h.nice, Bool.true_and, decide_eq_true_eq]
  have := h.dp; omega
theorem nice_int {n : Nat} {i : Int} (h : Bd n i) (e : n ≤ 1920 := by decide) : nice (.int i) = true := by
  simp only [nice, decide_eq_true_eq]
  by_cases h0 : 0 < n
  · exact Nat.lt_of_lt_of_le (PySem.Flt.log2_lt_of h0 h) e
  · have : n = 0 := by omega
    subst this
    have : i.natAbs = 0 := by unfold Bd at h; omega
    rw [this]; decide
theorem niceAll_cons {d : PyData} {ds : List PyData} (h : nice d = true) (r : niceAll ds = true) : niceAll (d :: ds) = true := by simp only [niceAll, h, r, Bool.and_self]
theorem niceAll_nil : niceAll [] = true := by simp only [niceAll]
theorem nice_list {ds : List PyData} (r : niceAll ds = true) : nice (.list ds) = true := by simp only [nice]; exact r
theorem nice_tuple {ds : List PyData} (r : niceAll ds = true) : nice (.tuple ds) = true := by simp only [nice]; exact r
end Gd
namespace Gd
open PySem PySem.Spec PyProof.Rows L2
theorem at_mk {K : PySem.W.Frag} {h : Heap} {mg : Str → Option Value} {x : Str} {st : Stmt} (ps : List Str) {f : Addr} {oc : Value} {od an : Option Addr} {osl : Array (Option Value)} {kV doc pm cdv ct : Value}
    (X : K.In h) (G : h.Ns mainGlobals mg) (a : PySem.W.nsIn K mainGlobals x = some (some (.ref f)))
    (l : K.lookup f = some ⟨oc, od, .func (PySem.W.fnOf x x (defArgs st) (defBody st) (defScope st) .none kV doc pm an cdv ct), osl⟩) (c : PySem.W.codeIn K cdv x = true) (k : PySem.W.keepIn K (.ref f) = true)
    (b : ∀ (kV doc pm : Value) (an : Option Addr) (cdv ct : Value) (us : List Value), us.length = ps.length → bindArgs (PySem.W.fnOf x x (defArgs st) (defBody st) (defScope st) .none kV doc pm an cdv ct) ⟨us, []⟩ = pure (ps.zip us)) :
    At K mg x st ps := ⟨f, _, fun_mk l c k, PySem.W.mg_of X G a, (fun_mk (st := st) l c k).binds b⟩
end Gd
namespace Gd
open PySem PySem.Spec PyProof.Rows L2
def keyT (e : Int × Value) : Str := match e.2 with | .str k _ => k | _ => Str.empty
def TxE (w : World) (e : Int × Value) : Prop := ∃ k tk, e.2 = Value.str k tk ∧ e.1 = hashStr w k
structure TxAt (w : World) (l : List Str) (o : Obj) (es : Array (Int × Value)) (t : SetTable) : Prop where
  ex : o.ExactSet
  el : ∀ e ∈ es.toList, TxE w e
  nd : (es.toList.map keyT).Nodup
  me : ∀ k, k ∈ es.toList.map keyT ↔ k ∈ l
  sz : es.size ≤ l.length
  ft : t.fits es.size = true
  ri : Ris t.place.toList
  ld : w.params.followText "set-order" = true ∨ t.led = true
def TxSet (w : World) (h : Heap) (a : Addr) (l : List Str) : Prop := ∃ o es ep t, h.get? a = some o ∧ o.data = .set es ep t ∧ TxAt w l o es t
theorem TxSet.at {w : World} {h h' : Heap} {a : Addr} {l : List Str} (R : TxSet w h a l) (k : ∀ o, h.get? a = some o → h'.get? a = some o) : TxSet w h' a l :=
  let ⟨o, es, ep, t, ho, r⟩ := R; ⟨o, es, ep, t, k o ho, r⟩
section
variable {P : Program} {w : World} {A : Around} {E : Value → Shared → Prop} {s : Shared} {a : Addr} {l : List Str}
theorem tx_elems {es : List (Int × Value)} (g : ∀ e ∈ es, TxE w e) : ElemsOf (PySem.strKind P w) es := fun e he => by
  obtain ⟨k, tk, h1, h2⟩ : TxE w e := g e he
  exact ⟨⟨k, by rw [h1]; exact strKind_is P w k tk, h2⟩, by rw [h1] <;> rfl⟩
theorem tx_is {e : Int × Value} (g : TxE w e) (k : Str) : (PySem.strKind P w).is k e.2 = true ↔ keyT e = k := by
  obtain ⟨k0, tk, h1, h2⟩ := g
  have e1 : keyT e = k0 := by unfold keyT; rw [h1]
  have e2 : (PySem.strKind P w).is k0 e.2 = true := by rw [h1]; exact strKind_is P w k0 tk
  rw [e1]
  exact ⟨fun z => (PySem.strKind P w).inj _ _ _ e2 z, fun z => z ▸ e2⟩
theorem tx_tail {g : Bool → Sem Unit} (hg : ∀ (b : Bool) (s₁ : Shared) (Q' : Unit → Shared → Prop), Q' () s₁ → wpAny (model P w) A (g b) Q' E s₁)
    {o : Obj} {es es1 : Array (Int × Value)} {ep : Nat} {t t2 : SetTable} (ho : s.heap.get? a = some o) (hd : o.data = .set es ep t) (T : TxAt w l o es1 t2) (hb : es1.size < scanBound) {wd : Bool} {R : Option Bool → Shared → Prop}
    (hR : ∀ h', Heap.SameBut a s.heap h' → TxSet w h' a l → R (some true) { s with heap := h' }) :
    wpAny (model P w) A (do storeSet a es1 t2; if (!wd && t2.tooFull) = true then (do g (relayAll t2 es1 (SetTable.grown es1.size)).2.2; storeSet a (relayAll t2 es1 (SetTable.grown es1.size)).1 (relayAll t2 es1 (SetTable.grown es1.size)).2.1; pure (some true)) else pure (some true)) R E s := by
  have ho1 := store_at (t' := t2) (es' := es1) ho hd
  have sb := Heap.SameBut.update s.heap a (Obj.putSet es1 t2)
  refine wpAny_bind (wpAny_storeSet_of ho hd ?_ (fits_of_scanBound hb))
  by_cases c : (!wd && t2.tooFull) = true
  · rw [if_pos c]
    have pm := relayAll_perm t2 es1 (SetTable.grown es1.size); have p2 := relayAll_fits t2 es1 (SetTable.grown es1.size)
    have p3 := relayAll_ris t2 es1 (SetTable.grown es1.size); have p4 := relayAll_led t2 es1 (SetTable.grown es1.size)
    generalize relayAll t2 es1 (SetTable.grown es1.size) = Z at pm p2 p3 p4 ⊢; obtain ⟨es2, t3, gave⟩ := Z
    dsimp only at pm p2 p3 p4 ⊢
    have z : es2.size = es1.size := by rw [← Array.length_toList, pm.length_eq, Array.length_toList]
    refine wpAny_bind (hg _ _ _ (wpAny_bind (wpAny_storeSet_of ho1 rfl ?_ (fits_of_scanBound (by rw [z]; exact hb)))))
    refine wpAny_pure (hR _ (sb.trans (Heap.SameBut.update _ a _)) ⟨_, es2, _, t3, store_at ho1 rfl, rfl, ⟨T.ex, fun e he => T.el e (pm.mem_iff.mp he), (pm.map keyT).nodup_iff.mpr T.nd, fun k => (pm.map keyT).mem_iff.trans (T.me k), ?_, p2, p3, ?_⟩⟩)
    · rw [z]; exact T.sz
    · exact T.ld.imp id fun q => by rw [p4]; exact q
  · rw [if_neg c]
    exact wpAny_pure (hR _ sb ⟨_, es1, _, t2, ho1, rfl, ⟨T.ex, T.el, T.nd, T.me, T.sz, T.ft, T.ri, T.ld⟩⟩)
theorem tx_add {k : Str} {tk : Tok} {Q : Bool → Shared → Prop} (R : TxSet w s.heap a l) (room : l.length + 1 < scanBound)
    (hQ : ∀ b h', Heap.SameBut a s.heap h' → TxSet w h' a (k :: l) → Q b { s with heap := h' }) :
    wpAny (model P w) A (setAddHashed a (.str k tk) ((PySem.strKind P w).hash k)) Q E s := by
  obtain ⟨o, es, ep, t, ho, hd, T⟩ := R
  have hkey : (PySem.strKind P w).is k (.str k tk) = true := strKind_is P w k tk
  have hsc : (Value.str k tk).scannable = true := rfl
  have hel : ElemsOf (PySem.strKind P w) es.toList := tx_elems T.el
  have hb : es.size < scanBound := Nat.lt_of_le_of_lt T.sz (Nat.lt_of_succ_lt room); unfold setAddHashed setAddHashedIn
  refine wpAny_holding (wpAny_bind (wpAny_setState_of ho hd T.ft ?_))
  dsimp only
  rw [byScan_of hsc hb hel]
  simp only [↓reduceIte]
  unfold setAddByScan
  refine wpAny_bind (wpAny_bind (wpAny_rule (wpAny_bind (wpAny_setScan_of hkey ho hd T.ft hel ?_))))
  cases hfi : List.findIdx? (fun e => (PySem.strKind P w).is k e.2) es.toList
  case none =>
    dsimp only
    have hnk : k ∉ es.toList.map keyT := fun z => by
      obtain ⟨e, he, q⟩ := List.mem_map.mp z; have c := List.findIdx?_eq_none_iff.mp hfi e he
      rw [(tx_is (T.el e he) k).2 q] at c; cases c
    have hgw : ∀ (b : Bool) {s₁ : Shared} {Q' : Unit → Shared → Prop}, Q' () s₁ → wpAny (model P w) A (match b with | true => rule "set.scan.the-table-gave-way" | false => pure ()) Q' E s₁ := by
      intro b s₁ Q' q; cases b <;> first | exact wpAny_pure q | exact wpAny_rule q
    have pm := layNew_perm t es ((PySem.strKind P w).hash k) (.str k tk); have p2 := layNew_fits t es ((PySem.strKind P w).hash k) (.str k tk)
    have p3 := layNew_ris t es ((PySem.strKind P w).hash k) (.str k tk) T.ri; have p4 := layNew_led t es ((PySem.strKind P w).hash k) (.str k tk)
    generalize layNew t es ((PySem.strKind P w).hash k) (.str k tk) = Z at pm p2 p3 p4 ⊢; obtain ⟨es1, t1, wd, gave⟩ := Z
    dsimp only at pm p2 p3 p4 ⊢
    rw [Array.toList_push] at pm
    have pc : es1.toList.Perm (((PySem.strKind P w).hash k, Value.str k tk) :: es.toList) := pm.trans (List.perm_append_singleton _ _)
    have pk : (es1.toList.map keyT).Perm (k :: es.toList.map keyT) := pc.map keyT
    have hsz : es1.size = es.size + 1 := by rw [← Array.length_toList, pc.length_eq, List.length_cons, Array.length_toList]
    have T1 : TxAt w (k :: l) o es1 t1 := by
      refine ⟨T.ex, fun e he => ?_, pk.nodup_iff.mpr (List.nodup_cons.mpr ⟨hnk, T.nd⟩), fun i => ?_, ?_, p2, p3, T.ld.imp id fun z => by rw [p4]; exact z⟩
      · rcases List.mem_cons.mp (pc.mem_iff.mp he) with z | z
        · exact z ▸ ⟨k, tk, rfl, rfl⟩
        · exact T.el e z
      · rw [pk.mem_iff, List.mem_cons, List.mem_cons, T.me i]
      · have := T.sz; rw [hsz, List.length_cons]; omega
    have hb1 : es1.size < scanBound := by have := T.sz; omega
    have T2 : TxAt w (k :: l) o es1 { t1 with plain := false } := ⟨T1.ex, T1.el, T1.nd, T1.me, T1.sz, SetTable.fits_plain_off p2, T1.ri, T1.ld⟩
    refine wpAny_bind (hgw _ ?_)
    split
    · refine wpAny_bind ?_; rw [hashByValue_scannable 8 hsc]
      refine wpAny_pure (tx_tail (l := k :: l) ?_ ho hd ?_ hb1 ?_)
      · intro b s₁ Q' q; cases b <;> first | exact wpAny_rule q | exact wpAny_pure q
      · first | exact T2 | (split <;> first | exact T1 | exact T2) | exact T1
      · intro h' sb r; dsimp only; exact wpAny_pure (hQ _ h' sb r)
    · refine wpAny_bind (wpAny_pure ?_); simp only [↓reduceIte]
      refine tx_tail (l := k :: l) ?_ ho hd T1 hb1 ?_
      · intro b s₁ Q' q; cases b <;> first | exact wpAny_rule q | exact wpAny_pure q
      · intro h' sb r; dsimp only; exact wpAny_pure (hQ _ h' sb r)
  case some j =>
    dsimp only; obtain ⟨hj, pj, _⟩ := List.findIdx?_eq_some_iff_getElem.mp hfi
    have hk : k ∈ es.toList.map keyT := List.mem_map.mpr ⟨_, List.getElem_mem hj, (tx_is (T.el _ (List.getElem_mem hj)) k).1 pj⟩
    refine wpAny_pure (wpAny_pure (hQ _ s.heap (Heap.SameBut.refl a s.heap) ⟨o, es, ep, t, ho, hd, ⟨T.ex, T.el, T.nd, fun i => ?_, ?_, T.ft, T.ri, T.ld⟩⟩))
    · rw [List.mem_cons, ← T.me i]
      exact ⟨.inr, fun z => z.elim (fun e => e ▸ hk) id⟩
    · have := T.sz; rw [List.length_cons]; omega
end
end Gd
namespace Gd
open PySem PySem.Spec PyProof.Rows L2
theorem tx_start {w : World} {h : Heap} {a : Addr} (ho : h.get? a = some { cls := .type "set", dict := none, data := .set #[] 0 (.fresh 0 0 (!w.params.followText "set-order")) }) : TxSet w h a [] := by
  refine ⟨_, #[], 0, _, ho, rfl, ⟨⟨rfl, rfl, rfl⟩, fun e he => by simp at he, by simp, fun k => by simp, Nat.le_refl _, rfl, List.Pairwise.nil, ?_⟩⟩; show _ ∨ (!w.params.followText "set-order") = true
  cases w.params.followText "set-order" <;> simp
section
variable {P : Program} {w : World} {A : Around} {s : Shared} {E : Value → Shared → Prop}
theorem tx_loop {I : Addr} {fp wr : List Addr} {G : Array GenState → Array GenState → Prop} {n : Nat} {Pv : Nat → Value → Prop} {St : Nat → Shared → Prop} {R : Result → Shared → Prop}
    (W : WalksS P w A.in1 I fp wr G n Pv St) (S : Addr) (hSf : S ∉ fp) (xs : List Str) (hn : n = xs.length) (hb : xs.length + 1 < scanBound) (hv : ∀ i v, Pv i v → ∃ k t, xs[i]? = some k ∧ v = .str k t) :
    ∀ (m i : Nat) (s : Shared), n - i = m → i ≤ n → St i s → (∃ l, l.length = i ∧ (∀ k, k ∈ l ↔ k ∈ xs.take i) ∧ TxSet w s.heap S l) →
      (∀ s' l, Moved (S :: wr) G s s' → l.length = n → (∀ k, k ∈ l ↔ k ∈ xs) → TxSet w s'.heap S l → R (.ok (.ret .none)) s') → codeAny (model P w) A (.builtin "set.update.loop" ⟨[.ref S, .ref I], []⟩) R s := by
  have hSw : S ∉ wr := fun z => hSf (W.sub _ z)
  have up : ∀ b ∈ wr, b ∈ S :: wr := fun b => List.mem_cons_of_mem _
  intro m
  induction m with
  | zero =>
    intro i s hm hi hst ⟨l, hl, hk, hS⟩ hR
    obtain rfl : i = n := by omega
    refine codeAny_builtin F.entry_set_update_loop ?_; rw [Around.under_plainId F.plain_set_update_loop _]
    refine wpAny_bind (W.done s _ _ hst fun s' mv => wpAny_pure (hR s' l (mv.mono up) hl (fun k => ?_) (hS.at fun o e => mv.heap S o hSw e)))
    rw [hk, List.take_of_length_le (by omega)]
  | succ m ih =>
    intro i s hm hi hst ⟨l, hl, hk, hS⟩ hR
    refine codeAny_builtin F.entry_set_update_loop ?_; rw [Around.under_plainId F.plain_set_update_loop _]
    refine wpAny_bind (W.item i s _ _ (by omega) hst fun v s' hP hst' mv => ?_)
    obtain ⟨z, t, hz, rfl⟩ := hv i v hP
    show wpAny _ A.in1 (holding [Value.str z t] (setAdd S (.str z t)) >>= _) _ _ s'; refine wpAny_bind (wpAny_holding ?_)
    unfold setAdd
    refine wpAny_holding (wpAny_bind ((PySem.strKind P w).pyHash (k := z) (strKind_is _ _ _ _) ?_))
    refine tx_add (s := { s' with toks := s'.toks + 1 }) (hS.at fun o e => mv.heap S o hSw e) (by omega) fun b h' sb S2 => ?_
    refine wpAny_pure ⟨plainId_quiet F.plain_set_update_loop _, ih (i + 1) _ (by omega) (by omega) (W.frame _ s' _ _ hst' (Nat.le_succ _) fun b hb o e => ?_) ⟨z :: l, by rw [List.length_cons, hl], fun k => ?_, S2⟩ fun s2 l2 mv2 hl2 hk2 S3 => ?_⟩
    · rw [sb.2 b fun h : b = S => hSf (h ▸ hb)]; exact e
    · rw [List.take_add_one, hz, List.mem_cons, List.mem_append, hk]; simp [or_comm]
    · refine hR s2 l2 (Moved.trans W.gtrans ((mv.mono up).then_heap (Nat.le_succ _) fun b o hb e => ?_) mv2) hl2 hk2 S3
      rw [sb.2 b fun h : b = S => hb (by rw [h]; exact List.mem_cons_self)]; exact e
set_option maxHeartbeats 3300000 in
theorem tx_call {l : Addr} {items : Array Value} (xs : List Str) {Q : Value → Shared → Prop} (hh : A.handled = none) (hl : s.heap.IsList l items) (hit : StrsAre items.toList xs) (hb : xs.length + 1 < scanBound)
    (h : ∀ (h' : Heap) (tk : Nat) (ys : List Str), TxSet w h' s.heap.objs.size ys → ys.length = xs.length → (∀ k, k ∈ ys ↔ k ∈ xs) → (∀ b o, s.heap.get? b = some o → h'.get? b = some o) → Q (.ref s.heap.objs.size) { s with heap := h', toks := tk }) : wpAny (model P w) A (call (.type "set") [.ref l]) Q E s := by
  have hsz : items.size = xs.length := (Array.length_toList (xs := items)).symm.trans (StrsAre.len_eq hit); obtain ⟨c, tl, hmro⟩ := F.called_set.mro
  have hmade := F.called_set.made; have hsub := F.called_set.sub
  refine wpAny_call (codeAny_of_tree ?_); show wpAny _ _ (callAny (.type "set") _) _ _ _
  refine wpAny_pure ⟨Code.quiet_builtin _ (by decide +kernel), codeAny_builtin F.entry_type_call ?_⟩; rw [Around.under_plain (weight_type_call_type "set" [.ref l] []) rfl]
  have h1 := F.called_set.notType; have h2 := F.called_set.canCreate; have hct := F.typeCall_set_1 (.ref l); repeat (any_goals (first | assumption | wp_step))
  let o0 : Obj := { cls := .type "set", dict := none, data := .set #[] 0 (.fresh 0 0 (!w.params.followText "set-order")) }
  refine codeAny_mono (code_set_led1 (.ref l) (E := E) (Q₁ := fun obj s₁ => obj = .ref s.heap.objs.size ∧ s₁ = { s with heap := s.heap.push o0 }) ⟨rfl, rfl⟩) fun r s₁ hr => ?_
  match r, hr with
  | .error e, hr => exact hr
  | .ok .next, hr => exact hr.elim
  | .ok .brk, hr => exact hr.elim
  | .ok .cont, hr => exact hr.elim
  | .ok (.ret obj), hr =>
    obtain ⟨rfl, rfl⟩ := hr
    have hS : (s.heap.push o0).get? s.heap.objs.size = some o0 := Heap.get?_push_size _ rfl
    have hT : Shared.TypeIs { s with heap := s.heap.push o0 } (.ref s.heap.objs.size) "set" := ⟨_, hS, rfl⟩
    have hli := F.called_set.init.lookup; have hbi := F.called_set.init.bind (.ref s.heap.objs.size); repeat (any_goals (first | assumption | wp_step))
    refine codeAny_mono (codeAny_call_builtin (R := wants (fun r s₂ => r = .none ∧ ∃ h' tk ys, s₂ = { s with heap := h', toks := tk } ∧ TxSet w h' s.heap.objs.size ys ∧ ys.length = xs.length ∧ (∀ k, k ∈ ys ↔ k ∈ xs) ∧ (∀ b o, s.heap.get? b = some o → h'.get? b = some o)) E) F.called_set.init.plain F.entry_set_init (check_set_init_1 hT ?_)) fun r₂ s₂ hr₂ => ?_
    · obtain ⟨⟨ocls, odict, odata, oslots⟩, hol, hcl, nl, hdl⟩ := hl
      simp only at hcl hdl
      subst hcl; subst hdl
      have hol' : (s.heap.push o0).get? l = some { cls := .type "list", dict := odict, data := .seq items nl, slots := oslots } := Heap.get?_push_of_some _ hol
      have hsls := F.sub_list_set; have hslf := F.sub_list_frozenset; have hne : (Value.type "list" == Value.type "dict") = false := by decide
      have hl1 : (s.heap.push o0).IsList l items := ⟨_, hol', rfl, nl, rfl⟩; unfold Builtin.«set.__init__» noKeywords Builtin.Frozenset.updateFrom
      generalize hPI : pyIter = PI
      wp_walk
      subst hPI
      refine wpAny_pyIter_list hl1 (wpAny_bind (wpAny_runValue ?_)); have hlS : l < s.heap.objs.size := Heap.lt_size hol
      have hz : (s.heap.push o0).objs.size = s.heap.objs.size + 1 := Heap.size_push ..
      have hneI : l ≠ (s.heap.push o0).objs.size := by rw [hz]; exact Nat.ne_of_lt (Nat.lt_succ_of_lt hlS)
      have hSf : s.heap.objs.size ∉ [(s.heap.push o0).objs.size, l] := by rw [hz]; simp only [List.mem_cons, List.not_mem_nil, or_false, not_or]; exact ⟨Nat.ne_of_lt (Nat.lt_succ_self _), Nat.ne_of_gt hlS⟩
      refine tx_loop ((Walks.list (by simp [hh]) _ l hneI items).toS) s.heap.objs.size hSf xs hsz hb (fun i v hv => ?_) (items.size - 0) 0 _ (by omega) (Nat.zero_le _) ⟨⟨_, Heap.get?_push_size _ rfl, rfl, rfl⟩, (hl1.push _)⟩ ⟨[], rfl, fun k => by simp, tx_start (Heap.get?_push_of_some _ hS)⟩ ?_
      · obtain ⟨y, t, e1, e2⟩ := StrsAre.item hit i v (by rw [Array.getElem?_toList]; exact hv)
        exact ⟨y, t, e2, e1⟩
      · intro s' ys hm hl2 hk2 S2; obtain ⟨h', g2, d', tk', os'⟩ := s'
        obtain rfl : g2 = s.gens := hm.gens
        obtain rfl : d' = s.drawn := hm.drawn
        obtain rfl : os' = s.os := hm.os
        show wpAny _ _ _ _ _ _
        refine wpAny_pure ?_; show wpAny _ _ (ret Value.none) _ _ _
        refine wpAny_pure ⟨rfl, h', tk', ys, rfl, S2, hl2.trans hsz, hk2, fun b o e => ?_⟩; have hb0 : b < s.heap.objs.size := Heap.lt_size e
        refine hm.heap b o ?_ (Heap.get?_push_of_some _ (Heap.get?_push_of_some _ e))
        rw [hz]; simp only [List.mem_cons, List.not_mem_nil, or_false, not_or]; exact ⟨Nat.ne_of_lt hb0, Nat.ne_of_lt (Nat.lt_succ_of_lt hb0)⟩
    · match r₂, hr₂ with
      | .error e, hr₂ => exact hr₂
      | .ok .next, hr₂ => exact hr₂.elim
      | .ok .brk, hr₂ => exact hr₂.elim
      | .ok .cont, hr₂ => exact hr₂.elim
      | .ok (.ret r), hr₂ =>
        obtain ⟨rfl, h', tk, ys, rfl, S2, hl2, hk2, hk'⟩ := hr₂; repeat (any_goals (first | assumption | wp_step))
        exact h _ _ _ S2 hl2 hk2 hk'
end
end Gd
namespace Gd
open PySem PySem.Spec PyProof.Rows L2
section
variable {P : Program} {w : World} {A : Around} {E : Value → Shared → Prop} {s : Shared} {a : Addr} {l : List Str}
theorem tx_sorted {Q : Value → Shared → Prop} (R : TxSet w s.heap a l) (hh : A.handled = none) (h64 : l.length < 64)
    (hQ : ∀ s' p (out : Array Value) (c : Nat) (ns : List Str), (∀ b o, s.heap.get? b = some o → s'.heap.get? b = some o) → s'.gens = s.gens → s'.os = s.os → s.heap.objs.size ≤ p →
      s'.heap.get? p = some (seqObj "list" out c) → StrsAre out.toList ns → ns.Nodup → (∀ k, k ∈ ns ↔ k ∈ l) → sortedS ns = true → Q (.ref p) s') :
    wpAny (model P w) A (call (.builtin "sorted") [Value.ref a]) Q E s := by
  obtain ⟨o, es, ep, t, ho, hd, T⟩ := R
  refine Calls.call_function_entry kind_sorted plain_sorted entry_sorted (args_sorted1 _) ?_; unfold Builtin.«sorted»; refine wpAny_bind (m := checkCount "sorted" 1 1 _) (wpAny_pure ?_)
  have hb : es.size < scanBound := by have := T.sz; unfold scanBound; omega
  refine wpAny_bind (collect_set (A := A.in1) hh ⟨o, ho, T.ex.1, hd⟩ T.ft hb T.ri T.ld fun s1 vs k1 hz g1 o1 pm => ?_)
  have hvl : vs.length < 64 := by
    have e : vs.length = es.size := by rw [pm.length_eq, List.length_map, Array.length_toList]
    have := T.sz; omega
  have kk : ∀ e ∈ es.toList, PyProof.Rows.strOf e.2 = keyT e := fun e he => by
    obtain ⟨k, tk, h1, _⟩ := T.el e he
    unfold keyT; rw [h1] <;> rfl
  have hI : StrsAre vs (vs.map PyProof.Rows.strOf) := strsAre_map vs fun v hv => by
    obtain ⟨e, he, q⟩ := List.mem_map.1 (pm.mem_iff.1 hv)
    obtain ⟨k, tk, h1, _⟩ := T.el e he; exact ⟨k, tk, by rw [← q]; exact h1⟩
  have pk : (vs.map PyProof.Rows.strOf).Perm (es.toList.map keyT) := by
    have q := pm.map PyProof.Rows.strOf
    rw [List.map_map] at q
    have e : es.toList.map (PyProof.Rows.strOf ∘ fun x => x.2) = es.toList.map keyT := List.map_congr_left fun e he => kk e he
    rw [← e]; exact q
  refine wpAny_bind (wpAny_newList ?_ (by rw [sizeLine_eq]; omega)); have hoL : (s1.heap.push (seqObj "list" vs.toArray 0)).get? s1.heap.objs.size = some (seqObj "list" vs.toArray 0) := Heap.get?_push_size _ rfl
  refine wpAny_bind (wpAny_holding (wpAny_call_entry slot_list_sort ⟨_, hoL, rfl⟩ entry_list_sort (list_sort_treeK PyProof.Rows.strKind_oneLt hoL hI.keysOf (fun v₁ v₂ rest e => keyKind_strs (by rw [← e]; exact hI)) hvl fun st' a1 a2 => ⟨_, rfl, ?_⟩) (args_list_sort _)))
  obtain ⟨ns, b1, b2, b3⟩ := sorted_out_str hI a1 a2
  obtain ⟨c, hc⟩ := sortedHeap_at (vs := vs) (out := (arrOf st').map (·.2)) hoL
  have pn := b2.trans pk
  refine wpAny_pure ⟨_, rfl, hQ _ s1.heap.objs.size _ c ns (fun b u e => ?_) g1 o1 hz hc b1 (pn.nodup_iff.mpr T.nd) (fun k => pn.mem_iff.trans (T.me k)) b3⟩
  have q := k1 b u e
  have hlt := Heap.lt_size q
  show (sortedHeap (s1.heap.push (seqObj "list" vs.toArray 0)) s1.heap.objs.size vs _).get? b = some u
  rw [sortedHeap_old (Nat.ne_of_lt hlt) (by rw [size_push']; exact Nat.lt_succ_of_lt hlt)]; exact Heap.get?_push_of_some _ q
end
section
variable {X : Cx}
def TxO (w : World) (a : Addr) (l : List Str) : HO := .ext fun h => TxSet w h a l
theorem txO_new {w : World} {P : Program} {H : Hp} {h : Heap} {a : Addr} {l : List Str} (R : TxSet w h a l) : ObjOk P w H h a (TxO w a l) := by
  have ⟨o, _, _, _, ho, _⟩ := R
  exact ⟨R, ⟨o, ho⟩, fun h1 h2 p k => TxSet.at p k⟩
def rSetT (X : Cx) : List V → Hp → VK → Prop := fun vs H Q => ∃ (a : Addr) (xs : List Str), vs = [V.ref a] ∧ SqL X.K H a (xs.map V.str) ∧ xs.length < 64 ∧
  ∀ (ys : List Str) (p : Addr), ys.length = xs.length → (∀ k, k ∈ ys ↔ k ∈ xs) → H p = none → Q (.ref p) (upd H p (TxO X.w p ys))
theorem cr_setT (hc : X.calm = true) : CallR X (.type "set") (rSetT X) := by
  intro pins s σ H vs us Q I r h; obtain ⟨a, xs, rfl, hs, h64, q⟩ := h
  rw [Vals.ref1 r]; obtain ⟨its, rv, pl, hz⟩ := I.list hs
  refine tx_call xs (I.ok.hd hc) pl.isList (by simpa using strsAre_of rv) (by unfold scanBound; omega) fun h' tk ys T e1 e2 k => ?_
  exact ⟨.ref _, _, I.laid (t' := tk) (fun b u e => k b u e) (Nat.le_refl _) (txO_new T), rfl, q ys _ e1 e2 (I.hok.fresh (Nat.le_refl _))⟩
def rSortedT (X : Cx) : List V → Hp → VK → Prop := fun vs H Q => ∃ (a : Addr) (l : List Str), vs = [V.ref a] ∧ H a = some (TxO X.w a l) ∧ l.length < 64 ∧
  ∀ (ns : List Str) (p : Addr), ns.Nodup → (∀ k, k ∈ ns ↔ k ∈ l) → sortedS ns = true → H p = none → Q (.ref p) (upd H p (.lst (ns.map V.str)))
theorem vals_strs {vs : List Value} {ns : List Str} (h : StrsAre vs ns) : Vals (ns.map V.str) vs := by
  induction h with
  | nil => exact .nil
  | cons y t _ ih => exact .cons ⟨t, rfl⟩ ih
theorem cr_sortedT' (hc : X.calm = true) : CallR X (.builtin "sorted") (rSortedT X) := by
  intro pins s σ H vs us Q I r hr
  obtain ⟨a, l, rfl, ha, h64, q⟩ := hr
  have R : TxSet X.w s.heap a l := (I.hok a _ ha).1
  rw [Vals.ref1 r]
  refine tx_sorted R (I.ok.hd hc) h64 fun s' p out c ns k g o hp hg hi hd hm hs => ?_
  have hlen : (ns.map V.str).length ≤ sizeLine := by
    have h1 : ns.length ≤ l.length := (List.Nodup.length_le_of_subset hd fun k hk => (hm k).1 hk)
    rw [List.length_map, sizeLine_eq]; omega
  have hn : H p = none := (I.hok).fresh hp
  have J : Inv X pins σ (upd H p (.lst (ns.map V.str))) { s with heap := s'.heap, gens := s'.gens, drawn := s'.drawn, toks := s'.toks } :=
    I.call (ch := []) (Un.laid k hp hn) (I.hok.laid k hp ⟨hlen, out.toList, c, vals_strs hi, hg⟩) (by rw [g]; exact I.bare) (fun _ z => nomatch z)
  have e : s' = { s with heap := s'.heap, gens := s'.gens, drawn := s'.drawn, toks := s'.toks } := by cases s'; cases s; cases o; rfl
  rw [e]
  exact ⟨.ref p, _, J, rfl, q ns p hd hm hs hn⟩
end
end Gd
namespace Gd
open PySem PySem.Spec PyProof.Rows L2
structure Own (K : PySem.W.Frag) (i : Nat) (g : Gh) (A0 A1 : Hp) (a : Addr) (B : Bag) (Γ : List VD) (acc : List PyData) (σ : L2.St) (H0 H : Hp) : Prop where
  to : To g A0 A1 H0 H
  fr : A1 a = none
  off : Off g a
  ev : EnvD K g H0 σ Γ
  at' : σ[i]? = some (some (.ref a))
  no : H0 a = none
  ls : ∃ zs, H a = some (.lst zs) ∧ RpAll K H0 zs acc
  on : On K g B H0 H
theorem Own.freeze {K : PySem.W.Frag} {i : Nat} {g : Gh} {A0 A1 : Hp} {a : Addr} {B : Bag} {Γ : List VD} {acc : List PyData} {σ : L2.St} {H0 H : Hp} (O : Own K i g A0 A1 a B Γ acc σ H0 H) :
    ∃ H1, To g A0 A1 H1 H ∧ EnvD K g H1 σ (Γ.set i (.da (.list acc))) ∧ On K g B H1 H := by
  obtain ⟨zs, hz, rz⟩ := O.ls
  have sm : Same H0 (upd H0 a (.lst zs)) := fun b o e => by
    rw [upd_ne fun z : b = a => by rw [z, O.no] at e; cases e]; exact e
  refine ⟨upd H0 a (.lst zs), ⟨O.to.ex.trans sm, fun b o f h1 h2 => ?_⟩, ?_, ⟨fun b o e => ?_, fun b l e => ?_⟩⟩
  · have hb : b ≠ a := fun z => by rw [z, O.fr] at h2; cases h2
    obtain ⟨p, q⟩ := O.to.un b o f h1 h2
    exact ⟨by rw [upd_ne hb]; exact p, q⟩
  · have e := (O.ev.mono sm).set (v := .ref a) (d := .da (.list acc)) i (Rp.lst upd_same (rz.mono sm))
    have es : σ.set i (some (.ref a)) = σ := by
      apply List.ext_getElem?
      intro j
      by_cases hj : i = j
      · subst hj
        rw [List.getElem?_set_self (List.getElem?_eq_some_iff.mp O.at').1, O.at']
      · rw [List.getElem?_set_ne hj]
    rw [es] at e; exact e
  · by_cases hb : b = a
    · subst hb; rw [upd_same] at e; rw [hz]; exact e
    · rw [upd_ne hb] at e; exact O.on.ex b o e
  · obtain ⟨p, q, r⟩ := O.on.bag b l e
    have hb : b ≠ a := fun z => O.off l (z ▸ e)
    have hl : l ≠ a := fun z => by rw [z, O.no] at r; cases r
    exact ⟨by rw [upd_ne hb]; exact p, q, by rw [upd_ne hl]; exact r⟩
structure EnO where
  nx : List VD → Bag → List PyData → Prop
  fx : List VD → Bag → Prop
  rt : PyData → Bag → Prop
  bk : List VD → Bag → List PyData → Prop := fun _ _ _ => False
  ct : List VD → Bag → List PyData → Prop := fun _ _ _ => False
  ro : List PyData → Bag → Prop := fun _ _ => False
structure GetsO (X : Cx) (i : Nat) (E : EnO) (g : Gh) (A0 A1 : Hp) (a : Addr) (S : Hp) (D : Ends) : Prop where
  nx : ∀ Γ B acc σ H0 H, E.nx Γ B acc → Own X.K i g A0 A1 a B Γ acc σ H0 H → Same S H0 → D.nx σ H
  fx : ∀ Γ B σ H0 H, E.fx Γ B → To g A0 A1 H0 H → EnvD X.K g H0 σ Γ → On X.K g B H0 H → D.nx σ H
  rt : ∀ r B v H0 H, E.rt r B → To g A0 A1 H0 H → On X.K g B H0 H → Rp X.K H0 v r → D.rt v H
  bk : ∀ Γ B acc σ H0 H, E.bk Γ B acc → Own X.K i g A0 A1 a B Γ acc σ H0 H → Same S H0 → D.bk σ H
  ct : ∀ Γ B acc σ H0 H, E.ct Γ B acc → Own X.K i g A0 A1 a B Γ acc σ H0 H → Same S H0 → D.ct σ H
  ro : ∀ Γ B acc σ H0 H, E.ro acc B → Own X.K i g A0 A1 a B Γ acc σ H0 H → Same S H0 → D.rt (.ref a) H
theorem GetsO.on {X : Cx} {i : Nat} {E : EnO} {g : Gh} {A0 A1 : Hp} {a : Addr} {S S' : Hp} {D : Ends} (G : GetsO X i E g A0 A1 a S D) (e : Same S S') : GetsO X i E g A0 A1 a S' D :=
  ⟨fun Γ B acc σ H0 H q w m => G.nx Γ B acc σ H0 H q w (e.trans m), G.fx, G.rt, fun Γ B acc σ H0 H q w m => G.bk Γ B acc σ H0 H q w (e.trans m), fun Γ B acc σ H0 H q w m => G.ct Γ B acc σ H0 H q w (e.trans m), fun Γ B acc σ H0 H q w m => G.ro Γ B acc σ H0 H q w (e.trans m)⟩
def OwJ (X : Cx) (i : Nat) (Γ : List VD) (B : Bag) (acc : List PyData) (ss : List Stmt) (E : EnO) : Prop :=
  ∀ g σ A0 A1 a H0 H, Own X.K i g A0 A1 a B Γ acc σ H0 H → ∀ D : Ends, GetsO X i E g A0 A1 a H0 D → WS X ss D σ H
def FJ (X : Cx) (Γ : List VD) (B : Bag) (e : Expr) (ds : List PyData) (B' : Bag) : Prop :=
  ∀ g σ H0 H, EnvD X.K g H0 σ Γ → On X.K g B H0 H → ∀ Q : VK,
    (∀ a zs H0' H', To g H0 H H0' H' → On X.K g B' H0' H' → RpAll X.K H0' zs ds → H' a = none → Q (.ref a) (upd H' a (.lst zs))) → WE X e σ H Q
section
variable {X : Cx} {i : Nat} {Γ : List VD} {B B1 B2 B' : Bag} {acc ds : List PyData} {e a b c : Expr} {es : List Expr} {d da db : VD} {y : PyData} {pos p p1 p2 p3 pos' : Pos} {rest ss s1 s2 : List Stmt} {E : EnO}
theorem fj_lst (h : AJ X Γ B es (ds.map .da) B1) (hl : ds.length ≤ 1000) : FJ X Γ B (.List es pos) ds B1 := fun g σ H0 H E O Q q =>
  ⟨_, pe_lst (wa es), h g σ H0 H E O _ fun vs H1 H' t o rs => by
    have rs := RvAll.dat rs
    exact ⟨by rw [rs.length]; exact Nat.le_of_lt (small1000 hl), fun p n => q p vs H1 H' t o rs n⟩⟩
theorem fj_lstD (h : AD X Γ B es ds B1) (hl : ds.length ≤ 1000 := by decide) : FJ X Γ B (.List es pos) ds B1 := fj_lst h hl
theorem fj_rep {n : Nat} (ha : EJ X Γ B a (.da (.list ds)) B1) (hb : EJ X Γ B1 b (.da (.int n)) B2) (hn : n ≤ 100) (hl : ds.length ≤ 1000) : FJ X Γ B (.BinOp a .Mult b pos) (List.replicate n ds).flatten B2 := fun g σ H0 H Ev O Q q =>
  ⟨_, pe_op op_rep (we a) (we b), ha g σ H0 H Ev O _ fun v H1 H' t o r1 => hb g σ H1 H' (Ev.mono t.ex) o _ fun w H2 H'' t2 o2 r2 => by
    obtain ⟨p, xs, rfl, hx, rs⟩ := rvL r1
    refine ⟨p, (n : Int), xs, rfl, rvI r2, o2.ex _ _ (t2.ex _ _ hx), by omega, by omega, ?_, fun m hm => ?_⟩
    · rw [Int.toNat_natCast, rs.length]
      exact Nat.le_trans (Nat.mul_le_mul hl hn) (by decide)
    · rw [Int.toNat_natCast]
      exact q m _ H2 H'' (t.trans t2) o2 ((rs.mono t2.ex).rep n) hm⟩
theorem sj_own {x : Str} {Es : En} (i : Nat) (nd : X.N.Nodup) (h : FJ X Γ B e ds B1) (hΓ : i < Γ.length)
    (k : OwJ X i (Γ.set i .no) B1 ds rest { nx := fun Γ' B' acc => Es.nx (Γ'.set i (.da (.list acc))) B', fx := Es.nx, rt := Es.rt, bk := fun Γ' B' acc => Es.bk (Γ'.set i (.da (.list acc))) B', ct := fun Γ' B' acc => Es.ct (Γ'.set i (.da (.list acc))) B' })
    (hi : X.N[i]? = some x := by rfl) (hx : Loc X.env.scope x := by first | exact Or.inl rfl | exact Or.inr rfl) (hs : swapsWith e (some (.Name x pos')) pos.line X.env = pure false := by rfl)
    (hf : X.fn x = true ∨ X.env.scope.names.lookup x = some .local := by first | exact Or.inl rfl | exact Or.inr rfl) : SJ X Γ B (.Assign [.Name x pos'] e pos :: rest) Es := fun g σ H0 H Ev O D G =>
  ⟨_, pss_cons (ps_set nd hi hx (we e) hs hf) (ws rest), h g σ H0 H Ev O _ fun a zs H1 H' t o r n => by
    have n1 : H1 a = none := o.ex.free n
    have off : Off g a := fun l z => by
      obtain ⟨_, q, _⟩ := o.bag a l z
      rw [n] at q; cases q
    have on : On X.K g B1 H1 (upd H' a (.lst zs)) := ⟨fun b u q => by
      rw [upd_ne (ne_of_none q n1)]; exact o.ex b u q, fun b l q => by
      obtain ⟨p1, p2, p3⟩ := o.bag b l q
      exact ⟨p1, by rw [upd_ne (ne_of_none p2 n)]; exact p2, p3⟩⟩
    have hi' : i < σ.length := by rw [Ev.len]; exact hΓ
    have ev : EnvD X.K g H1 (σ.set i (some (.ref a))) (Γ.set i .no) := (Ev.mono t.ex).set i (show Rv X.K g H1 (.ref a) .no from trivial)
    refine k g _ H1 H' a H1 _ ⟨⟨Same.refl _, fun b u f h1 h2 => ⟨h1, by rw [upd_ne (ne_of_none h2 n)]; exact h2⟩⟩, n, off, ev, List.getElem?_set_self hi', n1, ⟨zs, upd_same, r⟩, on⟩ D ⟨?_, ?_, ?_, ?_, ?_, ?_⟩
    · intro Γ' B' acc σ' H2 H2' q w _
      obtain ⟨H3, t3, e3, o3⟩ := w.freeze
      exact G.nx _ _ _ _ _ q (t.trans t3) e3 o3
    · intro Γ' B' σ' H2 H2' q t2 e2 o2
      exact G.nx _ _ _ _ _ q (t.trans t2) e2 o2
    · intro r B' v H2 H2' q t2 o2 rv
      exact G.rt _ _ _ _ _ q (t.trans t2) o2 rv
    · intro Γ' B' acc σ' H2 H2' q w _
      obtain ⟨H3, t3, e3, o3⟩ := w.freeze
      exact G.bk _ _ _ _ _ q (t.trans t3) e3 o3
    · intro Γ' B' acc σ' H2 H2' q w _
      obtain ⟨H3, t3, e3, o3⟩ := w.freeze
      exact G.ct _ _ _ _ _ q (t.trans t3) e3 o3
    · intro _ _ _ _ _ _ q; exact q.elim⟩
theorem ow_end (h : SJ X (Γ.set i (.da (.list acc))) B ss { nx := E.fx, rt := E.rt }) : OwJ X i Γ B acc ss E := fun g σ A0 A1 a H0 H w D G => by
  obtain ⟨H1, t, ev, o⟩ := w.freeze
  exact h g σ H1 H ev o D ⟨fun Γ' B' σ' H2 H2' q t2 e2 o2 => G.fx _ _ _ _ _ q (t.trans t2) e2 o2, fun r B' v H2 H2' q t2 o2 rv => G.rt _ _ _ _ _ q (t.trans t2) o2 rv, fun _ _ _ _ _ q => q.elim, fun _ _ _ _ _ q => q.elim⟩
theorem ow_nil (h : E.nx Γ B acc) : OwJ X i Γ B acc [] E := fun g σ A0 A1 a H0 H w D G => ⟨_, pss_nil, G.nx _ _ _ _ _ _ h w (Same.refl _)⟩
theorem Own.step {K : PySem.W.Frag} {g : Gh} {A0 A1 : Hp} {a : Addr} {σ : L2.St} {H0 H H0' H' : Hp} (w : Own K i g A0 A1 a B Γ acc σ H0 H) (t : To g H0 H H0' H') (o : On K g B1 H0' H') : Own K i g A0 A1 a B1 Γ acc σ H0' H' := by
  obtain ⟨zs, hz, rz⟩ := w.ls
  obtain ⟨p, q⟩ := t.un a _ w.off w.no hz
  exact ⟨w.to.trans t, w.fr, w.off, w.ev.mono t.ex, w.at', p, ⟨zs, q, rz.mono t.ex⟩, o⟩
theorem ow_set {x : Str} (j : Nat) (nd : X.N.Nodup) (hij : j ≠ i) (h : EJ X Γ B e d B1) (k : OwJ X i (Γ.set j d) B1 acc rest E) (hi : X.N[j]? = some x := by rfl)
    (hx : Loc X.env.scope x := by first | exact Or.inl rfl | exact Or.inr rfl) (hs : swapsWith e (some (.Name x pos')) pos.line X.env = pure false := by rfl)
    (hf : X.fn x = true ∨ X.env.scope.names.lookup x = some .local := by first | exact Or.inl rfl | exact Or.inr rfl) : OwJ X i Γ B acc (.Assign [.Name x pos'] e pos :: rest) E := fun g σ A0 A1 a H0 H w D G =>
  ⟨_, pss_cons (ps_set nd hi hx (we e) hs hf) (ws rest), h g σ H0 H w.ev w.on _ fun v H1 H' t o r => by
    have w2 := w.step t o
    exact k g _ A0 A1 a H1 H' ⟨w2.to, w2.fr, w2.off, w2.ev.set j r, by rw [List.getElem?_set_ne hij]; exact w2.at', w2.no, w2.ls, w2.on⟩ D (G.on t.ex)⟩
theorem ow_app {x : Str} (nd : X.N.Nodup) (h : EJ X Γ B e (.da y) B1) (hl : acc.length < 1000) (k : OwJ X i Γ B1 (acc ++ [y]) rest E) (hi : X.N[i]? = some x := by rfl)
    (hv : Vis X.env.scope x := by first | exact Or.inl rfl | exact Or.inr (Or.inl rfl) | exact Or.inr (Or.inr rfl))
    (h1 : (x == ("__debug__" : Str)) = false := by decide) (h2 : (x == ("__classdict__" : Str)) = false := by decide)
    (hbase : attributeBase (.Name x p1) "append" X.env (eval (.Name x p1) X.env) = eval (.Name x p1) X.env := by rfl)
    (hfew : ((backTo p3 (starEach [e] X.env)).all (fun x => !x.1) && (backToKw p3 (keywordEach [] X.env)).all (fun x => x.1.isSome)
      && decide ([e].length + ([] : List Keyword).length + (if ([] : List Keyword).isEmpty then 0 else 1) < 30)) = true := by rfl)
    (hline : (p2.endLine == p3.line) = true := by rfl) (hst : starEach [e] X.env = [(false, eval e X.env)] := by rfl)
    (hs : swapsWith (.Call (.Attribute (.Name x p1) "append" p2) [e] [] p3) none pos.line X.env = pure false := by rfl) :
    OwJ X i Γ B acc (.Expr (.Call (.Attribute (.Name x p1) "append" p2) [e] [] p3) pos :: rest) E := fun g σ A0 A1 a H0 H w D G =>
  ⟨_, pss_cons (ps_expr (pe_bm PySem.F.plainAttrs_list PySem.F.slot_list_append PySem.F.type_list_append mt_append (pe_var hi hv h1 h2) (wa [e]) hbase hfew hline hst rfl) hs) (ws rest), by
    obtain ⟨zs, hz, rz⟩ := w.ls
    refine ⟨_, w.at', .inl ⟨rfl, _, SqL.of hz⟩, ?_⟩
    refine (aj_cons (ds := []) h aj_nil hst) g σ H0 H w.ev w.on _ fun vs H1 H' t o rs => ?_
    obtain ⟨v, rfl, rv⟩ := rv1 rs
    have w2 := w.step t o
    obtain ⟨zs2, hz2, rz2⟩ := w2.ls
    refine ⟨a, zs2, v, rfl, rfl, hz2, by rw [rz2.length]; exact small1000 (Nat.le_of_lt hl), ?_⟩
    refine k g σ A0 A1 a H1 _ ⟨⟨w2.to.ex, fun b u f q1 q2 => ?_⟩, w2.fr, w2.off, w2.ev, w2.at', w2.no, ⟨zs2 ++ [v], upd_same, rz2.app (.cons rv .nil)⟩, ⟨fun b u q => ?_, fun b l q => ?_⟩⟩ D (G.on t.ex)
    · obtain ⟨p, q⟩ := w2.to.un b u f q1 q2
      exact ⟨p, by rw [upd_ne (ne_of_none q2 w2.fr)]; exact q⟩
    · rw [upd_ne (ne_of_none q w2.no)]; exact w2.on.ex b u q
    · obtain ⟨p1, p2, p3⟩ := w2.on.bag b l q
      exact ⟨p1, by rw [upd_ne fun z : b = a => w2.off l (z ▸ q)]; exact p2, p3⟩⟩
theorem ow_while (P : List VD → Bag → List PyData → Prop) (μ : List VD → Bag → List PyData → Nat) (h0 : P Γ B acc)
    (hs : ∀ Γ B acc, P Γ B acc → ∃ x, TJ X Γ B c x B ∧
      (x = true → OwJ X i Γ B acc s1 { nx := fun Γ' B' acc' => P Γ' B' acc' ∧ μ Γ' B' acc' < μ Γ B acc, fx := fun _ _ => False, ct := fun Γ' B' acc' => P Γ' B' acc' ∧ μ Γ' B' acc' < μ Γ B acc, rt := E.rt }) ∧
      (x = false → OwJ X i Γ B acc rest E))
    (hp : PassesOwn (model X.prog X.w) X.A X.env X.xe := by exact PassesOwn.never) : OwJ X i Γ B acc (.While c s1 [] pos :: rest) E := fun g σ A0 A1 a H0 H w D G =>
  ⟨_, pss_cons (ps_while hp (wt c) (ws s1)) (ws rest), by
    refine ⟨fun m σ' H' => ∃ Γ' B' acc' H1, P Γ' B' acc' ∧ μ Γ' B' acc' = m ∧ Own X.K i g A0 A1 a B' Γ' acc' σ' H1 H' ∧ Same H0 H1, ⟨_, Γ, B, acc, H0, h0, rfl, w, Same.refl _⟩, ?_⟩
    rintro m σ' H' ⟨Γ', B', acc', H1, hP, rfl, w1, sm⟩
    obtain ⟨x, ht, hb, hd⟩ := hs Γ' B' acc' hP
    refine ht g σ' H1 H' w1.ev w1.on _ fun H2 H'' t2 o2 => ?_
    have w2 := w1.step t2 o2
    cases x with
    | true =>
      refine iteT ⟨fun σ2 H3' => ∃ m', m' < μ Γ' B' acc' ∧ ∃ Γ2 B2 acc2 H3, P Γ2 B2 acc2 ∧ μ Γ2 B2 acc2 = m' ∧ Own X.K i g A0 A1 a B2 Γ2 acc2 σ2 H3 H3' ∧ Same H0 H3, fun _ _ z => z, ?_⟩
      refine hb rfl g σ' A0 A1 a H2 H'' w2 _ ⟨?_, ?_, ?_, ?_, ?_, ?_⟩
      · rintro Γ3 B3 acc3 σ3 H3 H3' ⟨q1, q2⟩ w3 m3
        exact ⟨_, q2, Γ3, B3, acc3, H3, q1, rfl, w3, (sm.trans t2.ex).trans m3⟩
      · intro _ _ _ _ _ q; exact q.elim
      · intro r B3 v H3 H3' q t3 o3 rv
        exact G.rt r B3 v H3 H3' q t3 o3 rv
      · intro _ _ _ _ _ _ q; exact q.elim
      · rintro Γ3 B3 acc3 σ3 H3 H3' ⟨q1, q2⟩ w3 m3
        exact ⟨_, q2, Γ3, B3, acc3, H3, q1, rfl, w3, (sm.trans t2.ex).trans m3⟩
      · intro _ _ _ _ _ _ q; exact q.elim
    | false => exact iteF (hd rfl g σ' A0 A1 a H2 H'' w2 D (G.on (sm.trans t2.ex)))⟩
theorem ow_if {x : Bool} (M : List VD → Bag → List PyData → Prop) (h : TJ X Γ B c x B1) (h1 : x = true → OwJ X i Γ B1 acc s1 { E with nx := M, fx := fun _ _ => False }) (h2 : x = false → OwJ X i Γ B1 acc s2 { E with nx := M, fx := fun _ _ => False })
    (k : ∀ Γ' B' acc', M Γ' B' acc' → OwJ X i Γ' B' acc' rest E) : OwJ X i Γ B acc (.If c s1 s2 pos :: rest) E := fun g σ A0 A1 a H0 H w D G =>
  ⟨_, pss_cons (ps_if (wt c) (ws s1) (ws s2)) (ws rest), h g σ H0 H w.ev w.on _ fun H1 H' t o => by
    have w2 := w.step t o
    have G2 := G.on t.ex
    have G' : GetsO X i { E with nx := M, fx := fun _ _ => False } g A0 A1 a H1 { D with nx := WS X rest D } :=
      ⟨fun Γ2 B2 acc2 σ2 H2 H2' q w3 m => k _ _ _ q g σ2 A0 A1 a H2 H2' w3 D (G2.on m), fun _ _ _ _ _ q => q.elim, G2.rt, G2.bk, G2.ct, G2.ro⟩
    cases x with
    | true => exact iteT (h1 rfl g σ A0 A1 a H1 H' w2 _ G')
    | false => exact iteF (h2 rfl g σ A0 A1 a H1 H' w2 _ G')⟩
end
end Gd
namespace Gd
open PySem PySem.Spec PyProof.Rows L2
section
variable {X : Cx} {Γ : List VD} {B B1 B2 B' : Bag} {e a b c : Expr} {es : List Expr} {d da db dc : VD} {pos p p' pos' : Pos} {rest ss s1 s2 : List Stmt} {E : En}
theorem ej_max {i j : Int} (hc : X.calm = true) (hm : X.mg "max" = none) (ha : EJ X Γ B a (.da (.int i)) B1) (hb : EJ X Γ B1 b (.da (.int j)) B2) (hg : Gl X "max" := by rfl)
    (h1 : starEach [a, b] X.env = (false, eval a X.env) :: starEach [b] X.env := by rfl) (h2 : starEach [b] X.env = (false, eval b X.env) :: starEach [] X.env := by rfl)
    (hpl : (backTo pos (starEach [b] X.env)).any (·.1) = false := by rfl) : EJ X Γ B (.Call (.Name "max" p) [a, b] [] pos) (.da (.int (max i j))) B2 :=
  ej_callB (call_max2 hc) hm (aj_cons ha (aj_cons hb aj_nil h2) h1) (fun g vs H0 H O r Q q => by
    obtain ⟨v, w, rfl, h, h'⟩ := rv2 r
    refine ⟨i, j, by rw [rvI h, rvI h'], ?_⟩
    have e : (if j > i then j else i) = max i j := by split <;> omega
    rw [e]; exact q _ _ _ To.refl O (Rp.int _)) (hg := hg) (hpl := hpl) (he := h1)
theorem ej_min {i j : Int} (hc : X.calm = true) (hm : X.mg "min" = none) (ha : EJ X Γ B a (.da (.int i)) B1) (hb : EJ X Γ B1 b (.da (.int j)) B2) (hg : Gl X "min" := by rfl)
    (h1 : starEach [a, b] X.env = (false, eval a X.env) :: starEach [b] X.env := by rfl) (h2 : starEach [b] X.env = (false, eval b X.env) :: starEach [] X.env := by rfl)
    (hpl : (backTo pos (starEach [b] X.env)).any (·.1) = false := by rfl) : EJ X Γ B (.Call (.Name "min" p) [a, b] [] pos) (.da (.int (min i j))) B2 :=
  ej_callB (call_min2 hc) hm (aj_cons ha (aj_cons hb aj_nil h2) h1) (fun g vs H0 H O r Q q => by
    obtain ⟨v, w, rfl, h, h'⟩ := rv2 r
    refine ⟨i, j, by rw [rvI h, rvI h'], ?_⟩
    have e : (if j < i then j else i) = min i j := by split <;> omega
    rw [e]; exact q _ _ _ To.refl O (Rp.int _)) (hg := hg) (hpl := hpl) (he := h1)
theorem RpAll.bools_of {K : PySem.W.Frag} {H : Hp} : ∀ {xs : List V} {ns : List Bool}, RpAll K H xs (ns.map PyData.bool) → xs = ns.map V.bl
  | [], [], _ => rfl
  | _ :: _, n :: ns, .cons h r => by
    cases h
    rw [RpAll.bools_of r]; rfl
theorem ej_any {bs : List Bool} (hc : X.calm = true) (hm : X.mg "any" = none) (ha : EJ X Γ B a (.da (.list (bs.map .bool))) B1) (hs : starEach [a] X.env = [(false, eval a X.env)] := by rfl) (hg : Gl X "any" := by rfl) :
    EJ X Γ B (.Call (.Name "any" p) [a] [] pos) (.da (.bool (bs.any id))) B1 :=
  ej_callB (cr_any hc) hm (aj_cons ha aj_nil hs) (fun g vs H0 H O r Q q => by
    obtain ⟨v, rfl, h⟩ := rv1 r
    obtain ⟨p, xs, rfl, hx, rs⟩ := rvL h
    rw [RpAll.bools_of rs] at hx
    exact ⟨p, bs, rfl, SqL.of (O.ex _ _ hx), q _ _ _ To.refl O (Rp.bl _)⟩) (hg := hg) (he := hs)
theorem RpAll.strs {K : PySem.W.Frag} {H : Hp} : ∀ ns : List Str, RpAll K H (ns.map V.str) (ns.map PyData.str)
  | [] => .nil
  | n :: ns => .cons (.str n) (RpAll.strs ns)
theorem ej_sortedSet {xs out : List Str} (hc : X.calm = true) (hm : X.mg "sorted" = none) (hm' : X.mg "set" = none) (ha : EJ X Γ B a (.da (.list (xs.map .str))) B1) (hl : xs.length < 64)
    (ho : ∀ ns : List Str, ns.Nodup → (∀ k, k ∈ ns ↔ k ∈ xs) → sortedS ns = true → ns = out)
    (hs : starEach [a] X.env = [(false, eval a X.env)] := by rfl) (hg : Gl X "sorted" := by rfl) (hg' : Gl X "set" := by rfl)
    (hs' : starEach [.Call (.Name "set" p') [a] [] pos'] X.env = [(false, eval (.Call (.Name "set" p') [a] [] pos') X.env)] := by rfl) :
    EJ X Γ B (.Call (.Name "sorted" p) [.Call (.Name "set" p') [a] [] pos'] [] pos) (.da (.list (out.map .str))) B1 := fun g σ H0 H Ev O Q q =>
  ⟨_, pe_callB (cr_sortedT' hc) hg hm (by decide +kernel) (pa_cons (pe_callTy (cr_setT hc) hg' hm' (by decide +kernel) (wa [a]) (by decide) (by decide) hs rfl) pa_nil hs') (by decide) (by decide) hs' rfl,
   (aj_cons (ds := []) ha aj_nil hs) g σ H0 H Ev O _ fun vs H1 H' t o r => by
    obtain ⟨v, rfl, h⟩ := rv1 r
    obtain ⟨l, zs, rfl, hx, rs⟩ := rvL h
    rw [RpAll.strs_of rs] at hx
    refine ⟨l, xs, rfl, SqL.of (o.ex _ _ hx), hl, fun ys m e1 e2 hm1 => ?_⟩
    obtain ⟨t2, o2⟩ := laid (o := TxO X.w m ys) o hm1
    refine ⟨m, ys, rfl, upd_same, by rw [e1]; exact hl, fun ns m2 q1 q2 q3 hm2 => ?_⟩
    obtain ⟨t3, o3⟩ := laid (o := .lst (ns.map V.str)) o2 hm2
    obtain rfl := ho ns q1 (fun k => (q2 k).trans (e2 k)) q3
    exact q _ _ _ ((t.trans t2).trans t3) o3 (Rp.lst upd_same (RpAll.strs _))⟩
def Glob (K : PySem.W.Frag) (mg : Str → Option Value) (x : Str) (d : PyData) : Prop := ∃ v u, mg x = some u ∧ RelV v u ∧ ∀ H, Rp K H v d
theorem ej_glob {x : Str} {y : PyData} (G : Glob X.K X.mg x y) (hg : Gl X x := by rfl) (hd : (x == ("__debug__" : Str)) = false := by decide) : EJ X Γ B (.Name x pos) (.da y) B :=
  let ⟨_, _, hm, r, h⟩ := G; ej_c (pe_glob hg hm r hd) h
theorem sj_forRev (j : Nat) {x : Str} {ds : List PyData} {px pr pc : Pos} (nd : X.N.Nodup) (hc : X.calm = true) (hm : X.mg "reversed" = none) (P : Nat → List VD → Bag → Prop) (hi : EJ X Γ B e (.da (.list ds)) B1) (h0 : P 0 Γ B1)
    (hs : ∀ i y Γ' B', i < ds.length → ds[ds.length - 1 - i]? = some y → P i Γ' B' → SJ X (Γ'.set j (.da y)) B' s1 { nx := P (i + 1), ct := P (i + 1), bk := fun Γ' B' => SJ X Γ' B' rest E, rt := E.rt })
    (hd : ∀ Γ' B', P ds.length Γ' B' → SJ X Γ' B' rest E) (hN : X.N[j]? = some x := by rfl) (hx : Loc X.env.scope x := by first | exact Or.inl rfl | exact Or.inr rfl)
    (hf : X.fn x = true ∨ X.env.scope.names.lookup x = some .local := by first | exact Or.inl rfl | exact Or.inr rfl)
    (hp : PassesOwn (model X.prog X.w) X.A X.env X.xe := by exact PassesOwn.never) (hq : ∀ x, foldedSetIterable (.Call (.Name "reversed" pr) [e] [] pc) X.env x = pure x := by intro _; rfl)
    (hst : starEach [e] X.env = [(false, eval e X.env)] := by rfl) (hg : Gl X "reversed" := by rfl) :
    SJ X Γ B (.For (.Name x px) (.Call (.Name "reversed" pr) [e] [] pc) s1 [] pos :: rest) E := fun g σ H0 H Ev O D G =>
  ⟨_, pss_cons (ps_for hp hc (pi_reversed hg hm (wa [e]) hst) (pg_name nd hN hx hf) (ws s1) hq) (ws rest), (aj_cons (ds := []) hi aj_nil hst) g σ H0 H Ev O _ fun vs H1 H' t o r => by
    obtain ⟨v, rfl, h⟩ := rv1 r
    obtain ⟨l, xs, rfl, hxs, rs⟩ := rvL h
    refine ⟨l, xs, rfl, SqL.of (o.ex _ _ hxs), ?_⟩
    refine RT.for_Itv (xs := xs) (fun i σ' H'' => ∃ Γ' B' H2, P i Γ' B' ∧ To g H1 H' H2 H'' ∧ EnvD X.K g H2 σ' Γ' ∧ On X.K g B' H2 H'') ⟨Γ, B1, H1, h0, To.refl, Ev.mono t.ex, o⟩ ?_ ?_ ?_
    · rintro i σ' H'' ⟨Γ', B', H2, _, t2, _, o2⟩
      exact SqL.of (o2.ex _ _ (t2.ex _ _ hxs))
    · rintro i y σ' H'' hlt hy ⟨Γ', B', H2, hP, t2, e2, o2⟩
      rw [rs.length] at hlt hy
      obtain ⟨d, hdi, rd⟩ := rs.get hy
      refine hs i d Γ' B' hlt hdi hP g _ H2 H'' (e2.set j (Rp.mono t2.ex rd)) o2 _ ⟨?_, ?_, ?_, ?_⟩
      · exact fun Γ3 B3 σ3 H3 H3' q t3 e3 o3 => ⟨Γ3, B3, H3, q, t2.trans t3, e3, o3⟩
      · exact fun r B3 v H3 H3' q t3 o3 rv => (G.on (t.trans t2)).rt r B3 v H3 H3' q t3 o3 rv
      · exact fun Γ3 B3 σ3 H3 H3' q t3 e3 o3 => q g σ3 H3 H3' e3 o3 D (G.on ((t.trans t2).trans t3))
      · exact fun Γ3 B3 σ3 H3 H3' q t3 e3 o3 => ⟨Γ3, B3, H3, q, t2.trans t3, e3, o3⟩
    · rintro σ' H'' ⟨Γ', B', H2, hP, t2, e2, o2⟩
      rw [rs.length] at hP
      exact hd Γ' B' hP g σ' H2 H'' e2 o2 D (G.on (t.trans t2))⟩
theorem sj_forR (j : Nat) {x : Str} {n : Nat} {px pr pc : Pos} (nd : X.N.Nodup) (hc : X.calm = true) (hm : X.mg "range" = none) (P : Nat → List VD → Bag → Prop) (hi : EJ X Γ B e (.da (.int n)) B1) (hn : n ≤ 100000) (h0 : P 0 Γ B1)
    (hs : ∀ i Γ' B', i < n → P i Γ' B' → SJ X (Γ'.set j (.da (.int (i : Nat)))) B' s1 { nx := P (i + 1), ct := P (i + 1), bk := fun Γ' B' => SJ X Γ' B' rest E, rt := E.rt })
    (hd : ∀ Γ' B', P n Γ' B' → SJ X Γ' B' rest E) (hN : X.N[j]? = some x := by rfl) (hx : Loc X.env.scope x := by first | exact Or.inl rfl | exact Or.inr rfl)
    (hf : X.fn x = true ∨ X.env.scope.names.lookup x = some .local := by first | exact Or.inl rfl | exact Or.inr rfl)
    (hp : PassesOwn (model X.prog X.w) X.A X.env X.xe := by exact PassesOwn.never) (hq : ∀ x, foldedSetIterable (.Call (.Name "range" pr) [e] [] pc) X.env x = pure x := by intro _; rfl)
    (hst : starEach [e] X.env = [(false, eval e X.env)] := by rfl) (hg : Gl X "range" := by rfl) :
    SJ X Γ B (.For (.Name x px) (.Call (.Name "range" pr) [e] [] pc) s1 [] pos :: rest) E := fun g σ H0 H Ev O D G =>
  ⟨_, pss_cons (ps_for hp hc (pi_range1 hg hm (wa [e]) hst) (pg_name nd hN hx hf) (ws s1) hq) (ws rest), (aj_cons (ds := []) hi aj_nil hst) g σ H0 H Ev O _ fun vs H1 H' t o r => by
    obtain ⟨v, rfl, h⟩ := rv1 r
    refine ⟨(n : Int), by rw [rvI h], by omega, by omega, ?_⟩
    rw [Int.toNat_natCast]
    refine for_range (lo := 0) (n := n) (fun i σ' H'' => ∃ Γ' B' H2, P i Γ' B' ∧ To g H1 H' H2 H'' ∧ EnvD X.K g H2 σ' Γ' ∧ On X.K g B' H2 H'') ⟨Γ, B1, H1, h0, To.refl, Ev.mono t.ex, o⟩ ?_ ?_
    · rintro i σ' H'' hlt ⟨Γ', B', H2, hP, t2, e2, o2⟩
      rw [Int.zero_add]
      refine hs i Γ' B' hlt hP g _ H2 H'' (e2.set (d := .da (.int (i : Nat))) j (Rp.int _)) o2 _ ⟨?_, ?_, ?_, ?_⟩
      · exact fun Γ3 B3 σ3 H3 H3' q t3 e3 o3 => ⟨Γ3, B3, H3, q, t2.trans t3, e3, o3⟩
      · exact fun r B3 v H3 H3' q t3 o3 rv => (G.on (t.trans t2)).rt r B3 v H3 H3' q t3 o3 rv
      · exact fun Γ3 B3 σ3 H3 H3' q t3 e3 o3 => q g σ3 H3 H3' e3 o3 D (G.on ((t.trans t2).trans t3))
      · exact fun Γ3 B3 σ3 H3 H3' q t3 e3 o3 => ⟨Γ3, B3, H3, q, t2.trans t3, e3, o3⟩
    · rintro σ' H'' ⟨Γ', B', H2, hP, t2, e2, o2⟩
      exact hd Γ' B' hP g σ' H2 H'' e2 o2 D (G.on (t.trans t2))⟩
end
theorem sq_keep {K : PySem.W.Frag} {H : Hp} {a : Addr} {od : Option Addr} {its : Array Value} {n : Nat} {sl : Array (Option Value)} {xs : List V} (h : K.lookup a = some ⟨.type "tuple", od, .seq its n, sl⟩) (hz : its.size ≤ 60) (r : Vals xs its.toList) : SqT K H a xs :=
  .inr ⟨_, its, n, h, rfl, rfl, Nat.le_trans hz (by rw [sizeLine_eq]; decide), r⟩
end Gd
namespace Gd
open PySem PySem.Spec PyProof.Rows L2
section
variable {X : Cx} {Γ : List VD} {B B1 B2 B' : Bag} {e a b c : Expr} {es : List Expr} {d da db dc : VD} {pos p p' pos' : Pos} {rest ss s1 s2 : List Stmt} {E : En}
theorem rv3 {K : PySem.W.Frag} {g : Gh} {H0 : Hp} {vs : List V} {d d' d'' : VD} (h : RvAll K g H0 vs [d, d', d'']) : ∃ v v' v'', vs = [v, v', v''] ∧ Rv K g H0 v d ∧ Rv K g H0 v' d' ∧ Rv K g H0 v'' d'' := by
  match vs, h with
  | [v, v', v''], h => exact ⟨v, v', v'', rfl, h.1, h.2.1, h.2.2.1⟩
theorem sj_par3 (i j l : Nat) {x y z : Str} {px py pz pt : Pos} {kt k2 pt2} {d1 d2 d3 : VD} (nd : X.N.Nodup) (hc : X.calm = true) (h : AJ X Γ B [a, b, c] [d1, d2, d3] B1) (k : SJ X (((Γ.set i d1).set j d2).set l d3) B1 rest E)
    (hij : i ≠ j) (hil : i ≠ l) (hjl : j ≠ l) (hw : swappedStores [.Tuple [.Name x px, .Name y py, .Name z pz] kt pt] (.Tuple [a, b, c] k2 pt2) X.env = pure (some [x, y, z])) (hi : X.N[i]? = some x := by rfl) (hj : X.N[j]? = some y := by rfl) (hl : X.N[l]? = some z := by rfl)
    (hx : X.env.scope.names.lookup x = some .local := by rfl) (hy : X.env.scope.names.lookup y = some .local := by rfl) (hz : X.env.scope.names.lookup z = some .local := by rfl)
    (hsw : swapsWithSole [.Tuple [.Name x px, .Name y py, .Name z pz] kt pt] (.Tuple [a, b, c] k2 pt2) pos.line X.env = pure false := by rfl) :
    SJ X Γ B (.Assign [.Tuple [.Name x px, .Name y py, .Name z pz] kt pt] (.Tuple [a, b, c] k2 pt2) pos :: rest) E := fun g σ H0 H Ev O D G =>
  ⟨_, pss_cons (ps_par3 hc nd hi hj hl hij hil hjl hx hy hz (wa [a, b, c]) hw hsw) (ws rest), h g σ H0 H Ev O _ fun vs H1 H' t o r => by
    obtain ⟨u, v, w, rfl, r1, r2, r3⟩ := rv3 r
    exact ⟨u, v, w, rfl, k g _ H1 H' ((((Ev.mono t.ex).set i r1).set j r2).set l r3) o D (G.on t)⟩⟩
theorem shaped_ii (a b : Int) : SeqAt.shaped (.tuple [.int a, .int b]) = true := by
  unfold SeqAt.shaped
  have h1 : (PyData.tuple [.int a, .int b]).canLay0 = true := by simp only [PyData.canLay0, PyData.canLayAll0, Bool.and_self]
  rw [h1]; rfl
theorem eqv_ii (a b c d : Int) : PyData.eqv (.tuple [.int a, .int b]) (.tuple [.int c, .int d]) = (decide (a = c) && decide (b = d)) := by
  simp only [PyData.eqv, PyData.eqvAll, Bool.and_true]
  rw [← eqv_int, ← eqv_int]
  simp only [PyData.eqv]
end
end Gd
namespace Gd
open PySem PySem.Spec PyProof.Rows L2
section
variable {X : Cx} {Γ : List VD} {B B1 B2 B' : Bag} {a b : Expr} {pos : Pos}
theorem ej_inT {x : Str} {ss : List Str} (ha : EJ X Γ B a (.da (.str x)) B1) (hb : EJ X Γ B1 b (.da (.tuple (ss.map .str))) B2) (hm : behindInMarks .In b = false := by rfl) :
    EJ X Γ B (.Compare a [.In] [b] pos) (.da (.bool (ss.any fun s => decide (s = x)))) B2 :=
  ej_bin ha hb (fun _ _ h1 h2 => pe_cmpR op_in_seq h1 h2 hm) fun g v w H0 H O r1 r2 Q q => by
    obtain ⟨p, xs, rfl, hx, rs⟩ := rvT r2
    rw [rvS r1]
    have e := rs.strs_of
    subst e
    refine ⟨p, _, rfl, .inr (seqT O.ex hx), rfl, ?_, ?_⟩
    · rw [List.all_map]; exact List.all_eq_true.mpr fun _ _ => rfl
    · rw [if_neg (by decide), inV_strs]; exact q _ _ _ To.refl O (Rp.bl _)
theorem tj_eqB {i j : Bool} (hu : X.A.units + 64 < cLine) (ha : EJ X Γ B a (.da (.bool i)) B1) (hb : EJ X Γ B1 b (.da (.bool j)) B2) : TJ X Γ B (.Compare a [.Eq] [b] pos) (decide (i = j)) B2 := by
  have h := tj_eq (pos := pos) hu ha hb rfl rfl
  have e : PyData.eqv (.bool i) (.bool j) = decide (i = j) := by simp only [PyData.eqv]; cases i <;> cases j <;> rfl
  rw [e] at h; exact h
end
end Gd
namespace Gd
open PySem PySem.Spec PyProof.Rows L2
theorem Cal.name {P : Program} {w : World} {K : PySem.W.Frag} {mg : Str → Option Value} {base : Heap} {x y : Str} {k : Nat} {R : Rel} {mg' : Str → Option Value} (e : mg x = mg y) (c : Cal P w K mg base x k R) : Cal P w K mg base y k R := by
  obtain ⟨f, fd, ps, F, hm, h⟩ := c
  exact ⟨f, fd, ps, F, e ▸ hm, h⟩
end Gd
namespace Lw
open PySem PySem.Spec PyProof.Rows L2 Gd Fr
open scoped Rat
structure Qz (n d : Nat) (q : Rat) : Prop where
  nu : Bd n q.num
  de : Bd d (q.den : Int)
theorem Qz.le {n d n' d' : Nat} {q : Rat} (h : Qz n d q) (e : n ≤ n') (f : d ≤ d') : Qz n' d' q := ⟨h.nu.le e, h.de.le f⟩
theorem num_ne {y : Rat} (h : y ≠ 0) : y.num ≠ 0 := fun z => h (Rat.num_eq_zero.mp z)
theorem bd_sum {a n : Nat} {i j : Int} (h : Bd a i) (k : Bd n j) (N : Nat) (h1 : a < N) (h2 : n < N) : Bd N (i + j) := by
  have := Int.natAbs_add_le i j
  have e1 : 2 ^ a ≤ 2 ^ (N - 1) := Nat.pow_le_pow_right (by decide) (by omega)
  have e2 : 2 ^ n ≤ 2 ^ (N - 1) := Nat.pow_le_pow_right (by decide) (by omega)
  have e3 : 2 ^ N = 2 ^ (N - 1) * 2 := by rw [← Nat.pow_succ]; congr 1; omega
  unfold Bd at *
  omega
theorem Qz.add {n d m c : Nat} {x y : Rat} (h : Qz n d x) (k : Qz m c y) (N : Nat) (h1 : n + c < N) (h2 : m + d < N) : Qz N (d + c) (x + y) := by
  rw [← add_div]
  have hne : (x.den : Int) * (y.den : Int) ≠ 0 := Int.mul_ne_zero (den_ne x) (den_ne y)
  have hb := bd_sum (h.nu.mul k.de) (k.nu.mul h.de) N h1 h2
  exact ⟨(divInt_bd hne hb (h.de.mul k.de)).1, (divInt_bd hne hb (h.de.mul k.de)).2⟩
theorem Qz.neg {n d : Nat} {x : Rat} (h : Qz n d x) : Qz n d (-x) := ⟨by rw [Rat.neg_num]; exact h.nu.neg, by rw [Rat.neg_den]; exact h.de⟩
theorem Qz.sub {n d m c : Nat} {x y : Rat} (h : Qz n d x) (k : Qz m c y) (N : Nat) (h1 : n + c < N) (h2 : m + d < N) : Qz N (d + c) (x - y) := by
  rw [Rat.sub_eq_add_neg]; exact h.add k.neg N h1 h2
theorem Qz.mul {n d m c : Nat} {x y : Rat} (h : Qz n d x) (k : Qz m c y) : Qz (n + m) (d + c) (x * y) := by
  rw [← mul_div]
  have hne : (x.den : Int) * (y.den : Int) ≠ 0 := Int.mul_ne_zero (den_ne x) (den_ne y)
  exact ⟨(divInt_bd hne (h.nu.mul k.nu) (h.de.mul k.de)).1, (divInt_bd hne (h.nu.mul k.nu) (h.de.mul k.de)).2⟩
theorem Qz.div {n d m c : Nat} {x y : Rat} (h : Qz n d x) (k : Qz m c y) (hy : y ≠ 0) : Qz (n + c) (d + m) (x / y) := by
  rw [← div_div x y hy]
  have hne : (x.den : Int) * y.num ≠ 0 := Int.mul_ne_zero (den_ne x) (num_ne hy)
  exact ⟨(divInt_bd hne (h.nu.mul k.de) (h.de.mul k.nu)).1, (divInt_bd hne (h.nu.mul k.de) (h.de.mul k.nu)).2⟩
theorem cmz {n m : Nat} {i j : Int} (h : Bd n i) (k : Bd m j) (e : n ≤ 100000 := by omega) (e' : m ≤ 100000 := by omega) : CMulW i j := cm h k (by omega)
theorem Qz.nat {a n : Nat} (h : a < 2 ^ n) : Qz n 1 (a : Rat) := ⟨by rw [Rat.num_natCast]; exact Bd.nat h, by rw [Rat.den_natCast]; unfold Bd; decide⟩
inductive R_reduced : Rel
  | mk (n d : Int) (B : Bag) (h : d ≠ 0) (hn : Bd 8900 d) : R_reduced [.da (.int n), .da (.int d)] B (fq (n /. d)) B
inductive R_two (f : Rat → Rat → Rat) : Rel
  | mk (n d m c : Nat) (x y : Rat) (B : Bag) (hx : Qz n d x) (hy : Qz m c y) (h1 : n ≤ 90000) (h2 : m ≤ 90000) (h3 : d + c ≤ 8900) : R_two f [.da (fq x), .da (fq y)] B (fq (f x y)) B
inductive R_over : Rel
  | mk (n d m c : Nat) (x y : Rat) (B : Bag) (hx : Qz n d x) (hy : Qz m c y) (h1 : n ≤ 90000) (h2 : c ≤ 90000) (h3 : d + m ≤ 8900) (h : y ≠ 0) : R_over [.da (fq x), .da (fq y)] B (fq (x / y)) B
def cmp (x y : Rat) : Int := if x < y then -1 else if y < x then 1 else 0
inductive R_cmp : Rel
  | mk (n d m c : Nat) (x y : Rat) (B : Bag) (hx : Qz n d x) (hy : Qz m c y) (h1 : n + d ≤ 90000) (h2 : m + c ≤ 90000) : R_cmp [.da (fq x), .da (fq y)] B (.int (cmp x y)) B
inductive R_below : Rel
  | mk (n d m c : Nat) (x y : Rat) (B : Bag) (hx : Qz n d x) (hy : Qz m c y) (h1 : n + d ≤ 90000) (h2 : m + c ≤ 90000) : R_below [.da (fq x), .da (fq y)] B (.bool (decide (x < y))) B
def absQ (x : Rat) : Rat := if x < 0 then -x else x
theorem num_neg_iff (x : Rat) : x.num < 0 ↔ x < 0 := by
  rw [Rat.lt_iff]
  show x.num < 0 ↔ x.num * 1 < 0 * _
  rw [Int.mul_one, Int.zero_mul]
theorem absQ_num (x : Rat) : (absQ x).num = (if x.num < 0 then -x.num else x.num) ∧ (absQ x).den = x.den := by
  unfold absQ
  by_cases h : x < 0
  · rw [if_pos h, if_pos ((num_neg_iff x).mpr h), Rat.neg_num, Rat.neg_den]; exact ⟨rfl, rfl⟩
  · rw [if_neg h, if_neg (fun z => h ((num_neg_iff x).mp z))]; exact ⟨rfl, rfl⟩
theorem Qz.abs {n d : Nat} {x : Rat} (h : Qz n d x) : Qz n d (absQ x) := by
  unfold absQ; split
  · exact h.neg
  · exact h
theorem absQ_nonneg (x : Rat) : 0 ≤ absQ x := by unfold absQ; split <;> grind
inductive R_one (v : Rat → PyData) : Rel
  | mk (x : Rat) (B : Bag) : R_one v [.da (fq x)] B (v x) B
def sgn (x : Rat) : Int := if x.num < 0 then 1 else 0
def pt (l m : Int) : Int := if l = 0 then 0 else if 2 * l < m then 1 else if 2 * l = m then 2 else 3
inductive R_part : Rel
  | mk (l m : Int) (B : Bag) (n : Nat) (hl : Bd n l) (hn : n ≤ 90000) : R_part [.da (.int l), .da (.int m)] B (.int (pt l m)) B
def outw (way : Str) (s c part : Int) : Bool :=
  if part = 0 ∨ way = "zero" then false
  else if way = "up" then decide (s = 0)
  else if way = "down" then decide (s = 1)
  else if part = 2 then (decide (way = "away") || decide (c % 2 = 1))
  else decide (part = 3)
inductive R_outw : Rel
  | mk (way : Str) (s c part : Int) (B : Bag) : R_outw [.da (.str way), .da (.int s), .da (.int c), .da (.int part)] B (.bool (outw way s c part)) B
def absI (i : Int) : Int := if i < 0 then -i else i
theorem bd_pow {b : Nat} (k : Nat) (h : b < 2 ^ 6) : Bd (6 * k + 1) (((b ^ k : Nat) : Int)) := by
  unfold Bd
  rw [Int.natAbs_natCast, Nat.pow_succ, Nat.pow_mul]
  have := Nat.pow_le_pow_left (Nat.le_of_lt h) k
  have p : 0 < (2 ^ 6) ^ k := Nat.pow_pos (by decide)
  omega
def intAt (Γ : List VD) (i : Nat) : Int := match Γ[i]? with
  | some (.da (.int m)) => m
  | _ => 0
theorem pow_sq (b k : Nat) : ((b ^ k : Nat) : Int) * ((b ^ k : Nat) : Int) = ((b ^ (k + k) : Nat) : Int) := by rw [← Int.natCast_mul, ← Nat.pow_add]
theorem pow_up (b j k : Nat) : ((b ^ j : Nat) : Int) * ((b ^ k : Nat) : Int) = ((b ^ (j + k) : Nat) : Int) := by rw [← Int.natCast_mul, ← Nat.pow_add]
theorem half (m : Nat) : (m : Int) / 2 = ((m / 2 : Nat) : Int) := by omega
theorem turn_odd {j k m e : Nat} (h : j + k * m = e) (h1 : m % 2 = 1) : (j + k) + (k + k) * (m / 2) = e := by
  have : m = 2 * (m / 2) + 1 := by omega
  rw [this] at h
  generalize m / 2 = t at *
  grind
theorem turn_even {j k m e : Nat} (h : j + k * m = e) (h1 : ¬ m % 2 = 1) : j + (k + k) * (m / 2) = e := by
  have : m = 2 * (m / 2) := by omega
  rw [this] at h
  generalize m / 2 = t at *
  grind
theorem k_le {j k m e : Nat} (h : j + k * m = e) (h1 : 0 < m) : k ≤ e ∧ j ≤ e := by
  have : k * 1 ≤ k * m := Nat.mul_le_mul_left k h1
  omega
theorem j_end {j k m e : Nat} (h : j + k * m = e) (h1 : ¬ 0 < m) : j = e := by
  have : m = 0 := by omega
  subst this; omega
inductive R_pow : Rel
  | mk (b e : Nat) (B : Bag) (hb : b < 2 ^ 6) (he : e ≤ 20000) : R_pow [.da (.int b), .da (.int e)] B (.int ((b ^ e : Nat) : Int)) B
def pw (b : Nat) (e : Int) : Rat := if e < 0 then ((b ^ (-e).toNat : Nat) : Rat)⁻¹ else ((b ^ e.toNat : Nat) : Rat)
theorem fq_nat (n : Nat) : fq (n : Rat) = .tuple [.int n, .int 1] := by unfold fq; rw [Rat.num_natCast, Rat.den_natCast]; rfl
theorem fq_inv {n : Nat} (h : 0 < n) : fq ((n : Rat)⁻¹) = .tuple [.int 1, .int n] := by
  unfold fq
  rw [Rat.num_inv, Rat.den_inv, Rat.num_natCast, Rat.den_natCast, if_neg (by omega), Int.sign_eq_one_of_pos (by omega)]
  rfl
inductive R_power_of : Rel
  | mk (b : Nat) (e : Int) (B : Bag) (h0 : 0 < b) (hb : b < 2 ^ 6) (h1 : -20000 ≤ e) (h2 : e ≤ 20000) : R_power_of [.da (.int b), .da (.int e)] B (fq (pw b e)) B
inductive R_bag : Rel
  | mk (ns : List Int) (B : Bag) (hl : ns.length ≤ 63) : R_bag [.scr ns] B (.list [.int 0, .int 1234567891, .int 0, .list (((ns.take 63).map absI).map .int)]) B
theorem cut_head (ns : List Int) (n : Nat) : cutP (ns.map PyData.int) none (some (n : Int)) = (ns.take n).map PyData.int := by
  unfold cutP
  rw [HT.sIx_none, HT.sIx_nat, List.drop_zero, List.length_map, Nat.sub_zero, ← List.map_take]
  congr 1
  by_cases h : n ≤ ns.length
  · rw [Nat.min_eq_left h]
  · rw [Nat.min_eq_right (by omega), List.take_length, List.take_of_length_le (by omega)]
def cell (B : Bag) : Int := ((B.cs.drop (HT.sIx B.cs.length 0 (some B.z))) ++ [0]).headD 0
def stir (B : Bag) : Bag :=
  if B.x = 0 then ⟨if 10 ^ 18 ≤ cell B then cell B else B.x, (B.y * 48271 + cell B % 2147483647 + 7919 * (B.z + 1)) % 2147483647, B.z + 1, B.cs⟩ else B
def low (B : Bag) : Int := (((B.y + 1) * 39373) % 1000000007 * (((B.y + 1) * 39373) % 1000000007) % 998244353 * 30011) % 998244353 / 7
def tkV (B : Bag) (m : Int) : Int := if 0 < (stir B).x then (stir B).x % m else low (stir B) % m
def tkB (B : Bag) (m : Int) : Bag := if 0 < (stir B).x then { stir B with x := (stir B).x / m } else stir B
theorem tkV_ge (B : Bag) {m : Int} (h : 0 < m) : 0 ≤ tkV B m := by
  unfold tkV; split <;> exact Int.emod_nonneg _ (Int.ne_of_gt h)
theorem tkV_lt (B : Bag) {m : Int} (h : 0 < m) : tkV B m < m := by
  unfold tkV; split <;> exact Int.emod_lt_of_pos _ h
def Bok (B : Bag) : Prop := B.cs.length ≤ 63
theorem stir_ok {B : Bag} (h : Bok B) : Bok (stir B) := by
  unfold stir; split <;> exact h
theorem tkB_ok {B : Bag} (h : Bok B) (m : Int) : Bok (tkB B m) := by
  unfold tkB; split <;> exact stir_ok h
inductive R_take : Rel
  | mk (B : Bag) (m : Int) (h : 0 < m) (hb : Bd 8000 m) (hc : Bok B) : R_take [.bag, .da (.int m)] B (.int (tkV B m)) (tkB B m)
theorem drop_cell (B : Bag) : atI (cutP (B.cs.map PyData.int) (some B.z) none ++ [PyData.int 0]) 0 = some (.int (cell B)) := by
  have e : cutP (B.cs.map PyData.int) (some B.z) none = (B.cs.drop (HT.sIx B.cs.length 0 (some B.z))).map PyData.int := by
    unfold cutP
    rw [HT.sIx_none, List.length_map, ← List.map_drop, List.take_of_length_le]
    rw [List.length_map, List.length_drop]; omega
  rw [e]
  unfold cell
  cases B.cs.drop (HT.sIx B.cs.length 0 (some B.z)) with
  | nil => rfl
  | cons c cs =>
    show atI (PyData.int c :: _) ((0 : Nat) : Int) = some (.int c)
    exact atI_nat rfl
def pick (ds : List PyData) (B : Bag) : PyData := ds.getD (tkV B ds.length).toNat .none
inductive R_some : Rel
  | mk (B : Bag) (ds : List PyData) (h : 0 < ds.length) (hl : ds.length ≤ 1000) (hc : Bok B) : R_some [.bag, .da (.list ds)] B (pick ds B) (tkB B ds.length)
theorem pick_at (ds : List PyData) (B : Bag) (h : 0 < ds.length) : atI ds (tkV B ds.length) = some (pick ds B) := by
  have h0 := tkV_ge B (m := ds.length) (by omega)
  have h1 := tkV_lt B (m := ds.length) (by omega)
  have e : tkV B ds.length = ((tkV B ds.length).toNat : Int) := by omega
  have hlt : (tkV B ds.length).toNat < ds.length := by omega
  conv => lhs; rw [e]
  refine atI_nat ?_
  unfold pick
  rw [List.getD_eq_getElem?_getD, List.getElem?_eq_getElem hlt]; rfl
inductive R_common : Rel
  | mk (n d : Int) (B : Bag) : R_common [.da (.int n), .da (.int d)] B (.int (Nat.gcd n.natAbs d.natAbs : Nat)) B
theorem absI_nat (n : Int) : (if n < 0 then -n else n) = (n.natAbs : Int) := by split <;> omega
theorem com_if {n d : Int} (h : d ≠ 0) : (bif decide (0 < d) then ((Nat.gcd n.natAbs d.natAbs : Nat) : Int) else -((Nat.gcd n.natAbs d.natAbs : Nat) : Int)) = com n d := by
  unfold com
  by_cases h1 : 0 < d
  · rw [decide_eq_true h1, if_neg (by omega)]; rfl
  · rw [decide_eq_false h1, if_pos (by omega)]; rfl
def wayList : List Str := ["even", "away", "up", "down", "zero"]
end Lw
namespace Lw
open PySem PySem.Spec PyProof.Rows L2 Gd Fr
open scoped Rat
theorem ltle {a b c : Rat} (h : a < b) (k : b ≤ c) : a < c := by grind
theorem lelt {a b c : Rat} (h : a ≤ b) (k : b < c) : a < c := by grind
theorem pw_eq (b : Nat) (e : Int) : pw b e = (b : Rat) ^ e := by
  unfold pw
  by_cases h : e < 0
  · rw [if_pos h]
    have e1 : e = -((-e).toNat : Int) := by omega
    conv => rhs; rw [e1]
    rw [Rat.zpow_neg, Rat.zpow_natCast, Rat.natCast_pow]
  · rw [if_neg h]
    have e1 : e = (e.toNat : Int) := by omega
    conv => rhs; rw [e1]
    rw [Rat.zpow_natCast, Rat.natCast_pow]
section
variable {b p : Nat} (h2 : 2 ≤ b)
include h2
theorem b_pos : (0 : Rat) < (b : Rat) := Rat.natCast_pos.mpr (by omega)
theorem pw_pos (e : Int) : 0 < pw b e := by rw [pw_eq]; exact Rat.zpow_pos (b_pos h2)
theorem pw_ne (e : Int) : pw b e ≠ 0 := fun z => by have := pw_pos h2 e; rw [z] at this; exact absurd this (by decide)
theorem pw_add (x y : Int) : pw b (x + y) = pw b x * pw b y := by
  rw [pw_eq, pw_eq, pw_eq]
  exact Rat.zpow_add (fun z => by have := b_pos h2; rw [z] at this; exact absurd this (by decide)) x y
omit h2 in
theorem pw_nat (n : Nat) : pw b (n : Int) = ((b ^ n : Nat) : Rat) := by
  unfold pw; rw [if_neg (by omega), Int.toNat_natCast]
omit h2 in
theorem pw_zero : pw b 0 = 1 := by
  have := pw_nat (b := b) 0
  rw [Nat.pow_zero] at this; exact this
omit h2 in
theorem pw_of {e : Int} (h : 0 ≤ e) : pw b e = ((b ^ e.toNat : Nat) : Rat) := by
  unfold pw; rw [if_neg (by omega)]
theorem pw_ge1 {e : Int} (h : 0 ≤ e) : 1 ≤ pw b e := by
  rw [pw_of h]
  have : 1 ≤ b ^ e.toNat := Nat.pow_pos (by omega)
  exact Rat.natCast_le_natCast.mpr this
theorem pw_mono {x y : Int} (h : x ≤ y) : pw b x ≤ pw b y := by
  have e : y = (y - x) + x := by omega
  rw [e, pw_add h2]
  have h1 := pw_ge1 h2 (e := y - x) (by omega)
  have := Rat.mul_le_mul_of_nonneg_right h1 (Rat.le_of_lt (pw_pos h2 x))
  rw [Rat.one_mul] at this; exact this
def IsE (b p : Nat) (low : Int) (q : Rat) (e : Int) : Prop := low ≤ e ∧ q < pw b (p + e) ∧ (e = low ∨ pw b (p + e - 1) ≤ q)
theorem isE_uniq {low e e' : Int} {q : Rat} (h : IsE b p low q e) (h' : IsE b p low q e') : e = e' := by
  have key : ∀ {e e' : Int}, IsE b p low q e → IsE b p low q e' → ¬ e < e' := by
    rintro e e' ⟨a1, a2, a3⟩ ⟨b1, b2, b3⟩ hlt
    rcases b3 with b3 | b3
    · omega
    · have := pw_mono h2 (x := p + e) (y := p + e' - 1) (by omega)
      exact absurd (ltle a2 (Rat.le_trans this b3)) (Rat.lt_irrefl)
  have k1 := key h h'
  have k2 := key h' h
  omega
end
def Nq (b : Nat) (e : Int) (q : Rat) : Int := q.num * ((b ^ (-e).toNat : Nat) : Int)
def Dq (b : Nat) (e : Int) (q : Rat) : Int := (q.den : Int) * ((b ^ e.toNat : Nat) : Int)
def cQ (b : Nat) (e : Int) (q : Rat) : Int := Nq b e q / Dq b e q
def rQ (b : Nat) (e : Int) (q : Rat) : Int := Nq b e q % Dq b e q
def tQ (b : Nat) (e : Int) (q : Rat) : Rat := (rQ b e q : Rat) / (Dq b e q : Rat)
section
variable {b p : Nat} (h2 : 2 ≤ b)
include h2
theorem Dq_pos (e : Int) (q : Rat) : 0 < Dq b e q := Int.mul_pos (den_pos q) (Int.natCast_pos.mpr (Nat.pow_pos (by omega)))
theorem Dq_ne (e : Int) (q : Rat) : ((Dq b e q : Int) : Rat) ≠ 0 := fun z => by
  have := Dq_pos h2 e q
  have e0 : Dq b e q = 0 := Rat.intCast_inj.mp (z.trans (by rfl))
  omega
theorem unit_ND (e : Int) : pw b e * ((b ^ (-e).toNat : Nat) : Rat) = ((b ^ e.toNat : Nat) : Rat) := by
  by_cases h : e < 0
  · have h1 : e.toNat = 0 := by omega
    rw [h1, Nat.pow_zero]
    unfold pw; rw [if_pos h]
    have : ((b ^ (-e).toNat : Nat) : Rat) ≠ 0 := fun z => by
      have h3 : 0 < b ^ (-e).toNat := Nat.pow_pos (by omega)
      have := Rat.natCast_pos.mpr h3
      rw [z] at this; exact absurd this (by decide)
    rw [Rat.mul_comm, Rat.mul_inv_cancel _ this]; rfl
  · have h1 : (-e).toNat = 0 := by omega
    rw [h1, Nat.pow_zero, pw_of (by omega)]
    exact Rat.mul_one _
omit h2 in
theorem num_den (q : Rat) : q * ((q.den : Int) : Rat) = (q.num : Rat) := by
  have h := Rat.num_divInt_den q
  rw [Rat.divInt_eq_div] at h
  have hd : ((q.den : Int) : Rat) ≠ 0 := fun z => by
    have e0 : (q.den : Int) = 0 := Rat.intCast_inj.mp (z.trans (by rfl))
    exact den_ne q e0
  conv => lhs; lhs; rw [← h]
  exact Rat.div_mul_cancel hd
theorem ND (e : Int) (q : Rat) : q * (Dq b e q : Rat) = (Nq b e q : Rat) * pw b e := by
  unfold Dq Nq
  rw [Rat.intCast_mul, Rat.intCast_mul, ← num_den q, Rat.intCast_natCast, Rat.intCast_natCast, Rat.intCast_natCast, ← unit_ND h2 e]
  grind
theorem q_val (e : Int) (q : Rat) : q = ((cQ b e q : Rat) + tQ b e q) * pw b e := by
  have hne := Dq_ne h2 e q
  have h := ND h2 e q
  have hd := Int.emod_add_mul_ediv (Nq b e q) (Dq b e q)
  have hd' : (Nq b e q : Rat) = (rQ b e q : Rat) + (Dq b e q : Rat) * (cQ b e q : Rat) := by
    rw [← Rat.intCast_mul, ← Rat.intCast_add]
    exact congrArg _ hd.symm
  have ht : tQ b e q * (Dq b e q : Rat) = (rQ b e q : Rat) := Rat.div_mul_cancel hne
  have : q * (Dq b e q : Rat) = (((cQ b e q : Rat) + tQ b e q) * pw b e) * (Dq b e q : Rat) := by
    rw [h, hd', ← ht]; grind
  have h3 := congrArg (· / (Dq b e q : Rat)) this
  simp only [Rat.mul_div_cancel hne] at h3
  exact h3
theorem r_ge (e : Int) (q : Rat) : 0 ≤ rQ b e q := Int.emod_nonneg _ (Int.ne_of_gt (Dq_pos h2 e q))
theorem r_lt (e : Int) (q : Rat) : rQ b e q < Dq b e q := Int.emod_lt_of_pos _ (Dq_pos h2 e q)
theorem Dq_posQ (e : Int) (q : Rat) : (0 : Rat) < (Dq b e q : Rat) := Rat.intCast_lt_intCast.mpr (Dq_pos h2 e q)
theorem t_mul (e : Int) (q : Rat) : tQ b e q * (Dq b e q : Rat) = (rQ b e q : Rat) := Rat.div_mul_cancel (Dq_ne h2 e q)
theorem t_lt_iff (e : Int) (q : Rat) (m : Int) (k : Nat) (hk : 0 < k) : (k : Rat) * tQ b e q < (m : Rat) ↔ k * rQ b e q < m * Dq b e q := by
  rw [← Rat.mul_lt_mul_right (Dq_posQ h2 e q), Rat.mul_assoc, t_mul h2, ← Rat.intCast_natCast, ← Rat.intCast_mul, ← Rat.intCast_mul, Rat.intCast_lt_intCast]
theorem t_eq_iff (e : Int) (q : Rat) (m : Int) (k : Nat) : (k : Rat) * tQ b e q = (m : Rat) ↔ k * rQ b e q = m * Dq b e q := by
  rw [← Rat.intCast_inj, Rat.intCast_mul, Rat.intCast_mul, ← t_mul h2, Rat.intCast_natCast, ← Rat.mul_assoc]
  constructor
  · intro h; rw [h]
  · intro h
    have h3 := congrArg (· / (Dq b e q : Rat)) h
    simp only [Rat.mul_div_cancel (Dq_ne h2 e q)] at h3
    exact h3
theorem t_ge (e : Int) (q : Rat) : 0 ≤ tQ b e q := by
  rw [← Rat.not_lt]
  intro h
  have := (t_lt_iff h2 e q 0 1 (by decide)).mp (by rw [show ((1 : Nat) : Rat) = 1 from rfl, Rat.one_mul]; exact h)
  have := r_ge h2 e q
  omega
theorem t_lt1 (e : Int) (q : Rat) : tQ b e q < 1 := by
  have := (t_lt_iff h2 e q 1 1 (by decide)).mpr (by have := r_lt h2 e q; omega)
  rw [show ((1 : Nat) : Rat) = 1 from rfl, Rat.one_mul] at this; exact this
theorem t_zero (e : Int) (q : Rat) : tQ b e q = 0 ↔ rQ b e q = 0 := by
  have := t_eq_iff h2 e q 0 1
  rw [show ((1 : Nat) : Rat) = 1 from rfl, Rat.one_mul] at this
  rw [show ((0 : Int) : Rat) = 0 from rfl] at this
  rw [this]; constructor <;> intro <;> omega
end
end Lw
namespace Lw
open PySem PySem.Spec PyProof.Rows L2 Gd Fr
open scoped Rat
theorem cast_lt {a c : Int} : (a : Rat) < (c : Rat) ↔ a < c := Rat.intCast_lt_intCast
theorem cast_le {a c : Int} : (a : Rat) ≤ (c : Rat) ↔ a ≤ c := Rat.intCast_le_intCast
theorem cast_s (a : Int) : ((a + 1 : Int) : Rat) = (a : Rat) + 1 := by rw [Rat.intCast_add]; rfl
section
variable {b p : Nat} (h2 : 2 ≤ b)
include h2
theorem c_uniq {e : Int} {q s : Rat} {C : Int} (h : q = ((C : Rat) + s) * pw b e) (h0 : 0 ≤ s) (h1 : s < 1) : cQ b e q = C ∧ tQ b e q = s := by
  have hv := q_val h2 e q
  have hu := pw_ne h2 e
  have t0 := t_ge h2 e q
  have t1 := t_lt1 h2 e q
  rw [h] at hv
  have e1 : (C : Rat) + s = (cQ b e q : Rat) + tQ b e q := by
    have := congrArg (· / pw b e) hv
    simp only [Rat.mul_div_cancel hu] at this
    rw [h]; exact this
  have a1 : (C : Rat) < ((cQ b e q + 1 : Int) : Rat) := by rw [cast_s]; grind
  have a2 : (cQ b e q : Rat) < ((C + 1 : Int) : Rat) := by rw [cast_s]; grind
  have a1 := cast_lt.mp a1
  have a2 := cast_lt.mp a2
  have e2 : cQ b e q = C := by omega
  rw [e2] at e1
  exact ⟨e2, by grind⟩
theorem c_ge {q : Rat} (h : 0 ≤ q) (e : Int) : 0 ≤ cQ b e q :=
  Int.ediv_nonneg (Int.mul_nonneg (Rat.num_nonneg.mpr h) (Int.natCast_nonneg _)) (Int.le_of_lt (Dq_pos h2 e q))
theorem c_le (e : Int) (q : Rat) : (cQ b e q : Rat) * pw b e ≤ q := by
  have hv := q_val h2 e q
  have := Rat.mul_le_mul_of_nonneg_right (show (cQ b e q : Rat) ≤ (cQ b e q : Rat) + tQ b e q by have := t_ge h2 e q; grind) (Rat.le_of_lt (pw_pos h2 e))
  rw [← hv] at this; exact this
theorem c_up (e : Int) (q : Rat) : q < ((cQ b e q : Rat) + 1) * pw b e := by
  have hv := q_val h2 e q
  have := Rat.mul_lt_mul_of_pos_right (show (cQ b e q : Rat) + tQ b e q < (cQ b e q : Rat) + 1 by have := t_lt1 h2 e q; grind) (pw_pos h2 e)
  rw [← hv] at this; exact this
theorem pw_p (n : Nat) (e : Int) : pw b (n + e) = (((b ^ n : Nat) : Int) : Rat) * pw b e := by rw [pw_add h2, pw_nat, Rat.intCast_natCast]
theorem c_lt {low e : Int} {q : Rat} (h : IsE b p low q e) : cQ b e q < ((b ^ p : Nat) : Int) := by
  have h1 := lelt (c_le h2 e q) h.2.1
  rw [pw_p h2, Rat.mul_lt_mul_right (pw_pos h2 e)] at h1
  exact cast_lt.mp h1
theorem c_big {low e : Int} {q : Rat} (hp : 1 ≤ p) (h : IsE b p low q e) : e = low ∨ ((b ^ (p - 1) : Nat) : Int) ≤ cQ b e q := by
  rcases h.2.2 with h | h
  · exact .inl h
  · refine .inr ?_
    have e1 : (p : Int) + e - 1 = ((p - 1 : Nat) : Int) + e := by omega
    rw [e1, pw_p h2] at h
    have h1 := lelt h (c_up h2 e q)
    rw [Rat.mul_lt_mul_right (pw_pos h2 e), ← cast_s] at h1
    have := cast_lt.mp h1
    omega
def Can (b p : Nat) (low C e : Int) : Prop := 0 ≤ C ∧ C < ((b ^ p : Nat) : Int) ∧ low ≤ e ∧ (e = low ∨ ((b ^ (p - 1) : Nat) : Int) ≤ C)
theorem can_isE {low C e : Int} (hp : 1 ≤ p) (h : Can b p low C e) : IsE b p low ((C : Rat) * pw b e) e := by
  obtain ⟨a1, a2, a3, a4⟩ := h
  refine ⟨a3, ?_, a4.imp id fun z => ?_⟩
  · rw [pw_p h2, Rat.mul_lt_mul_right (pw_pos h2 e)]; exact cast_lt.mpr a2
  · have e1 : (p : Int) + e - 1 = ((p - 1 : Nat) : Int) + e := by omega
    rw [e1, pw_p h2]
    exact Rat.mul_le_mul_of_nonneg_right (cast_le.mpr z) (Rat.le_of_lt (pw_pos h2 e))
theorem can_c (C e : Int) : cQ b e ((C : Rat) * pw b e) = C := (c_uniq h2 (s := 0) (by grind) (by grind) (by grind)).1
theorem spot_can {low e : Int} {q : Rat} (hp : 1 ≤ p) (h0 : 0 ≤ q) (h : IsE b p low q e) : Can b p low (cQ b e q) e := ⟨c_ge h2 h0 e, c_lt h2 h, h.1, c_big h2 hp h⟩
theorem isE_ex (low : Int) (q : Rat) : ∃ e, IsE b p low q e := by
  have step : ∀ n : Nat, q < pw b (p + (low + n)) → ∃ e, IsE b p low q e := by
    intro n
    induction n with
    | zero => intro h; exact ⟨low, Int.le_refl _, by rw [show (low + (0 : Nat) : Int) = low by omega] at h; exact h, .inl rfl⟩
    | succ n ih =>
      intro h
      by_cases h1 : q < pw b (p + (low + n))
      · exact ih h1
      · refine ⟨low + (n + 1 : Nat), by omega, h, .inr ?_⟩
        rw [show (p : Int) + (low + (n + 1 : Nat)) - 1 = p + (low + n) by omega]
        exact Rat.not_lt.mp h1
  refine step (q.num.natAbs + (-(p + low)).toNat) ?_
  have h1 : pw b (q.num.natAbs : Int) ≤ pw b (p + (low + (q.num.natAbs + (-(p + low)).toNat : Nat))) := pw_mono h2 (by omega)
  refine ltle ?_ h1
  rw [pw_nat]
  have h3 : q.num.natAbs < b ^ q.num.natAbs := Nat.lt_pow_self (by omega)
  by_cases hq : 0 ≤ q
  · have h4 : q ≤ (q.num : Rat) := by
      have hd := num_den q
      have h5 : (1 : Rat) ≤ ((q.den : Int) : Rat) := cast_le.mpr (show 1 ≤ (q.den : Int) by have := den_pos q; omega)
      have := Rat.mul_le_mul_of_nonneg_left h5 hq
      rw [hd, Rat.mul_one] at this; exact this
    refine lelt h4 ?_
    rw [← Rat.intCast_natCast]
    exact cast_lt.mpr (by omega)
  · rw [Rat.not_le] at hq
    have := Rat.natCast_pos.mpr (show 0 < b ^ q.num.natAbs by omega)
    exact ltle hq (Rat.le_of_lt this)
end
open Classical in
noncomputable def eQ (b p : Nat) (low : Int) (q : Rat) : Int := if h : ∃ e, IsE b p low q e then h.choose else low
theorem eQ_is {b p : Nat} (h2 : 2 ≤ b) (low : Int) (q : Rat) : IsE b p low q (eQ b p low q) := by
  have h := isE_ex (p := p) h2 low q
  unfold eQ; rw [dif_pos h]; exact h.choose_spec
theorem eQ_of {b p : Nat} (h2 : 2 ≤ b) {low e : Int} {q : Rat} (h : IsE b p low q e) : eQ b p low q = e := isE_uniq h2 (eQ_is h2 low q) h
def upN (b p : Nat) (c e : Int) : Int × Int := if c + 1 = ((b ^ p : Nat) : Int) then (((b ^ (p - 1) : Nat) : Int), e + 1) else (c + 1, e)
def nb (b p : Nat) (o : Bool) (c e : Int) : Int × Int := if o = true then upN b p c e else (c, e)
theorem nb_can {b p : Nat} {low c e : Int} {o : Bool} (h2 : 2 ≤ b) (hp : 2 ≤ p) (h : Can b p low c e) : Can b p low (nb b p o c e).1 (nb b p o c e).2 ∧ (((nb b p o c e).1 : Rat) * pw b (nb b p o c e).2 = (if o = true then (c : Rat) + 1 else (c : Rat)) * pw b e) := by
  obtain ⟨a1, a2, a3, a4⟩ := h
  have e1 : b ^ p = b ^ (p - 1) * b := by rw [← Nat.pow_succ]; congr 1; omega
  have p1 : 0 < b ^ (p - 1) := Nat.pow_pos (by omega)
  have p2 : b ^ (p - 1) * 2 ≤ b ^ (p - 1) * b := Nat.mul_le_mul_left _ h2
  unfold nb
  by_cases ho : o = true
  · rw [if_pos ho, if_pos ho]
    unfold upN
    by_cases hc : c + 1 = ((b ^ p : Nat) : Int)
    · rw [if_pos hc]
      refine ⟨⟨by omega, by omega, by omega, .inr (Int.le_refl _)⟩, ?_⟩
      rw [← cast_s, hc, ← pw_p h2 p e]
      have := pw_p h2 (p - 1) (e + 1)
      rw [← this]
      congr 1; omega
    · rw [if_neg hc]
      exact ⟨⟨by omega, by omega, a3, a4.imp id fun z => by omega⟩, by rw [cast_s]⟩
  · rw [if_neg ho, if_neg ho]
    exact ⟨⟨a1, a2, a3, a4⟩, rfl⟩
def words (l : List Str) : PyData := .tuple (l.map .str)
def nm (s c e : Int) : PyData := .tuple [.str "num", .int s, .int c, .int e]
def isInf (way : Str) (s : Int) : Bool := decide (way = "even" ∨ way = "away") || (decide (way = "up") && decide (s = 0)) || (decide (way = "down") && decide (s = 1))
def tooG (b p : Nat) (high : Int) (way : Str) (s : Int) : PyData := if isInf way s = true then .tuple [.str "inf", .int s] else nm s (((b ^ p : Nat) : Int) - 1) high
def outP (b p : Nat) (high : Int) (way : Str) (s e c part : Int) : PyData :=
  if high < (nb b p (outw way s c part) c e).2 then .tuple [tooG b p high way s, words ["inexact", "over"]]
  else .tuple [nm s (nb b p (outw way s c part) c e).1 (nb b p (outw way s c part) c e).2, if part = 0 then words [] else if c < ((b ^ (p - 1) : Nat) : Int) then words ["inexact", "tiny"] else words ["inexact"]]
noncomputable def rdP (b p : Nat) (low high : Int) (way : Str) (x : Rat) (s : Int) : PyData :=
  outP b p high way (if x = 0 then s else sgn x) (eQ b p low (absQ x)) (cQ b (eQ b p low (absQ x)) (absQ x)) (pt (rQ b (eQ b p low (absQ x)) (absQ x)) (Dq b (eQ b p low (absQ x)) (absQ x)))
end Lw
set_option exponentiation.threshold 4000
namespace Lw
open PySem PySem.Spec PyProof.Rows L2 Gd Fr
open scoped Rat
structure Fm (b p : Nat) (low high : Int) : Prop where
  b2 : 2 ≤ b
  b6 : b < 2 ^ 6
  p2 : 2 ≤ p
  p7 : p ≤ 120
  lo : -1200 ≤ low
  lh : low ≤ high
  hi : high ≤ 1200
  bp : b ^ p < 2 ^ 700
  bl : b ^ (-low).toNat < 2 ^ 2340
  bh : b ^ high.toNat < 2 ^ 2340
def fmP (b p : Nat) (low high : Int) : PyData := .tuple [.int b, .int p, .int low, .int high]
theorem ways {way : Str} (h : way ∈ wayList) : way = "even" ∨ way = "away" ∨ way = "up" ∨ way = "down" ∨ way = "zero" := by unfold wayList at h; simpa using h
theorem pw_bd {b : Nat} (h2 : 2 ≤ b) {e : Int} {n d : Nat} (hn : b ^ e.toNat < 2 ^ n) (hd : b ^ (-e).toNat < 2 ^ d) (h1 : 1 ≤ n) (h1' : 1 ≤ d) : Qz n d (pw b e) := by
  unfold pw
  by_cases h : e < 0
  · rw [if_pos h]
    have hp : 0 < b ^ (-e).toNat := Nat.pow_pos (by omega)
    refine ⟨?_, ?_⟩
    · rw [Rat.num_inv, Rat.num_natCast, Rat.den_natCast]
      have : (((b ^ (-e).toNat : Nat) : Int)).sign = 1 := Int.sign_eq_one_of_pos (by omega)
      rw [this]
      exact (show Bd 1 (1 * ((1 : Nat) : Int)) by unfold Bd; decide).le h1
    · rw [Rat.den_inv, Rat.num_natCast, if_neg (by omega), Int.natAbs_natCast]
      exact Bd.nat hd
  · rw [if_neg h]
    exact ⟨by rw [Rat.num_natCast]; exact Bd.nat hn, by rw [Rat.den_natCast]; exact (show Bd 1 ((1 : Nat) : Int) by unfold Bd; decide).le h1'⟩
section
variable {b p : Nat} {low high : Int} (F : Fm b p low high)
include F
theorem Fm.pow_lo {e : Int} (h : low ≤ e) : b ^ (-e).toNat < 2 ^ 2340 := Nat.lt_of_le_of_lt (Nat.pow_le_pow_right (by have := F.b2; omega) (by omega)) F.bl
theorem Fm.pow_hi {e : Int} (h : e ≤ high) : b ^ e.toNat < 2 ^ 2340 := Nat.lt_of_le_of_lt (Nat.pow_le_pow_right (by have := F.b2; omega) (by omega)) F.bh
theorem Fm.qz {e : Int} (h : low ≤ e) (h' : e ≤ high) : Qz 2340 2340 (pw b e) := pw_bd F.b2 (F.pow_hi h') (F.pow_lo h) (by decide) (by decide)
theorem Fm.e_bd {q : Rat} {e : Int} {n d : Nat} (hq : Qz n d q) (h0 : 0 ≤ q) (hE : IsE b p low q e) : (q.den * b ^ e.toNat < 2 ^ n ∧ 0 < e ∧ low < e) ∨ (e ≤ 0 ∨ e = low) := by
  by_cases h : 0 < e ∧ low < e
  · refine .inl ⟨?_, h⟩
    have h3 := hE.2.2
    have h4 : pw b (p + e - 1) ≤ q := by
      rcases h3 with z | z
      · omega
      · exact z
    have h5 : pw b (e : Int) ≤ q := Rat.le_trans (pw_mono F.b2 (by have := F.p2; omega)) h4
    have hd0 : (0 : Rat) ≤ ((q.den : Int) : Rat) := cast_le.mpr (Int.le_of_lt (den_pos q))
    have h6 := Rat.mul_le_mul_of_nonneg_right h5 hd0
    rw [num_den, pw_of (by omega), ← Rat.intCast_natCast, ← Rat.intCast_mul] at h6
    have h7 := cast_le.mp h6
    have h8 := hq.nu
    unfold Bd at h8
    have h9 : (q.den : Int) * ((b ^ e.toNat : Nat) : Int) ≤ q.num := by rw [Int.mul_comm]; exact h7
    have h10 : ((q.den * b ^ e.toNat : Nat) : Int) ≤ q.num := by rw [Int.natCast_mul]; exact h9
    omega
  · exact .inr (by have := hE.1; omega)
theorem Fm.D_bd {q : Rat} {e : Int} {n d : Nat} (hq : Qz n d q) (h0 : 0 ≤ q) (hE : IsE b p low q e) (hn : n ≤ 8900) (hd : d ≤ 6500) : Bd 8900 (Dq b e q) := by
  unfold Dq
  rw [← Int.natCast_mul]
  rcases F.e_bd hq h0 hE with ⟨h, _, _⟩ | h
  · exact (Bd.nat h).le hn
  · have h1 : b ^ e.toNat < 2 ^ 2340 := by
      rcases h with h | h
      · have : e.toNat = 0 := by omega
        rw [this, Nat.pow_zero]; exact Nat.one_lt_two_pow (by decide)
      · rw [h]; exact F.pow_hi F.lh
    rw [Int.natCast_mul]
    exact (hq.de.mul (Bd.nat h1)).le (by omega)
theorem Fm.u_bd {q : Rat} {e : Int} {n d : Nat} (hq : Qz n d q) (h0 : 0 ≤ q) (hE : IsE b p low q e) : Qz (max n 2340) 2340 (pw b e) := by
  have hd1 : 1 ≤ q.den := q.den_pos
  have hlo : b ^ (-e).toNat < 2 ^ 2340 := F.pow_lo hE.1
  rcases F.e_bd hq h0 hE with ⟨h, _, _⟩ | h
  · have h1 : b ^ e.toNat < 2 ^ n := Nat.lt_of_le_of_lt (Nat.le_mul_of_pos_left _ hd1) h
    exact pw_bd F.b2 (Nat.lt_of_lt_of_le h1 (Nat.pow_le_pow_right (by decide) (by omega))) hlo (by omega) (by decide)
  · have h1 : b ^ e.toNat < 2 ^ 2340 := by
      rcases h with h | h
      · have : e.toNat = 0 := by omega
        rw [this, Nat.pow_zero]; exact Nat.one_lt_two_pow (by decide)
      · rw [h]; exact F.pow_hi F.lh
    exact pw_bd F.b2 (Nat.lt_of_lt_of_le h1 (Nat.pow_le_pow_right (by decide) (by omega))) hlo (by omega) (by decide)
theorem Fm.e_hi {q : Rat} {e : Int} {n d : Nat} (hq : Qz n d q) (h0 : 0 ≤ q) (hE : IsE b p low q e) (hn : n ≤ 8900) : e ≤ 9000 := by
  rcases F.e_bd hq h0 hE with ⟨h, _, _⟩ | h
  · have hd1 : 1 ≤ q.den := q.den_pos
    have h1 : b ^ e.toNat < 2 ^ n := Nat.lt_of_le_of_lt (Nat.le_mul_of_pos_left _ hd1) h
    have h2 : 2 ^ e.toNat ≤ b ^ e.toNat := Nat.pow_le_pow_left F.b2 _
    have h3 : e.toNat < n := (Nat.pow_lt_pow_iff_right (by decide)).mp (Nat.lt_of_le_of_lt h2 h1)
    omega
  · have := F.hi; have := F.lh
    rcases h with h | h <;> omega
end
section
variable {b p : Nat} (h2 : 2 ≤ b)
include h2
theorem mul_lt_u {x y : Rat} (e : Int) : x * pw b e < y * pw b e ↔ x < y := Rat.mul_lt_mul_right (pw_pos h2 e)
theorem mul_eq_u {x y : Rat} (e : Int) : x * pw b e = y * pw b e ↔ x = y := by
  constructor
  · intro h
    have := congrArg (· / pw b e) h
    simp only [Rat.mul_div_cancel (pw_ne h2 e)] at this
    exact this
  · intro h; rw [h]
def loQ (b : Nat) (e : Int) (q : Rat) : Rat := (cQ b e q : Rat) * pw b e
def upQ (b : Nat) (e : Int) (q : Rat) : Rat := if rQ b e q = 0 then loQ b e q else ((cQ b e q + 1 : Int) : Rat) * pw b e
theorem lo_eq (e : Int) (q : Rat) : loQ b e q = q ↔ rQ b e q = 0 := by
  rw [← t_zero h2 e q]
  conv => lhs; rhs; rw [q_val h2 e q]
  unfold loQ
  rw [mul_eq_u h2]
  constructor <;> intro h <;> grind
theorem below_lo (e : Int) (q : Rat) : q - loQ b e q = tQ b e q * pw b e := by
  unfold loQ
  conv => lhs; lhs; rw [q_val h2 e q]
  grind
theorem above_up (e : Int) (q : Rat) (hr : rQ b e q ≠ 0) : upQ b e q - q = (1 - tQ b e q) * pw b e := by
  unfold upQ; rw [if_neg hr, cast_s]
  conv => lhs; rhs; rw [q_val h2 e q]
  grind
theorem half_eq (e : Int) (q : Rat) (hr : rQ b e q ≠ 0) : q - loQ b e q = upQ b e q - q ↔ 2 * rQ b e q = Dq b e q := by
  rw [below_lo h2, above_up h2 e q hr, mul_eq_u h2]
  have := t_eq_iff h2 e q 1 2
  rw [show ((2 : Nat) : Rat) = 2 from rfl, show ((1 : Int) : Rat) = 1 from rfl, Int.one_mul] at this
  rw [show (2 : Int) * rQ b e q = ((2 : Nat) : Int) * rQ b e q from rfl, ← this]
  constructor <;> intro h <;> grind
theorem half_lt (e : Int) (q : Rat) (hr : rQ b e q ≠ 0) : q - loQ b e q < upQ b e q - q ↔ 2 * rQ b e q < Dq b e q := by
  rw [below_lo h2, above_up h2 e q hr, mul_lt_u h2]
  have := t_lt_iff h2 e q 1 2 (by decide)
  rw [show ((2 : Nat) : Rat) = 2 from rfl, show ((1 : Int) : Rat) = 1 from rfl, Int.one_mul] at this
  rw [show (2 : Int) * rQ b e q = ((2 : Nat) : Int) * rQ b e q from rfl, ← this]
  constructor <;> intro h <;> grind
end
def nearQ (its : Str) (q lo up : Rat) (c : Int) : Rat :=
  if its = "zero" ∨ its = "lower" then lo else if its = "upper" then up
  else if q - lo = up - q then (if its = "even" ∧ c % 2 = 0 then lo else up) else if q - lo < up - q then lo else up
def itsOf (way : Str) (s : Int) : Str := if way = "up" ∨ way = "down" then (if decide (way = "up") = decide (s = 0) then "upper" else "lower") else way
theorem outw_even {s c k : Int} (hk : k ≠ 0) : outw "even" s c k = if k = 2 then decide (c % 2 = 1) else decide (k = 3) := by
  unfold outw
  rw [if_neg (show ¬ (k = 0 ∨ ("even" : Str) = "zero") from fun z => z.elim hk fun y => absurd y (by decide)), if_neg (show ¬ ("even" : Str) = "up" by decide), if_neg (show ¬ ("even" : Str) = "down" by decide),
    show decide (("even" : Str) = "away") = false by decide, Bool.false_or]
theorem outw_away {s c k : Int} (hk : k ≠ 0) : outw "away" s c k = if k = 2 then true else decide (k = 3) := by
  unfold outw
  rw [if_neg (show ¬ (k = 0 ∨ ("away" : Str) = "zero") from fun z => z.elim hk fun y => absurd y (by decide)), if_neg (show ¬ ("away" : Str) = "up" by decide), if_neg (show ¬ ("away" : Str) = "down" by decide),
    show decide (("away" : Str) = "away") = true by decide, Bool.true_or]
theorem outw_up {s c k : Int} (hk : k ≠ 0) : outw "up" s c k = decide (s = 0) := by
  unfold outw
  rw [if_neg (show ¬ (k = 0 ∨ ("up" : Str) = "zero") from fun z => z.elim hk fun y => absurd y (by decide)), if_pos (show ("up" : Str) = "up" by decide)]
theorem outw_down {s c k : Int} (hk : k ≠ 0) : outw "down" s c k = decide (s = 1) := by
  unfold outw
  rw [if_neg (show ¬ (k = 0 ∨ ("down" : Str) = "zero") from fun z => z.elim hk fun y => absurd y (by decide)), if_neg (show ¬ ("down" : Str) = "up" by decide), if_pos (show ("down" : Str) = "down" by decide)]
theorem outw_zero {s c k : Int} : outw "zero" s c k = false := by
  unfold outw
  rw [if_pos (show k = 0 ∨ ("zero" : Str) = "zero" from .inr rfl)]
theorem nearQ_lo {its : Str} {q lo up : Rat} {c : Int} (h : its = "zero" ∨ its = "lower") : nearQ its q lo up c = lo := by unfold nearQ; rw [if_pos h]
theorem nearQ_up {q lo up : Rat} {c : Int} : nearQ "upper" q lo up c = up := by
  unfold nearQ; rw [if_neg (show ¬ (("upper" : Str) = "zero" ∨ ("upper" : Str) = "lower") by decide), if_pos (show ("upper" : Str) = "upper" by decide)]
theorem nearQ_even {q lo up : Rat} {c : Int} : nearQ "even" q lo up c = if q - lo = up - q then (if c % 2 = 0 then lo else up) else if q - lo < up - q then lo else up := by
  unfold nearQ
  rw [if_neg (show ¬ (("even" : Str) = "zero" ∨ ("even" : Str) = "lower") by decide), if_neg (show ¬ ("even" : Str) = "upper" by decide)]
  simp only [true_and]
theorem nearQ_away {q lo up : Rat} {c : Int} : nearQ "away" q lo up c = if q - lo = up - q then up else if q - lo < up - q then lo else up := by
  unfold nearQ
  rw [if_neg (show ¬ (("away" : Str) = "zero" ∨ ("away" : Str) = "lower") by decide), if_neg (show ¬ ("away" : Str) = "upper" by decide)]
  have e : ¬ (("away" : Str) = "even" ∧ c % 2 = 0) := fun z => absurd z.1 (by decide)
  rw [if_neg e]
theorem pt_cases {r D : Int} (hr : r ≠ 0) : (2 * r = D ∧ pt r D = 2) ∨ (2 * r < D ∧ ¬ 2 * r = D ∧ pt r D = 1) ∨ (¬ 2 * r < D ∧ ¬ 2 * r = D ∧ pt r D = 3) := by
  unfold pt; rw [if_neg hr]
  by_cases h : 2 * r < D
  · exact .inr (.inl ⟨h, by omega, if_pos h⟩)
  · by_cases h' : 2 * r = D
    · exact .inl ⟨h', by rw [if_neg h, if_pos h']⟩
    · exact .inr (.inr ⟨h, h', by rw [if_neg h, if_neg h']⟩)
theorem near_ok {b : Nat} (h2 : 2 ≤ b) {way : Str} {s : Int} (hw : way ∈ wayList) (hs : s = 0 ∨ s = 1) (e : Int) (q : Rat) :
    nearQ (itsOf way s) q (loQ b e q) (upQ b e q) (cQ b e q) = (if outw way s (cQ b e q) (pt (rQ b e q) (Dq b e q)) = true then (cQ b e q : Rat) + 1 else (cQ b e q : Rat)) * pw b e := by
  by_cases hr : rQ b e q = 0
  · have hu : upQ b e q = loQ b e q := by unfold upQ; rw [if_pos hr]
    have ho : outw way s (cQ b e q) (pt (rQ b e q) (Dq b e q)) = false := by
      unfold outw pt; rw [if_pos hr, if_pos (.inl rfl)]
    rw [hu, ho]
    unfold nearQ
    simp only [ite_self, Bool.false_eq_true, if_false]
    rfl
  · have hup : upQ b e q = ((cQ b e q : Rat) + 1) * pw b e := by unfold upQ; rw [if_neg hr, cast_s]
    have hlo : loQ b e q = (cQ b e q : Rat) * pw b e := rfl
    have k1 := half_eq h2 e q hr
    have k2 := half_lt h2 e q hr
    have c01 : cQ b e q % 2 = 0 ∨ cQ b e q % 2 = 1 := by omega
    have p0 : pt (rQ b e q) (Dq b e q) ≠ 0 := by rcases pt_cases (D := Dq b e q) hr with ⟨_, z⟩ | ⟨_, _, z⟩ | ⟨_, _, z⟩ <;> rw [z] <;> decide
    rcases ways hw with rfl | rfl | rfl | rfl | rfl
    · rw [show itsOf "even" s = "even" by unfold itsOf; rw [if_neg (by decide)], nearQ_even, outw_even p0]
      rcases pt_cases (D := Dq b e q) hr with ⟨x, z⟩ | ⟨x, y, z⟩ | ⟨x, y, z⟩
      · rw [if_pos (k1.mpr x), z, if_pos rfl]
        rcases c01 with c | c
        · rw [if_pos c, c]; exact hlo
        · rw [if_neg (by omega), c]; exact hup
      · rw [if_neg (fun w => y (k1.mp w)), if_pos (k2.mpr x), z]; exact hlo
      · rw [if_neg (fun w => y (k1.mp w)), if_neg (fun w => x (k2.mp w)), z]; exact hup
    · rw [show itsOf "away" s = "away" by unfold itsOf; rw [if_neg (by decide)], nearQ_away, outw_away p0]
      rcases pt_cases (D := Dq b e q) hr with ⟨x, z⟩ | ⟨x, y, z⟩ | ⟨x, y, z⟩
      · rw [if_pos (k1.mpr x), z, if_pos rfl]; exact hup
      · rw [if_neg (fun w => y (k1.mp w)), if_pos (k2.mpr x), z]; exact hlo
      · rw [if_neg (fun w => y (k1.mp w)), if_neg (fun w => x (k2.mp w)), z]; exact hup
    · rw [outw_up p0]
      rcases hs with rfl | rfl
      · rw [show itsOf "up" 0 = "upper" by decide, nearQ_up]; exact hup
      · rw [show itsOf "up" 1 = "lower" by decide, nearQ_lo (.inr rfl)]; exact hlo
    · rw [outw_down p0]
      rcases hs with rfl | rfl
      · rw [show itsOf "down" 0 = "lower" by decide, nearQ_lo (.inr rfl)]; exact hlo
      · rw [show itsOf "down" 1 = "upper" by decide, nearQ_up]; exact hup
    · rw [show itsOf "zero" s = "zero" by unfold itsOf; rw [if_neg (by decide)], nearQ_lo (.inl rfl), outw_zero]; exact hlo
end Lw
set_option exponentiation.threshold 4000
namespace Lw
open PySem PySem.Spec PyProof.Rows L2 Gd Fr
open scoped Rat
section
variable {b p : Nat} {low e : Int} {q : Rat} (h2 : 2 ≤ b) (hp : 2 ≤ p)
include h2
theorem pick_eq {o : Bool} (ho : rQ b e q = 0 → o = false) : (if o = true then (cQ b e q : Rat) + 1 else (cQ b e q : Rat)) * pw b e = q ↔ rQ b e q = 0 := by
  by_cases hr : rQ b e q = 0
  · rw [ho hr, if_neg (by decide)]
    exact ⟨fun _ => hr, fun _ => (lo_eq h2 e q).mpr hr⟩
  · refine ⟨fun h => ?_, fun h => absurd h hr⟩
    cases o with
    | false => rw [if_neg (by decide)] at h; exact (lo_eq h2 e q).mp h
    | true =>
      rw [if_pos rfl] at h
      have := c_up h2 e q
      rw [h] at this
      exact absurd this Rat.lt_irrefl
omit h2 in
theorem outw_r {way : Str} {s c : Int} (hr : rQ b e q = 0) : outw way s c (pt (rQ b e q) (Dq b e q)) = false := by
  unfold outw pt; rw [if_pos hr, if_pos (.inl rfl)]
omit h2 in
theorem pt_zero : pt (rQ b e q) (Dq b e q) = 0 ↔ rQ b e q = 0 := by
  unfold pt
  constructor
  · intro h
    by_cases hr : rQ b e q = 0
    · exact hr
    · rw [if_neg hr] at h
      split at h
      · exact absurd h (by decide)
      · split at h <;> exact absurd h (by decide)
  · intro h; rw [if_pos h]
include hp
theorem tiny_iff (h0 : 0 ≤ q) (hE : IsE b p low q e) : q < pw b (low + p - 1) ↔ cQ b e q < ((b ^ (p - 1) : Nat) : Int) := by
  have e1 : low + p - 1 = ((p - 1 : Nat) : Int) + low := by omega
  rw [e1]
  constructor
  · intro h
    rw [Int.lt_iff_add_one_le]
    refine Decidable.byContradiction fun hc => ?_
    have hc : ((b ^ (p - 1) : Nat) : Int) ≤ cQ b e q := by omega
    have h1 := Rat.mul_le_mul_of_nonneg_right (cast_le.mpr hc) (Rat.le_of_lt (pw_pos h2 e))
    rw [← pw_p h2] at h1
    have h3 : pw b (((p - 1 : Nat) : Int) + low) ≤ pw b (((p - 1 : Nat) : Int) + e) := pw_mono h2 (by have := hE.1; omega)
    exact absurd (ltle h (Rat.le_trans h3 (Rat.le_trans h1 (c_le h2 e q)))) Rat.lt_irrefl
  · intro h
    rcases c_big h2 (by omega) hE with z | z
    · subst z
      refine ltle (c_up h2 e q) ?_
      rw [pw_p h2, ← cast_s]
      exact Rat.mul_le_mul_of_nonneg_right (cast_le.mpr (by omega)) (Rat.le_of_lt (pw_pos h2 e))
    · omega
theorem over_iff {high C E : Int} (hl : low ≤ high) (hC : Can b p low C E) : (((((b ^ p : Nat) : Int) - 1 : Int) : Rat) * pw b high < (C : Rat) * pw b E) ↔ high < E := by
  obtain ⟨a1, a2, a3, a4⟩ := hC
  have e1 : b ^ p = b ^ (p - 1) * b := by rw [← Nat.pow_succ]; congr 1; omega
  constructor
  · intro h
    refine Decidable.byContradiction fun hn => ?_
    have hn : E ≤ high := by omega
    have h1 : (C : Rat) * pw b E ≤ ((((b ^ p : Nat) : Int) - 1 : Int) : Rat) * pw b E := Rat.mul_le_mul_of_nonneg_right (cast_le.mpr (by omega)) (Rat.le_of_lt (pw_pos h2 E))
    have e0 : 0 < b ^ p := Nat.pow_pos (by omega)
    have h3 : (0 : Rat) ≤ ((((b ^ p : Nat) : Int) - 1 : Int) : Rat) := cast_le.mpr (show (0 : Int) ≤ ((b ^ p : Nat) : Int) - 1 by omega)
    have h4 := Rat.mul_le_mul_of_nonneg_left (pw_mono h2 hn) h3
    exact absurd (ltle h (Rat.le_trans h1 h4)) Rat.lt_irrefl
  · intro h
    have z : ((b ^ (p - 1) : Nat) : Int) ≤ C := by rcases a4 with z | z <;> omega
    have h1 : pw b (p + high) ≤ (C : Rat) * pw b E := by
      have h3 := Rat.mul_le_mul_of_nonneg_right (cast_le.mpr z) (Rat.le_of_lt (pw_pos h2 E))
      rw [← pw_p h2] at h3
      exact Rat.le_trans (pw_mono h2 (by omega)) h3
    refine ltle ?_ h1
    rw [pw_p h2, Rat.mul_lt_mul_right (pw_pos h2 high)]
    exact cast_lt.mpr (by omega)
omit h2 in
theorem over_big {high c : Int} {o : Bool} (hb : 2 ≤ b) (hl : low ≤ high) (hC : Can b p low c e) (h : high < (nb b p o c e).2) : ¬ c < ((b ^ (p - 1) : Nat) : Int) := by
  obtain ⟨a1, a2, a3, a4⟩ := hC
  have e1 : b ^ p = b ^ (p - 1) * b := by rw [← Nat.pow_succ]; congr 1; omega
  have p1 : 0 < b ^ (p - 1) := Nat.pow_pos (by omega)
  have p2 : b ^ (p - 1) * 2 ≤ b ^ (p - 1) * b := Nat.mul_le_mul_left _ hb
  unfold nb at h
  split at h
  · unfold upN at h
    split at h
    · omega
    · rcases a4 with z | z <;> simp only at h <;> omega
  · rcases a4 with z | z <;> simp only at h <;> omega
end
end Lw
set_option exponentiation.threshold 20000
namespace Lw
open PySem PySem.Spec PyProof.Rows L2 Gd Fr
open scoped Rat
theorem pow_uniq {b k j w : Nat} (h2 : 2 ≤ b) (h1 : b ^ k ≤ w) (h3 : w < b ^ (k + 1)) (h1' : b ^ j ≤ w) (h3' : w < b ^ (j + 1)) : k = j := by
  have a := (Nat.pow_lt_pow_iff_right (by omega : 1 < b)).mp (Nat.lt_of_le_of_lt h1 h3')
  have c := (Nat.pow_lt_pow_iff_right (by omega : 1 < b)).mp (Nat.lt_of_le_of_lt h1' h3)
  omega
inductive R_within : Rel
  | mk (b w k : Nat) (B : Bag) (h2 : 2 ≤ b) (hw : w < 2 ^ 8900) (h1 : b ^ k ≤ w) (h3 : w < b ^ (k + 1)) : R_within [.da (.int b), .da (.int w)] B (.int k) B
def sqs (b j : Nat) : List PyData := (List.range j).map fun i => .int ((b ^ 2 ^ i : Nat) : Int)
theorem sqs_len (b j : Nat) : (sqs b j).length = j := by unfold sqs; rw [List.length_map, List.length_range]
theorem sqs_succ (b j : Nat) : sqs b j ++ [.int ((b ^ 2 ^ j : Nat) : Int)] = sqs b (j + 1) := by
  unfold sqs; rw [List.range_succ, List.map_append]; rfl
theorem sqs_at {b j i : Nat} {y : PyData} (h : (sqs b j)[i]? = some y) : y = .int ((b ^ 2 ^ i : Nat) : Int) := by
  unfold sqs at h
  rw [List.getElem?_map] at h
  obtain ⟨k, hk, rfl⟩ := Option.map_eq_some_iff.mp h
  have := (List.getElem?_range (by
    have := (List.getElem?_eq_some_iff.mp hk).1
    rwa [List.length_range] at this) : (List.range j)[i]? = some i)
  rw [this] at hk; cases hk; rfl
theorem sq_next (b j : Nat) : ((b ^ 2 ^ j : Nat) : Int) * ((b ^ 2 ^ j : Nat) : Int) = ((b ^ 2 ^ (j + 1) : Nat) : Int) := by
  rw [← Int.natCast_mul, ← Nat.pow_add, Nat.pow_succ, Nat.mul_two]
theorem few_sq {b j w : Nat} (h2 : 2 ≤ b) (hw : w < 2 ^ 8900) (h : ∀ i, i < j → b ^ 2 ^ i ≤ w) : j ≤ 14 := by
  refine Decidable.byContradiction fun hn => ?_
  have h1 := h 14 (by omega)
  have h3 : 2 ^ 2 ^ 14 ≤ b ^ 2 ^ 14 := Nat.pow_le_pow_left h2 _
  have h4 := (Nat.pow_lt_pow_iff_right (by decide : 1 < 2)).mp (Nat.lt_of_le_of_lt (Nat.le_trans h3 h1) hw)
  exact absurd h4 (by decide)
theorem step_yes {b w k m l : Nat} (h2 : 2 ≤ b) (hl : l = w / b ^ (k * 2 ^ (m + 1))) (hlt : l < b ^ 2 ^ (m + 1)) (h1 : 1 ≤ l) (hs : b ^ 2 ^ m ≤ l) :
    l / b ^ 2 ^ m = w / b ^ ((2 * k + 1) * 2 ^ m) ∧ l / b ^ 2 ^ m < b ^ 2 ^ m ∧ 1 ≤ l / b ^ 2 ^ m := by
  have hp : 0 < b ^ 2 ^ m := Nat.pow_pos (by omega)
  refine ⟨?_, ?_, (Nat.one_le_div_iff hp).mpr hs⟩
  · rw [hl, Nat.div_div_eq_div_mul, ← Nat.pow_add]
    congr 2
    rw [Nat.pow_succ]; grind
  · rw [Nat.div_lt_iff_lt_mul hp, ← Nat.pow_add, ← Nat.mul_two, ← Nat.pow_succ]; exact hlt
theorem step_no {b w k m l : Nat} (hl : l = w / b ^ (k * 2 ^ (m + 1))) (hs : ¬ b ^ 2 ^ m ≤ l) : l = w / b ^ ((2 * k) * 2 ^ m) ∧ l < b ^ 2 ^ m := by
  refine ⟨?_, by omega⟩
  rw [hl]; congr 2
  rw [Nat.pow_succ]; grind
theorem log_end {b w k l : Nat} (h2 : 2 ≤ b) (hl : l = w / b ^ (k * 2 ^ 0)) (hlt : l < b ^ 2 ^ 0) (h1 : 1 ≤ l) : b ^ k ≤ w ∧ w < b ^ (k + 1) := by
  rw [Nat.pow_zero, Nat.mul_one] at hl
  rw [Nat.pow_zero, Nat.pow_one] at hlt
  have hp : 0 < b ^ k := Nat.pow_pos (by omega)
  rw [hl] at hlt h1
  refine ⟨(Nat.one_le_div_iff hp).mp h1, ?_⟩
  rw [Nat.div_lt_iff_lt_mul hp] at hlt
  rw [Nat.pow_succ, Nat.mul_comm]; exact hlt
section
variable {b : Nat} (h2 : 2 ≤ b)
include h2
theorem pw_sub (i j : Nat) : pw b ((j : Int) - i) * ((b ^ i : Nat) : Rat) = ((b ^ j : Nat) : Rat) := by
  rw [← pw_nat, ← pw_add h2, ← pw_nat]; congr 1; omega
theorem lt_pw_iff (q : Rat) (i j : Nat) : q < pw b ((j : Int) - i) ↔ q.num * ((b ^ i : Nat) : Int) < (q.den : Int) * ((b ^ j : Nat) : Int) := by
  have hd : (0 : Rat) < ((q.den : Int) : Rat) := cast_lt.mpr (den_pos q)
  have hi : (0 : Rat) < ((b ^ i : Nat) : Rat) := Rat.natCast_pos.mpr (Nat.pow_pos (by omega))
  rw [← Rat.mul_lt_mul_right hi, ← Rat.mul_lt_mul_right hd, pw_sub h2, ← cast_lt, Rat.intCast_mul, Rat.intCast_mul, ← num_den q, Rat.intCast_natCast, Rat.intCast_natCast, Rat.intCast_natCast]
  constructor <;> intro h <;> grind
theorem pw_le_iff (q : Rat) (i j : Nat) : pw b ((j : Int) - i) ≤ q ↔ (q.den : Int) * ((b ^ j : Nat) : Int) ≤ q.num * ((b ^ i : Nat) : Int) := by
  rw [← Rat.not_lt, lt_pw_iff h2, Int.not_lt]
end
inductive R_pbelow : Rel
  | mk (b : Nat) (q : Rat) (k : Int) (n d : Nat) (B : Bag) (h2 : 2 ≤ b) (h0 : 0 < q) (hq : Qz n d q) (hn : n ≤ 8900) (hd : d ≤ 8900) (h1 : pw b k ≤ q) (h3 : q < pw b (k + 1)) : R_pbelow [.da (.int b), .da (fq q)] B (.int k) B
theorem pw_num (b : Nat) (h2 : 2 ≤ b) (e : Int) : (pw b e).num = ((b ^ e.toNat : Nat) : Int) ∧ ((pw b e).den : Int) = ((b ^ (-e).toNat : Nat) : Int) := by
  unfold pw
  by_cases h : e < 0
  · rw [if_pos h, Rat.num_inv, Rat.den_inv, Rat.num_natCast, Rat.den_natCast]
    have hp : 0 < b ^ (-e).toNat := Nat.pow_pos (by omega)
    have e1 : e.toNat = 0 := by omega
    rw [if_neg (by omega), Int.sign_eq_one_of_pos (by omega), e1, Nat.pow_zero, Int.natAbs_natCast]
    exact ⟨rfl, rfl⟩
  · rw [if_neg h, Rat.num_natCast, Rat.den_natCast]
    have e1 : (-e).toNat = 0 := by omega
    rw [e1, Nat.pow_zero]
    exact ⟨rfl, rfl⟩
theorem fq_pw {b : Nat} (h2 : 2 ≤ b) (e : Int) : fq (pw b e) = .tuple [.int ((b ^ e.toNat : Nat) : Int), .int ((b ^ (-e).toNat : Nat) : Int)] := by
  unfold fq; rw [(pw_num b h2 e).1, (pw_num b h2 e).2]
theorem fq_int (n : Int) : fq (n : Rat) = .tuple [.int n, .int 1] := by unfold fq; rw [Rat.num_intCast, Rat.den_intCast]; rfl
inductive R_spot : Rel
  | mk (b p : Nat) (low high : Int) (q : Rat) (n d : Nat) (B : Bag) (F : Fm b p low high) (h0 : 0 < q) (hq : Qz n d q) (hn : n ≤ 8900) (hd : d ≤ 6500) :
      R_spot [.da (fmP b p low high), .da (fq q)] B (.tuple [.int (eQ b p low q), .int (cQ b (eQ b p low q) q), .int (pt (rQ b (eQ b p low q) q) (Dq b (eQ b p low q) q))]) B
inductive R_nearest : Rel
  | mk (b p : Nat) (low high : Int) (way : Str) (s e c part : Int) (B : Bag) (F : Fm b p low high) :
      R_nearest [.da (fmP b p low high), .da (.str way), .da (.int s), .da (.tuple [.int e, .int c, .int part])] B (nm s (nb b p (outw way s c part) c e).1 (nb b p (outw way s c part) c e).2) B
inductive R_outcome : Rel
  | mk (b p : Nat) (low high : Int) (way : Str) (s e c part : Int) (B : Bag) (F : Fm b p low high) :
      R_outcome [.da (fmP b p low high), .da (.str way), .da (.int s), .da (.tuple [.int e, .int c, .int part])] B (outP b p high way s e c part) B
inductive R_toog : Rel
  | mk (b p : Nat) (low high : Int) (way : Str) (s : Int) (B : Bag) (F : Fm b p low high) : R_toog [.da (fmP b p low high), .da (.str way), .da (.int s)] B (tooG b p high way s) B
inductive R_rounded : Rel
  | mk (b p : Nat) (low high : Int) (way : Str) (x : Rat) (s : Int) (n d : Nat) (B : Bag) (F : Fm b p low high) (hw : way ∈ wayList) (hs : s = 0 ∨ s = 1) (hx : Qz n d x) (hn : n ≤ 8900) (hd : d ≤ 6500) :
      R_rounded [.da (fmP b p low high), .da (.str way), .da (fq x), .da (.int s)] B (rdP b p low high way x s) B
inductive Va where
  | nan
  | inf (s : Int)
  | num (s c e : Int)
def Va.tag : Va → Str
  | .nan => "nan"
  | .inf _ => "inf"
  | .num _ _ _ => "num"
def Va.l : Va → List PyData
  | .nan => [.str "nan"]
  | .inf s => [.str "inf", .int s]
  | .num s c e => [.str "num", .int s, .int c, .int e]
def Va.d (v : Va) : PyData := .tuple v.l
theorem Va.at0 (v : Va) : atI v.l 0 = some (.str v.tag) := by cases v <;> rfl
def Va.isNan : Va → Bool
  | .nan => true
  | _ => false
def Va.isInf : Va → Bool
  | .inf _ => true
  | _ => false
def Va.sg : Va → Int
  | .nan => 0
  | .inf s => s
  | .num s _ _ => s
def Va.opp : Va → Va
  | .nan => .nan
  | .inf s => .inf (1 - s)
  | .num s c e => .num (1 - s) c e
def Va.wQ (b : Nat) : Va → Rat
  | .num s c e => ((if s = 1 then -c else c : Int) : Rat) * pw b e
  | _ => 0
theorem tag_nan (v : Va) : decide (v.tag = "nan") = v.isNan := by
  cases v
  · rfl
  · exact decide_eq_false (show ¬ ("inf" : Str) = "nan" by decide)
  · exact decide_eq_false (show ¬ ("num" : Str) = "nan" by decide)
theorem tag_inf (v : Va) : decide (v.tag = "inf") = v.isInf := by
  cases v
  · exact decide_eq_false (show ¬ ("nan" : Str) = "inf" by decide)
  · rfl
  · exact decide_eq_false (show ¬ ("num" : Str) = "inf" by decide)
def Vok (b p : Nat) (low high : Int) : Va → Prop
  | .nan => True
  | .inf s => s = 0 ∨ s = 1
  | .num s c e => (s = 0 ∨ s = 1) ∧ 0 ≤ c ∧ c < ((b ^ p : Nat) : Int) ∧ low ≤ e ∧ e ≤ high
theorem Vok.opp {b p : Nat} {low high : Int} {v : Va} (h : Vok b p low high v) : Vok b p low high v.opp := by
  cases v with
  | nan => trivial
  | inf s => show (1 - s = 0 ∨ 1 - s = 1); have h : s = 0 ∨ s = 1 := h; omega
  | num s c e => obtain ⟨h1, h3⟩ := h; exact ⟨by omega, h3⟩
theorem Fm.wz {b p : Nat} {low high : Int} (F : Fm b p low high) {v : Va} (h : Vok b p low high v) : Qz 3040 2341 (v.wQ b) := by
  have z : Qz 3040 2341 0 := ⟨by unfold Bd; exact Nat.pow_pos (by decide), (show Bd 1 (((0 : Rat).den : Nat) : Int) by unfold Bd; decide).le (by decide)⟩
  cases v with
  | nan => exact z
  | inf s => exact z
  | num s c e =>
    obtain ⟨h1, h3, h4, h5, h6⟩ := h
    have hc : Qz 700 1 (((if s = 1 then -c else c : Int)) : Rat) := by
      refine ⟨?_, by rw [Rat.den_intCast]; unfold Bd; decide⟩
      rw [Rat.num_intCast]
      have := F.bp
      unfold Bd
      split <;> omega
    exact hc.mul (F.qz h5 h6)
inductive R_worth : Rel
  | mk (b p : Nat) (low high : Int) (s c e : Int) (B : Bag) (F : Fm b p low high) (h : Vok b p low high (.num s c e)) : R_worth [.da (fmP b p low high), .da (Va.d (.num s c e))] B (fq (Va.wQ b (.num s c e))) B
inductive R_val (f : Va → PyData) (ok : Va → Prop) : Rel
  | mk (v : Va) (B : Bag) (h : ok v) : R_val f ok [.da v.d] B (f v) B
end Lw
set_option exponentiation.threshold 20000
namespace Lw
open PySem PySem.Spec PyProof.Rows L2 Gd Fr
open scoped Rat
theorem isE_zero {b p : Nat} (h2 : 2 ≤ b) (low : Int) : IsE b p low 0 low := ⟨Int.le_refl _, pw_pos h2 _, .inl rfl⟩
theorem cQ_zero (b : Nat) (e : Int) : cQ b e 0 = 0 ∧ rQ b e 0 = 0 := by
  unfold cQ rQ Nq
  rw [show ((0 : Rat).num) = 0 from rfl, Int.zero_mul, Int.zero_ediv, Int.zero_emod]
  exact ⟨rfl, rfl⟩
theorem rdP_zero {b p : Nat} {low high : Int} (h2 : 2 ≤ b) (hl : low ≤ high) (way : Str) (s : Int) : rdP b p low high way 0 s = .tuple [nm s 0 low, .tuple []] := by
  have ha : absQ 0 = 0 := by unfold absQ; rw [if_neg (by decide)]
  unfold rdP
  rw [ha, if_pos rfl, eQ_of h2 (isE_zero (p := p) h2 low), (cQ_zero b low).1]
  have hp : pt (rQ b low 0) (Dq b low 0) = 0 := pt_zero.mpr (cQ_zero b low).2
  rw [hp]
  unfold outP
  have ho : outw way s 0 0 = false := by unfold outw; rw [if_pos (.inl rfl)]
  rw [ho]
  show (if high < low then _ else _) = _
  rw [if_neg (by omega), if_pos rfl]; rfl
theorem rdP_pos {b p : Nat} {low high : Int} {way : Str} {x : Rat} {s : Int} (h : x ≠ 0) :
    rdP b p low high way x s = outP b p high way (sgn x) (eQ b p low (absQ x)) (cQ b (eQ b p low (absQ x)) (absQ x)) (pt (rQ b (eQ b p low (absQ x)) (absQ x)) (Dq b (eQ b p low (absQ x)) (absQ x))) := by
  unfold rdP; rw [if_neg h]
theorem absQ_pos {x : Rat} (h : x ≠ 0) : 0 < absQ x := by unfold absQ; split <;> grind
inductive R_zero : Rel
  | mk (b p : Nat) (low high : Int) (s : Int) (B : Bag) : R_zero [.da (fmP b p low high), .da (.int s)] B (nm s 0 low) B
theorem at1 {v : Va} (h : v.isNan = false) : atI v.l 1 = some (.int v.sg) := by cases v <;> first | rfl | cases h
theorem e_of_log {b p : Nat} (h2 : 2 ≤ b) {low k : Int} {q : Rat} (h1 : pw b k ≤ q) (h3 : q < pw b (k + 1)) : max low (k - p + 1) = eQ b p low q := by
  refine (eQ_of h2 ⟨by omega, ltle h3 (pw_mono h2 (by omega)), ?_⟩).symm
  by_cases h : k - p + 1 ≤ low
  · exact .inl (by omega)
  · refine .inr ?_
    have e : (p : Int) + max low (k - p + 1) - 1 = k := by omega
    rw [e]; exact h1
theorem log_ex {b : Nat} (h2 : 2 ≤ b) {q : Rat} (h0 : 0 < q) : ∃ k, pw b k ≤ q ∧ q < pw b (k + 1) := by
  -- one digit, from an e far below on
  obtain ⟨m, hm⟩ : ∃ m : Nat, pw b (-(m : Int)) ≤ q := by
    refine ⟨q.den, ?_⟩
    have := (pw_le_iff h2 q q.den 0).mpr (by
      rw [Nat.pow_zero]
      have h1 : q.den < b ^ q.den := Nat.lt_pow_self (by omega)
      have hn : 1 ≤ q.num := by
        have : ¬ q.num ≤ 0 := fun z => by
          have h3 : ¬ 0 < q := fun z2 => by
            have := (Rat.lt_iff 0 q).mp z2
            rw [show (0 : Rat).num = 0 from rfl, Int.zero_mul, show ((0 : Rat).den : Int) = 1 from rfl] at this
            omega
          exact h3 h0
        omega
      have h4 : ((b ^ q.den : Nat) : Int) * 1 ≤ ((b ^ q.den : Nat) : Int) * q.num := Int.mul_le_mul_of_nonneg_left hn (Int.natCast_nonneg _)
      rw [Int.mul_comm q.num]
      show (q.den : Int) * 1 ≤ _
      omega)
    rw [show ((0 : Nat) : Int) - (q.den : Nat) = -(q.den : Int) by omega] at this
    exact this
  obtain ⟨e, h1, h3, h4⟩ := isE_ex (p := 1) h2 (-(m : Int) - 1) q
  refine ⟨(1 : Nat) + e - 1, ?_, ?_⟩
  · rcases h4 with z | z
    · refine Rat.le_trans (pw_mono h2 (by omega)) hm
    · exact z
  · rw [show ((1 : Nat) : Int) + e - 1 + 1 = (1 : Nat) + e by omega]; exact h3
end Lw
namespace Lw
open PySem PySem.Spec PyProof.Rows L2 Gd Fr
theorem in2 (way : Str) : (["even", "away"] : List Str).any (fun s => decide (s = way)) = decide (way = "even" ∨ way = "away") := by
  show (decide (("even" : Str) = way) || (decide (("away" : Str) = way) || false)) = _
  rw [Bool.or_false, Bool.decide_or]
  congr 1 <;> exact decide_eq_decide.mpr ⟨Eq.symm, Eq.symm⟩
theorem isInf_or (way : Str) (s : Int) : ((["even", "away"] : List Str).any (fun s => decide (s = way)) || ((decide (way = "up") && decide (s = 0)) || (decide (way = "down") && decide (s = 1)))) = isInf way s := by
  rw [in2]; unfold isInf; rw [Bool.or_assoc]
end Lw
namespace Lw
open PySem PySem.Spec PyProof.Rows L2 Gd Fr
theorem num_of {v : Va} (h1 : v.isNan = false) (h2 : v.isInf = false) : ∃ s c e, v = .num s c e := by
  cases v with
  | nan => cases h1
  | inf s => cases h2
  | num s c e => exact ⟨s, c, e, rfl⟩
end Lw
namespace Lw
open PySem PySem.Spec PyProof.Rows L2 Gd Fr
theorem nice_word {x : Str} (h : (x.cps.all fun c => c < 0x110000) = true) : nice (.str x) = true := by
  simp only [nice]; exact h
end Lw
set_option exponentiation.threshold 20000
namespace Lw
open PySem PySem.Spec PyProof.Rows L2 Gd Fr
open scoped Rat
theorem shaped_fq (x : Rat) : SeqAt.shaped (fq x) = true := shaped_ii _ _
theorem eqv_fq (x y : Rat) : PyData.eqv (fq x) (fq y) = decide (x = y) := by
  unfold fq
  rw [eqv_ii]
  by_cases h : x = y
  · subst h; simp
  · rw [decide_eq_false h, Bool.and_eq_false_iff]
    by_cases h1 : x.num = y.num
    · refine .inr (decide_eq_false fun h3 => h ?_)
      exact Rat.ext h1 (by omega)
    · exact .inl (decide_eq_false h1)
abbrev F4 := Nat × Nat × Int × Int
def F4.d (t : F4) : PyData := fmP t.1 t.2.1 t.2.2.1 t.2.2.2
def F4.ok (t : F4) : Prop := Fm t.1 t.2.1 t.2.2.1 t.2.2.2
def fmB (t : F4) : Bool :=
  decide (2 ≤ t.1) && decide (t.1 < 2 ^ 6) && decide (2 ≤ t.2.1) && decide (t.2.1 ≤ 120) && decide (-1200 ≤ t.2.2.1) && decide (t.2.2.1 ≤ t.2.2.2) && decide (t.2.2.2 ≤ 1200) &&
    decide (t.1 ^ t.2.1 < 2 ^ 700) && decide (t.1 ^ (-t.2.2.1).toNat < 2 ^ 2340) && decide (t.1 ^ t.2.2.2.toNat < 2 ^ 2340)
theorem fm_of {t : F4} (h : fmB t = true) : t.ok := by
  unfold fmB at h
  simp only [Bool.and_eq_true, decide_eq_true_eq] at h
  obtain ⟨⟨⟨⟨⟨⟨⟨⟨⟨a1, a2⟩, a3⟩, a4⟩, a5⟩, a6⟩, a7⟩, a8⟩, a9⟩, a10⟩ := h
  exact ⟨a1, a2, a3, a4, a5, a6, a7, a8, a9, a10⟩
def pickF (ts : List F4) (B : Bag) : F4 := ts.getD (tkV B ts.length).toNat (2, 2, 0, 0)
theorem pick_fm (ts : List F4) (B : Bag) (h : 0 < ts.length) : pick (ts.map F4.d) B = (pickF ts B).d := by
  have h0 := tkV_ge B (m := ts.length) (by omega)
  have h1 := tkV_lt B (m := ts.length) (by omega)
  have hlt : (tkV B ts.length).toNat < ts.length := by omega
  unfold pick pickF
  rw [List.length_map, List.getD_eq_getElem?_getD, List.getD_eq_getElem?_getD, List.getElem?_map, List.getElem?_eq_getElem hlt]; rfl
theorem pickF_ok (ts : List F4) (B : Bag) (h : 0 < ts.length) (hok : ts.all fmB = true) : (pickF ts B).ok := by
  have h0 := tkV_ge B (m := ts.length) (by omega)
  have h1 := tkV_lt B (m := ts.length) (by omega)
  have hlt : (tkV B ts.length).toNat < ts.length := by omega
  unfold pickF
  rw [List.getD_eq_getElem?_getD, List.getElem?_eq_getElem hlt]
  exact fm_of (List.all_eq_true.mp hok _ (List.getElem_mem hlt))
def smallF : List F4 := [(2, 2, 0, 0), (2, 2, -3, 2), (2, 3, -4, 3), (4, 2, -2, 1), (10, 2, -2, 1), (6, 2, -1, 2), (2, 4, -2, 2)] ++ [(4, 2, 1, 3), (2, 3, 2, 5), (10, 2, -6, -5)]
theorem small_ok : smallF.all fmB = true := by decide +kernel
inductive R_fmt (f : Bag → F4) (g : Bag → Bag) : Rel
  | mk (B : Bag) (hc : Bok B) : R_fmt f g [.bag] B (f B).d (g B)
def smallV (B : Bag) : F4 := pickF smallF B
def smallB (B : Bag) : Bag := tkB B 10
theorem smallV_ok (B : Bag) : (smallV B).ok := pickF_ok _ _ (by decide) small_ok
theorem smallB_ok {B : Bag} (h : Bok B) : Bok (smallB B) := tkB_ok h _
structure Pows (b p : Nat) : Prop where
  l2 : 2 ≤ b ^ (p - 1)
  eq : b ^ p = b ^ (p - 1) * b
  ge : b ^ (p - 1) * 2 ≤ b ^ p
theorem Fm.pows {b p : Nat} {low high : Int} (F : Fm b p low high) : Pows b p := by
  have h2 := F.b2; have hp := F.p2
  have e1 : b ^ p = b ^ (p - 1) * b := by rw [← Nat.pow_succ]; congr 1; omega
  refine ⟨?_, e1, by rw [e1]; exact Nat.mul_le_mul_left _ h2⟩
  have h1 : b ^ 1 ≤ b ^ (p - 1) := Nat.pow_le_pow_right (by omega) (by omega)
  rw [Nat.pow_one] at h1; omega
def Va.c : Va → Int
  | .num _ c _ => c
  | _ => 0
def Va.e : Va → Int
  | .num _ _ e => e
  | _ => 0
section
variable (b p : Nat) (low high : Int)
def lead : Int := (b ^ (p - 1) : Nat)
def full : Int := (b ^ p : Nat)
end
section
variable {b p : Nat} {low high : Int} (F : Fm b p low high)
include F
theorem lf : 2 ≤ lead b p ∧ lead b p * 2 ≤ full b p ∧ lead b p * (b - 1) = full b p - lead b p := by
  have P := F.pows; have l2 := P.l2; have ge := P.ge
  unfold lead full
  refine ⟨by omega, by omega, ?_⟩
  rw [P.eq, Int.mul_sub, Int.mul_one, Int.natCast_mul]
end
end Lw
set_option exponentiation.threshold 20000
namespace Lw
open PySem PySem.Spec PyProof.Rows L2 Gd Fr
open scoped Rat
theorem two_words {u v : Str} (huv : u ≠ v) (hgt : sortedS [v, u] = false) {xs ns : List Str} (hx : ∀ k, k ∈ xs ↔ k = u ∨ k = v) (h1 : ns.Nodup) (h3 : ∀ k, k ∈ ns ↔ k ∈ xs) (h4 : sortedS ns = true) : ns = [u, v] := by
  have hm : ∀ k, k ∈ ns ↔ k = u ∨ k = v := fun k => (h3 k).trans (hx k)
  match ns, h1, hm, h4 with
  | [], _, hm, _ => exact absurd ((hm u).mpr (.inl rfl)) (by simp)
  | [x], _, hm, _ =>
    have a := (hm u).mpr (.inl rfl)
    have c := (hm v).mpr (.inr rfl)
    simp only [List.mem_singleton] at a c
    exact absurd (a.trans c.symm) huv
  | [x, y], h1, hm, h4 =>
    have a := (hm x).mp (by simp)
    have c := (hm y).mp (by simp)
    have hxy : x ≠ y := fun z => by rw [z] at h1; simp at h1
    rcases a with rfl | rfl <;> rcases c with rfl | rfl
    · exact absurd rfl hxy
    · rfl
    · rw [hgt] at h4; cases h4
    · exact absurd rfl hxy
  | x :: y :: z :: r, h1, hm, _ =>
    have a := (hm x).mp (by simp)
    have c := (hm y).mp (by simp)
    have d := (hm z).mp (by simp)
    simp only [List.nodup_cons, List.mem_cons, not_or] at h1
    obtain ⟨⟨n1, n2, _⟩, ⟨n3, _⟩, _⟩ := h1
    rcases a with rfl | rfl <;> rcases c with rfl | rfl <;> rcases d with rfl | rfl <;> first | exact absurd rfl n1 | exact absurd rfl n2 | exact absurd rfl n3
def flagsL (r c l : Int) : List Str := if r = 0 then [] else if c < l then ["inexact", "tiny"] else ["inexact"]
theorem over_words {r c l : Int} (h : ¬ c < l) : ∀ ns : List Str, ns.Nodup → (∀ k, k ∈ ns ↔ k ∈ flagsL r c l ++ (["inexact", "over"] : List Str)) → sortedS ns = true → ns = (["inexact", "over"] : List Str) := by
  intro ns h1 h3 h4
  refine two_words (u := "inexact") (v := "over") (by decide) (by decide +kernel) (fun k => ?_) h1 h3 h4
  unfold flagsL
  split
  · simp
  · simp
inductive R_grid : Rel
  | mk (b p : Nat) (low high : Int) (q : Rat) (n d : Nat) (B : Bag) (F : Fm b p low high) (h0 : 0 ≤ q) (hq : Qz n d q) (hn : n ≤ 8900) (hd : d ≤ 6500) :
      R_grid [.da (fmP b p low high), .da (fq q)] B (.tuple [.int (cQ b (eQ b p low q) q), .int (eQ b p low q)]) B
inductive R_neigh : Rel
  | mk (b p : Nat) (low high : Int) (q : Rat) (n d : Nat) (B : Bag) (F : Fm b p low high) (h0 : 0 ≤ q) (hq : Qz n d q) (hn : n ≤ 8900) (hd : d ≤ 6500) :
      R_neigh [.da (fmP b p low high), .da (fq q)] B (.tuple [fq (loQ b (eQ b p low q) q), fq (upQ b (eQ b p low q) q), .int (cQ b (eQ b p low q) q), .int (if rQ b (eQ b p low q) q = 0 then cQ b (eQ b p low q) q else cQ b (eQ b p low q) q + 1)]) B
end Lw
namespace Lw
open PySem PySem.Spec PyProof.Rows L2 Gd Fr
open scoped Rat
noncomputable def grQ (b p : Nat) (high : Int) : Rat := ((((b ^ p : Nat) : Int) - 1 : Int) : Rat) * pw b high
inductive R_great : Rel
  | mk (b p : Nat) (low high : Int) (B : Bag) (F : Fm b p low high) : R_great [.da (fmP b p low high)] B (fq (grQ b p high)) B
inductive R_normal : Rel
  | mk (b p : Nat) (low high : Int) (B : Bag) (F : Fm b p low high) : R_normal [.da (fmP b p low high)] B (fq (pw b (low + p - 1))) B
inductive R_nearer : Rel
  | mk (its : Str) (q lo up : Rat) (c : Int) (n d m k : Nat) (B : Bag) (hq : Qz n d q) (hl : Qz m k lo) (hu : Qz m k up) (h1 : n ≤ 9000) (h2 : m ≤ 12000) (h3 : d + k ≤ 8900) :
      R_nearer [.da (.str its), .da (fq q), .da (fq lo), .da (fq up), .da (.int c)] B (fq (nearQ its q lo up c)) B
inductive R_formof : Rel
  | mk (b p : Nat) (low high s C E : Int) (q : Rat) (n d : Nat) (B : Bag) (F : Fm b p low high) (hC : Can b p low C E) (he : q = (C : Rat) * pw b E) (hE : E ≤ high) :
      R_formof [.da (fmP b p low high), .da (.int s), .da (fq q)] B (nm s C E) B
theorem can_e {b p : Nat} (h2 : 2 ≤ b) (hp : 1 ≤ p) {low C E : Int} (h : Can b p low C E) : eQ b p low ((C : Rat) * pw b E) = E ∧ cQ b E ((C : Rat) * pw b E) = C := ⟨eQ_of h2 (can_isE h2 hp h), can_c h2 C E⟩
theorem can_qz {b p : Nat} {low high C E : Int} (F : Fm b p low high) (h : Can b p low C E) (hE : E ≤ high) : Qz 3040 2341 ((C : Rat) * pw b E) ∧ 0 ≤ (C : Rat) * pw b E := by
  obtain ⟨a1, a2, a3, _⟩ := h
  have := F.bp
  have hc : Qz 700 1 (C : Rat) := ⟨by rw [Rat.num_intCast]; unfold Bd; omega, by rw [Rat.den_intCast]; unfold Bd; decide⟩
  refine ⟨hc.mul (F.qz a3 hE), ?_⟩
  have h1 : (0 : Rat) ≤ (C : Rat) := cast_le.mpr a1
  have := Rat.mul_le_mul_of_nonneg_right h1 (Rat.le_of_lt (pw_pos F.b2 E))
  rw [Rat.zero_mul] at this; exact this
theorem great_can {b p : Nat} {low high : Int} (F : Fm b p low high) : Can b p low (((b ^ p : Nat) : Int) - 1) high := by
  have P := F.pows; have l2 := P.l2; have ge := P.ge; have lh := F.lh
  exact ⟨by omega, by omega, lh, .inr (by omega)⟩
end Lw
namespace Lw
open PySem PySem.Spec PyProof.Rows L2 Gd Fr
open scoped Rat
theorem in2' (u v way : Str) : ([u, v] : List Str).any (fun s => decide (s = way)) = decide (way = u ∨ way = v) := by
  show (decide (u = way) || (decide (v = way) || false)) = _
  rw [Bool.or_false, Bool.decide_or]
  congr 1 <;> exact decide_eq_decide.mpr ⟨Eq.symm, Eq.symm⟩
theorem rep_one {n : Nat} (h : n = 0 ∨ n = 1) (x : PyData) : (List.replicate n [x]).flatten = if n = 0 then [] else [x] := by
  rcases h with rfl | rfl <;> rfl
theorem sgn_01 (x : Rat) : sgn x = 0 ∨ sgn x = 1 := by unfold sgn; split <;> simp
end Lw
namespace Lw
open PySem PySem.Spec PyProof.Rows L2 Gd Fr
open scoped Rat
section
variable {b p : Nat} {low high : Int} (F : Fm b p low high)
include F
theorem Fm.pphi {k : Nat} (h : k ≤ p + high.toNat) : b ^ k < 2 ^ 3040 := by
  have h1 := F.bh; have h3 := F.bp
  have h5 : b ^ p * b ^ high.toNat < 2 ^ 700 * 2 ^ 2340 := Nat.mul_lt_mul'' h3 h1
  have h7 : 2 ^ 700 * 2 ^ 2340 = 2 ^ 3040 := by rw [← Nat.pow_add]
  rw [h7, ← Nat.pow_add] at h5
  exact Nat.lt_of_le_of_lt (Nat.pow_le_pow_right (by have := F.b2; omega) h) h5
theorem Fm.nz : Qz 3040 2340 (pw b (low + p - 1)) := by
  have lh := F.lh
  exact pw_bd F.b2 (F.pphi (by omega)) (F.pow_lo (by have := F.p2; omega)) (by decide) (by decide)
theorem Fm.pick_qz {q : Rat} {e : Int} {n d : Nat} (hq : Qz n d q) (h0 : 0 ≤ q) (hE : IsE b p low q e) (o : Bool) : Qz (701 + max n 2340) 2341 ((if o = true then (cQ b e q : Rat) + 1 else (cQ b e q : Rat)) * pw b e) := by
  have hu := F.u_bd hq h0 hE
  have hc0 := c_ge F.b2 h0 e
  have hc1 := c_lt F.b2 hE
  have bp := F.bp
  have hc : Qz 701 1 (if o = true then (cQ b e q : Rat) + 1 else (cQ b e q : Rat)) := by
    split
    · rw [← cast_s]; exact ⟨by rw [Rat.num_intCast]; unfold Bd; omega, by rw [Rat.den_intCast]; unfold Bd; decide⟩
    · exact ⟨by rw [Rat.num_intCast]; unfold Bd; omega, by rw [Rat.den_intCast]; unfold Bd; decide⟩
  exact (hc.mul hu).le (Nat.le_refl _) (by decide)
theorem Fm.lo_qz {q : Rat} {e : Int} {n d : Nat} (hq : Qz n d q) (h0 : 0 ≤ q) (hE : IsE b p low q e) : Qz (701 + max n 2340) 2341 (loQ b e q) := by
  have := F.pick_qz hq h0 hE false
  rw [if_neg (by decide)] at this; exact this
theorem Fm.up_qz {q : Rat} {e : Int} {n d : Nat} (hq : Qz n d q) (h0 : 0 ≤ q) (hE : IsE b p low q e) : Qz (701 + max n 2340) 2341 (upQ b e q) := by
  unfold upQ; split
  · exact F.lo_qz hq h0 hE
  · have := F.pick_qz hq h0 hE true
    rw [if_pos rfl, ← cast_s] at this; exact this
end
theorem its_in {way : Str} {s : Int} (h : way = "up" ∨ way = "down") : itsOf way s = if decide (way = "up") = decide (s = 0) then ("upper" : Str) else ("lower" : Str) := by unfold itsOf; rw [if_pos h]
theorem its_out {way : Str} {s : Int} (h : ¬ (way = "up" ∨ way = "down")) : itsOf way s = way := by unfold itsOf; rw [if_neg h]
end Lw
set_option exponentiation.threshold 20000
namespace Lw
open PySem PySem.Spec PyProof.Rows L2 Gd Fr
open scoped Rat
structure Nd (D W : Nat) (d : PyData) : Prop where
  ni : nice d = true
  dp : d.depth ≤ D
  bk : d.bulk ≤ W
structure NdA (D W : Nat) (ds : List PyData) : Prop where
  ni : niceAll ds = true
  dp : PyData.depthAll ds ≤ D
  bk : PyData.bulkAll ds ≤ W
theorem NdA.nil {D W : Nat} : NdA D W [] := ⟨niceAll_nil, by simp only [PyData.depthAll]; omega, by simp only [PyData.bulkAll]; omega⟩
theorem NdA.cons {D W W' : Nat} {d : PyData} {ds : List PyData} (h : Nd D W d) (r : NdA D W' ds) : NdA D (W + 1 + W') (d :: ds) :=
  ⟨niceAll_cons h.ni r.ni, by have := h.dp; have := r.dp; simp only [PyData.depthAll]; omega, by have := h.bk; have := r.bk; simp only [PyData.bulkAll]; omega⟩
theorem NdA.le {D W D' W' : Nat} {ds : List PyData} (h : NdA D W ds) (e : D ≤ D') (f : W ≤ W') : NdA D' W' ds := ⟨h.ni, Nat.le_trans h.dp e, Nat.le_trans h.bk f⟩
theorem Nd.le {D W D' W' : Nat} {d : PyData} (h : Nd D W d) (e : D ≤ D') (f : W ≤ W') : Nd D' W' d := ⟨h.ni, Nat.le_trans h.dp e, Nat.le_trans h.bk f⟩
theorem Nd.list {D W : Nat} {ds : List PyData} (h : NdA D W ds) : Nd (D + 1) W (.list ds) := ⟨nice_list h.ni, by have := h.dp; simp only [PyData.depth]; omega, by have := h.bk; simp only [PyData.bulk]; omega⟩
theorem Nd.tuple {D W : Nat} {ds : List PyData} (h : NdA D W ds) : Nd (D + 1) W (.tuple ds) := ⟨nice_tuple h.ni, by have := h.dp; simp only [PyData.depth]; omega, by have := h.bk; simp only [PyData.bulk]; omega⟩
theorem Nd.int {n : Nat} {i : Int} (h : Bd n i) (e : n ≤ 1920 := by decide) : Nd 1 0 (.int i) := ⟨nice_int h e, by simp only [PyData.depth]; omega, by simp only [PyData.bulk]; omega⟩
theorem Nd.str {x : Str} (h : (x.cps.all fun c => c < 0x110000) = true) (h2 : x.cps.size ≤ 20) : Nd 1 20 (.str x) := ⟨nice_word h, by simp only [PyData.depth]; omega, by simp only [PyData.bulk]; exact h2⟩
theorem Nd.bool {x : Bool} : Nd 1 0 (.bool x) := ⟨by simp only [nice], by simp only [PyData.depth]; omega, by simp only [PyData.bulk]; omega⟩
theorem Nd.none : Nd 1 0 .none := ⟨by simp only [nice], by simp only [PyData.depth]; omega, by simp only [PyData.bulk]; omega⟩
section
variable {b p : Nat} {low high : Int} (F : Fm b p low high)
include F
theorem nm_nd {s c e : Int} (hs : s = 0 ∨ s = 1) (h0 : 0 ≤ c) (h1 : c < ((b ^ p : Nat) : Int)) (h3 : low ≤ e) (h4 : e ≤ high) : Nd 2 40 (nm s c e) := by
  have lo := F.lo; have hi := F.hi; have bp := F.bp
  exact (Nd.tuple (NdA.cons (Nd.str (by decide +kernel) (by decide +kernel)) (NdA.cons (Nd.int (n := 2) (by unfold Bd; omega)) (NdA.cons (Nd.int (n := 700) (by unfold Bd; omega)) (NdA.cons (Nd.int (n := 12) (by unfold Bd; omega)) (NdA.nil (W := 0))))))).le (Nat.le_refl _) (by decide)
theorem va_nd {v : Va} (h : Vok b p low high v) : Nd 2 40 v.d := by
  cases v with
  | nan => exact (Nd.tuple (NdA.cons (Nd.str (by decide +kernel) (by decide +kernel)) (NdA.nil (W := 0)))).le (Nat.le_refl _) (by decide)
  | inf s =>
    have h : s = 0 ∨ s = 1 := h
    exact (Nd.tuple (NdA.cons (Nd.str (by decide +kernel) (by decide +kernel)) (NdA.cons (Nd.int (n := 2) (by unfold Bd; omega)) (NdA.nil (W := 0))))).le (Nat.le_refl _) (by decide)
  | num s c e => obtain ⟨h1, h3, h4, h5, h6⟩ := h; exact nm_nd F h1 h3 h4 h5 h6
end
def Va.isNum : Va → Bool
  | .num _ _ _ => true
  | _ => false
theorem tag_num (v : Va) : decide (v.tag = "num") = v.isNum := by
  cases v
  · exact decide_eq_false (show ¬ ("nan" : Str) = "num" by decide)
  · exact decide_eq_false (show ¬ ("inf" : Str) = "num" by decide)
  · rfl
section
variable (b p : Nat) (low high : Int)
end
end Lw
set_option exponentiation.threshold 20000
namespace Lw
open PySem PySem.Spec PyProof.Rows L2 Gd Fr
open scoped Rat
def Va.isZ : Va → Bool
  | .num _ c _ => decide (c = 0)
  | _ => false
theorem wQ_ne {b : Nat} (h2 : 2 ≤ b) {s c e : Int} (h : Va.isZ (.num s c e) = false) : Va.wQ b (.num s c e) ≠ 0 := by
  have hc : c ≠ 0 := of_decide_eq_false h
  intro z
  have z : ((if s = 1 then -c else c : Int) : Rat) * pw b e = 0 := z
  rw [← Rat.zero_mul (pw b e), mul_eq_u h2] at z
  have : (if s = 1 then -c else c : Int) = 0 := Rat.intCast_inj.mp (z.trans (by rfl))
  split at this <;> omega
section
variable {b p : Nat} {low high : Int} (F : Fm b p low high)
include F
end
def outV (b p : Nat) (high : Int) (way : Str) (s e c part : Int) : Va :=
  if high < (nb b p (outw way s c part) c e).2 then (if isInf way s = true then .inf s else .num s (((b ^ p : Nat) : Int) - 1) high)
  else .num s (nb b p (outw way s c part) c e).1 (nb b p (outw way s c part) c e).2
def outF (b p : Nat) (high : Int) (way : Str) (s e c part : Int) : List Str :=
  if high < (nb b p (outw way s c part) c e).2 then ["inexact", "over"] else if part = 0 then [] else if c < ((b ^ (p - 1) : Nat) : Int) then ["inexact", "tiny"] else ["inexact"]
theorem outP_eq (b p : Nat) (high : Int) (way : Str) (s e c part : Int) : outP b p high way s e c part = .tuple [(outV b p high way s e c part).d, words (outF b p high way s e c part)] := by
  unfold outP outV outF
  split
  · unfold tooG; split <;> rfl
  · split
    · rfl
    · split <;> rfl
noncomputable def rdV (b p : Nat) (low high : Int) (way : Str) (x : Rat) (s : Int) : Va :=
  outV b p high way (if x = 0 then s else sgn x) (eQ b p low (absQ x)) (cQ b (eQ b p low (absQ x)) (absQ x)) (pt (rQ b (eQ b p low (absQ x)) (absQ x)) (Dq b (eQ b p low (absQ x)) (absQ x)))
noncomputable def rdF (b p : Nat) (low high : Int) (way : Str) (x : Rat) (s : Int) : List Str :=
  outF b p high way (if x = 0 then s else sgn x) (eQ b p low (absQ x)) (cQ b (eQ b p low (absQ x)) (absQ x)) (pt (rQ b (eQ b p low (absQ x)) (absQ x)) (Dq b (eQ b p low (absQ x)) (absQ x)))
theorem rdP_eq (b p : Nat) (low high : Int) (way : Str) (x : Rat) (s : Int) : rdP b p low high way x s = .tuple [(rdV b p low high way x s).d, words (rdF b p low high way x s)] := outP_eq _ _ _ _ _ _ _ _
def pickQ (qs : List Rat) (B : Bag) : Rat := qs.getD (tkV B qs.length).toNat 0
theorem pick_fq (qs : List Rat) (B : Bag) (h : 0 < qs.length) : pick (qs.map fq) B = fq (pickQ qs B) := by
  have h0 := tkV_ge B (m := qs.length) (by omega)
  have h1 := tkV_lt B (m := qs.length) (by omega)
  have hlt : (tkV B qs.length).toNat < qs.length := by omega
  unfold pick pickQ
  rw [List.length_map, List.getD_eq_getElem?_getD, List.getD_eq_getElem?_getD, List.getElem?_map, List.getElem?_eq_getElem hlt]; rfl
theorem pickQ_mem (qs : List Rat) (B : Bag) (h : 0 < qs.length) : pickQ qs B ∈ qs := by
  have h0 := tkV_ge B (m := qs.length) (by omega)
  have h1 := tkV_lt B (m := qs.length) (by omega)
  have hlt : (tkV B qs.length).toNat < qs.length := by omega
  unfold pickQ
  rw [List.getD_eq_getElem?_getD, List.getElem?_eq_getElem hlt]
  exact List.getElem_mem hlt
section
variable (b p : Nat) (low high : Int)
end
section
variable {b p : Nat} {low high : Int} (F : Fm b p low high)
include F
end
end Lw
namespace Lw
open PySem PySem.Spec PyProof.Rows L2 Gd Fr
end Lw
set_option exponentiation.threshold 20000
namespace Lw
open PySem PySem.Spec PyProof.Rows L2 Gd Fr
open scoped Rat
theorem den_le {q : Rat} {m : Int} {N : Nat} (hN : 0 < N) (h : q * (N : Rat) = (m : Rat)) : q.den ≤ N := by
  have hne : ((N : Int) : Rat) ≠ 0 := fun z => by
    have e0 : (N : Int) = 0 := Rat.intCast_inj.mp (z.trans (by rfl))
    omega
  have e : q = m /. (N : Int) := by
    rw [Rat.divInt_eq_div, ← h, ← Rat.intCast_natCast]
    exact (Rat.mul_div_cancel hne).symm
  rw [e, Rat.den_divInt, if_neg (by omega), Int.natAbs_natCast]
  exact Nat.div_le_self _ _
theorem w_int {b p : Nat} {low high : Int} (F : Fm b p low high) {v : Va} (h : Vok b p low high v) : ∃ m : Int, v.wQ b * ((b ^ (-low).toNat : Nat) : Rat) = (m : Rat) := by
  cases v with
  | nan => exact ⟨0, by show (0 : Rat) * _ = _; rw [Rat.zero_mul]; rfl⟩
  | inf s => exact ⟨0, by show (0 : Rat) * _ = _; rw [Rat.zero_mul]; rfl⟩
  | num s c e =>
    obtain ⟨h1, h3, h4, h5, h6⟩ := h
    refine ⟨(if s = 1 then -c else c) * ((b ^ (e + (-low).toNat).toNat : Nat) : Int), ?_⟩
    show ((if s = 1 then -c else c : Int) : Rat) * pw b e * _ = _
    rw [Rat.mul_assoc, ← pw_nat, ← pw_add F.b2, pw_of (by omega), Rat.intCast_mul, Rat.intCast_natCast]
section
variable (b p : Nat) (low high : Int)
end
end Lw
namespace Gd
open PySem PySem.Spec PyProof.Rows L2
section
variable {X : Cx} {i : Nat} {Γ : List VD} {B B1 B2 B' : Bag} {acc ds : List PyData} {e a b c : Expr} {es : List Expr} {d da db : VD} {y : PyData} {pos p p1 p2 p3 pos' : Pos} {rest ss s1 s2 : List Stmt} {E : EnO} {Es : En}
theorem Own.set {K : PySem.W.Frag} {g : Gh} {A0 A1 : Hp} {a : Addr} {σ : L2.St} {H0 H : Hp} (w : Own K i g A0 A1 a B Γ acc σ H0 H) (j : Nat) (hij : j ≠ i) {v : V} (r : Rv K g H0 v d) : Own K i g A0 A1 a B (Γ.set j d) acc (σ.set j (some v)) H0 H :=
  ⟨w.to, w.fr, w.off, w.ev.set j r, by rw [List.getElem?_set_ne hij]; exact w.at', w.no, w.ls, w.on⟩
theorem ow_forL (j : Nat) {x : Str} {px : Pos} (nd : X.N.Nodup) (hc : X.calm = true) (hij : j ≠ i) (P : Nat → List VD → Bag → List PyData → Prop) (hi : EJ X Γ B e (.da (.list ds)) B1) (h0 : P 0 Γ B1 acc)
    (hs : ∀ k y Γ' B' acc', ds[k]? = some y → P k Γ' B' acc' → OwJ X i (Γ'.set j (.da y)) B' acc' s1 { nx := P (k + 1), fx := fun _ _ => False, ct := P (k + 1), rt := E.rt })
    (hd : ∀ Γ' B' acc', P ds.length Γ' B' acc' → OwJ X i Γ' B' acc' rest E) (hN : X.N[j]? = some x := by rfl) (hx : Loc X.env.scope x := by first | exact Or.inl rfl | exact Or.inr rfl)
    (hf : X.fn x = true ∨ X.env.scope.names.lookup x = some .local := by first | exact Or.inl rfl | exact Or.inr rfl)
    (hp : PassesOwn (model X.prog X.w) X.A X.env X.xe := by exact PassesOwn.never) (hq : ∀ x, foldedSetIterable e X.env x = pure x := by intro _; rfl) :
    OwJ X i Γ B acc (.For (.Name x px) e s1 [] pos :: rest) E := fun g σ A0 A1 a H0 H w D G =>
  ⟨_, pss_cons (ps_for hp hc (pi_list (we e)) (pg_name nd hN hx hf) (ws s1) hq) (ws rest), hi g σ H0 H w.ev w.on _ fun v H1 H' t o r => by
    obtain ⟨q, xs, rfl, hxs, rs⟩ := rvL r
    have w1 := w.step t o
    refine ⟨q, rfl, ⟨xs, SqL.of (o.ex _ _ hxs)⟩, ?_⟩
    refine for_list (xs := xs) (fun k σ' H'' => ∃ Γ' B' acc' H2, P k Γ' B' acc' ∧ Same H1 H2 ∧ Own X.K i g A0 A1 a B' Γ' acc' σ' H2 H'') ⟨Γ, B1, acc, H1, h0, Same.refl _, w1⟩ ?_ ?_ ?_
    · rintro k σ' H'' _ ⟨Γ', B', acc', H2, _, sm, w2⟩
      exact SqL.of (w2.on.ex _ _ (sm _ _ hxs))
    · rintro k y σ' H'' hy ⟨Γ', B', acc', H2, hP, sm, w2⟩
      obtain ⟨d, hdi, rd⟩ := rs.get hy
      exact hs k d Γ' B' acc' hdi hP g _ A0 A1 a H2 H'' (w2.set j hij (Rp.mono sm rd)) _ ⟨fun Γ3 B3 acc3 σ3 H3 H3' q w3 m => ⟨Γ3, B3, acc3, H3, q, sm.trans m, w3⟩, fun _ _ _ _ _ q => q.elim, fun r B3 v H3 H3' q t3 o3 rv => G.rt r B3 v H3 H3' q t3 o3 rv,
        fun _ _ _ _ _ _ q => q.elim, fun Γ3 B3 acc3 σ3 H3 H3' q w3 m => ⟨Γ3, B3, acc3, H3, q, sm.trans m, w3⟩, fun _ _ _ _ _ _ q => q.elim⟩
    · rintro σ' H'' ⟨Γ', B', acc', H2, hP, sm, w2⟩
      rw [rs.length] at hP
      exact hd Γ' B' acc' hP g σ' A0 A1 a H2 H'' w2 D (G.on (t.ex.trans sm))⟩
end
end Gd
namespace Gd
open PySem PySem.Spec PyProof.Rows L2
section
variable {X : Cx} {i : Nat} {Γ : List VD} {B B1 B2 B3 : Bag} {e0 e2 e3 : Expr} {d0 d2 d3 : PyData} {pos pl pt2 : Pos} {rest : List Stmt} {Es : En}
end
end Gd
set_option exponentiation.threshold 20000
namespace Lw
open PySem PySem.Spec PyProof.Rows L2 Gd Fr
open scoped Rat
theorem NdA.all {D W : Nat} : ∀ {ds : List PyData}, (∀ d ∈ ds, Nd D W d) → NdA D ((W + 1) * ds.length) ds
  | [], _ => NdA.nil
  | d :: ds, h => by
    have := NdA.cons (h d List.mem_cons_self) (NdA.all fun e he => h e (List.mem_cons_of_mem _ he))
    exact this.le (Nat.le_refl _) (by rw [List.length_cons, Nat.mul_succ]; omega)
theorem _root_.Gd.pgN {X : Cx} {x : Str} {pos : Pos} (i : Nat) (nd : X.N.Nodup) (hi : X.N[i]? = some x := by rfl) (hx : Loc X.env.scope x := by first | exact Or.inl rfl | exact Or.inr rfl)
    (hf : X.fn x = true ∨ X.env.scope.names.lookup x = some .local := by first | exact .inl rfl | exact .inr rfl) : PG X (.Name x pos) (gName i) := pg_name nd hi hx hf
end Lw
namespace Gd
open PySem PySem.Spec PyProof.Rows L2
section
variable {X : Cx} {i : Nat} {Γ : List VD} {B B1 B2 B' : Bag} {acc ds ys : List PyData} {e a b c : Expr} {es : List Expr} {d da db : VD} {y : PyData} {pos p p1 p2 p3 pos' : Pos} {rest ss s1 s2 : List Stmt} {E : EnO} {Es : En}
theorem ow_ext {x : Str} (nd : X.N.Nodup) (h : EJ X Γ B e (.da (.list ys)) B1) (hl : acc.length + ys.length ≤ 1000) (k : OwJ X i Γ B1 (acc ++ ys) rest E) (hi : X.N[i]? = some x := by rfl)
    (hv : Vis X.env.scope x := by first | exact Or.inl rfl | exact Or.inr (Or.inl rfl) | exact Or.inr (Or.inr rfl))
    (h1 : (x == ("__debug__" : Str)) = false := by decide) (h2 : (x == ("__classdict__" : Str)) = false := by decide) (hst : starEach [e] X.env = [(false, eval e X.env)] := by rfl)
    (hbase : attributeBase (.Name x p1) "extend" X.env (eval (.Name x p1) X.env) = eval (.Name x p1) X.env := by rfl)
    (hfew : ((backTo p3 (starEach [e] X.env)).all (fun x => !x.1) && (backToKw p3 (keywordEach [] X.env)).all (fun x => x.1.isSome)
      && decide ([e].length + ([] : List Keyword).length + (if ([] : List Keyword).isEmpty then 0 else 1) < 30)) = true := by rfl)
    (hline : (p2.endLine == p3.line) = true := by rfl)
    (hs : swapsWith (.Call (.Attribute (.Name x p1) "extend" p2) [e] [] p3) none pos.line X.env = pure false := by rfl) :
    OwJ X i Γ B acc (.Expr (.Call (.Attribute (.Name x p1) "extend" p2) [e] [] p3) pos :: rest) E := fun g σ A0 A1 a H0 H w D G =>
  ⟨_, pss_cons (ps_expr (pe_bm PySem.F.plainAttrs_list PySem.F.slot_list_extend PySem.F.type_list_extend mt_extend (pe_var hi hv h1 h2) (wa [e]) hbase hfew hline hst rfl) hs) (ws rest), by
    obtain ⟨zs, hz, rz⟩ := w.ls
    refine ⟨_, w.at', .inl ⟨rfl, _, SqL.of hz⟩, ?_⟩
    refine (aj_cons (ds := []) h aj_nil hst) g σ H0 H w.ev w.on _ fun vs H1 H' t o rs => ?_
    obtain ⟨v, rfl, rv⟩ := rv1 rs
    have w2 := w.step t o
    obtain ⟨zs2, hz2, rz2⟩ := w2.ls
    obtain ⟨q0, us, rfl, hus, rus⟩ := rvL rv
    refine ⟨a, q0, zs2, us, rfl, rfl, hz2, o.ex _ _ hus, by rw [rz2.length, rus.length]; exact Nat.le_of_lt (small1000 hl), ?_⟩
    refine k g σ A0 A1 a H1 _ ⟨⟨w2.to.ex, fun b u f q1 q2 => ?_⟩, w2.fr, w2.off, w2.ev, w2.at', w2.no, ⟨zs2 ++ us, upd_same, rz2.app rus⟩, ⟨fun b u q => ?_, fun b l q => ?_⟩⟩ D (G.on t.ex)
    · obtain ⟨p, q⟩ := w2.to.un b u f q1 q2
      exact ⟨p, by rw [upd_ne (ne_of_none q2 w2.fr)]; exact q⟩
    · rw [upd_ne (ne_of_none q w2.no)]; exact w2.on.ex b u q
    · obtain ⟨p1, p2, p3⟩ := w2.on.bag b l q
      exact ⟨p1, by rw [upd_ne fun z : b = a => w2.off l (z ▸ q)]; exact p2, p3⟩⟩
def FRJ (X : Cx) (Γ : List VD) (B : Bag) (t : TE) (ds : List PyData) (B' : Bag) : Prop :=
  ∀ g σ H0 H, EnvD X.K g H0 σ Γ → On X.K g B H0 H → ∀ Q : VK,
    (∀ a zs H1 H', To g H0 H H1 H' → On X.K g B' H1 H' → RpAll X.K H1 zs ds → H' a = none → Q (.ref a) (upd H' a (.lst zs))) → t σ H Q
theorem rj_of_frj {t : TE} (h : FRJ X Γ B t ds B1) : RJ X Γ B t (.da (.list ds)) B1 := fun g σ H0 H Ev O Q q =>
  h g σ H0 H Ev O Q fun a zs H1 H' t o r n => by
    obtain ⟨t2, o2⟩ := laid (o := .lst zs) o n
    exact q _ _ _ (t.trans t2) o2 (Rp.lst upd_same (r.mono t2.ex))
theorem lcI_fresh {K : PySem.W.Frag} {g : Gh} {H0 H H1 H' : Hp} {A : Addr} {H2 H'' : Hp} (off : Off g A) (t : To g H0 H H1 H') (I : LcI K g H1 H' A acc B H2 H'') :
    ∃ zs Hx, H'' = upd Hx A (.lst zs) ∧ To g H0 H H2 Hx ∧ On K g B H2 Hx ∧ RpAll K H2 zs acc ∧ Hx A = none := by
  obtain ⟨zs, h1, h2⟩ := I.at'
  have tt := t.trans I.to
  refine ⟨zs, fun b => if b = A then none else H'' b, ?_, ⟨tt.ex, fun q u f e1 e2 => ?_⟩, ⟨fun q u e => ?_, fun q l e => ?_⟩, h2, if_pos rfl⟩
  · funext b
    by_cases hb : b = A
    · subst hb; rw [upd_same]; exact h1
    · rw [upd_ne hb, if_neg hb]
  · obtain ⟨q1, q2⟩ := tt.un q u f e1 e2
    have hq : q ≠ A := fun z => by
      subst z
      obtain ⟨_, q3⟩ := t.un q u f e1 e2
      rw [I.new] at q3; cases q3
    exact ⟨q1, by rw [if_neg hq]; exact q2⟩
  · have hq : q ≠ A := fun z => by rw [z, I.no] at e; cases e
    rw [if_neg hq]; exact I.on.ex _ _ e
  · obtain ⟨q1, q2, q3⟩ := I.on.bag q l e
    have hq : q ≠ A := fun z => off l (by rw [← z]; exact e)
    exact ⟨q1, by rw [if_neg hq]; exact q2, q3⟩
section
variable {elt : Expr} {scope : Scope} {j : Nat} {x : Str} {px : Pos}
theorem frj_R2 {lo hi' : Int} {n : Nat} (Bs : Nat → Bag) (hi : AJ X Γ B [a, b] [.da (.int lo), .da (.int hi')] (Bs 0)) (hn : n ≤ 1000) (he : (hi' - lo).toNat = n) (hlo : Bd 60 lo) (hhi : Bd 60 hi') (hl : ys.length = n)
    (hs : ∀ (i : Nat) z, i < n → ys[i]? = some z → Blk X scope fun Y => EJ Y (Γ.set j (.da (.int (lo + i)))) (Bs i) elt (.da z) (Bs (i + 1))) :
    FRJ X Γ B (tLc (iRng2 (WA X [a, b])) (gName j) tYes (WB X scope elt) [j]) ys (Bs n) := fun g σ H0 H Ev O Q q =>
  hi g σ H0 H Ev O _ fun vs H1 H' t o r => by
    obtain ⟨v, v', rfl, h, h'⟩ := rv2 r
    unfold Bd at hlo hhi
    refine ⟨lo, hi', by rw [rvI h, rvI h'], ⟨by omega, by omega, by omega, by omega⟩, fun A hA => ?_⟩
    obtain ⟨off, I0⟩ := lcI_start o hA
    rw [he]
    refine lc_range (lo := lo) (n := n) (fun i H'' => ∃ H2, LcI X.K g H1 H' A (ys.take i) (Bs i) H2 H'') ⟨_, I0⟩ ?_ ?_
    · rintro i H'' hi ⟨H2, I⟩
      have hi2 : i < ys.length := by omega
      have hyz : ys[i]? = some ys[i] := List.getElem?_eq_getElem hi2
      refine lc_turn off (Ev.mono t.ex) I (Rp.int _) (by rw [List.length_take]; omega) (hs i _ hi hyz) fun H3 H3' J => ⟨H3, ?_⟩
      rw [List.take_add_one, hyz]; exact J
    · rintro H'' ⟨H2, I⟩
      have I' : LcI X.K g H1 H' A (ys.take n) (Bs n) H2 H'' := I
      rw [← hl, List.take_length, hl] at I'
      obtain ⟨zs, Hx, rfl, t3, o3, r3, n3⟩ := lcI_fresh off t I'
      exact q _ _ _ _ t3 o3 r3 n3
theorem ej_lcR2 {pr pe : Pos} (nd : X.N.Nodup) (hc : X.calm = true) (hm : X.mg "range" = none) (ok : BlkOk X.N X.env.scope scope [(x, j)])
    (hg : ∀ (s : Shared) (H : Hp) (C : Addr) (cl : List (Str × Addr)) (fp : List Addr), PG (X.blk s H scope (compEnvC scope cl C X.env) fp) (.Name x px) (gName j))
    (r : RJ X Γ B (tLc (iRng2 (WA X [a, b])) (gName j) tYes (WB X scope elt) [j]) d B1) (hgl : Gl X "range" := by rfl)
    (hq : ∀ x, foldedSetIterable (.Call (.Name "range" pr) [a, b] [] pe) X.env x = pure x := by intro _; rfl) (hst : starEach [a, b] X.env = [(false, eval a X.env), (false, eval b X.env)] := by rfl) (hst2 : starEach [b] X.env = [(false, eval b X.env)] := by rfl) :
    EJ X Γ B (.ListComp elt [⟨.Name x px, .Call (.Name "range" pr) [a, b] [] pe, [], 0⟩] scope pos) d B1 :=
  ej_of (pe_lc (own := [(x, j)]) hc nd (pi_range2 hgl hm (wa [a, b]) hst hst2) ok hg (fun _ _ _ _ _ => pts_nil) (wb scope elt) hq) r
end
end
end Gd
set_option exponentiation.threshold 20000
namespace Lw
open PySem PySem.Spec PyProof.Rows L2 Gd Fr
open scoped Rat
end Lw
set_option exponentiation.threshold 20000
namespace Lw
open PySem PySem.Spec PyProof.Rows L2 Gd Fr
open scoped Rat
theorem gap_mul (x : Rat) (f : Int) : (x - (f : Rat)) * ((x.den : Int) : Rat) = ((x.num - f * (x.den : Int) : Int) : Rat) := by
  have h := num_den x
  rw [Rat.intCast_sub, Rat.intCast_mul, ← h]; grind
theorem denQ_pos (x : Rat) : (0 : Rat) < ((x.den : Int) : Rat) := Rat.intCast_pos.mpr (den_pos x)
theorem fl (x : Rat) : ∃ g : Rat, x = ((x.num / (x.den : Int) : Int) : Rat) + g ∧ 0 ≤ g ∧ g < 1 ∧ x - ((x.num / (x.den : Int) : Int) : Rat) = g := by
  refine ⟨x - ((x.num / (x.den : Int) : Int) : Rat), by grind, ?_, ?_, rfl⟩
  · have h := gap_mul x (x.num / (x.den : Int))
    have h1 := Int.emod_add_mul_ediv x.num (x.den : Int)
    have h2 := Int.emod_nonneg x.num (Int.ne_of_gt (den_pos x))
    have h3 : (0 : Rat) ≤ (x - ((x.num / (x.den : Int) : Int) : Rat)) * ((x.den : Int) : Rat) := by
      rw [h]; exact Rat.intCast_nonneg.mpr (by rw [Int.mul_comm]; omega)
    refine Rat.not_lt.mp fun z => ?_
    have := (Rat.mul_lt_mul_right (denQ_pos x)).mpr z
    rw [Rat.zero_mul] at this
    exact absurd (ltle this h3) Rat.lt_irrefl
  · have h := gap_mul x (x.num / (x.den : Int))
    have h1 := Int.emod_add_mul_ediv x.num (x.den : Int)
    have h2 := Int.emod_lt_of_pos x.num (den_pos x)
    refine (Rat.mul_lt_mul_right (denQ_pos x)).mp ?_
    rw [h, Rat.one_mul]
    exact cast_lt.mpr (by rw [Int.mul_comm]; omega)
end Lw
set_option exponentiation.threshold 20000
namespace Lw
open PySem PySem.Spec PyProof.Rows L2 Gd Fr
open scoped Rat
theorem absQ_neg (x : Rat) : absQ (-x) = absQ x := by unfold absQ; split <;> split <;> grind
theorem absQ_mul_pos (x : Rat) {y : Rat} (h : 0 < y) : absQ (x * y) = absQ x * y := by
  have k := Rat.mul_lt_mul_right (a := x) (b := 0) h
  rw [Rat.zero_mul] at k
  unfold absQ
  by_cases hx : x < 0
  · rw [if_pos hx, if_pos (k.mpr hx)]; grind
  · rw [if_neg hx, if_neg (fun z => hx (k.mp z))]
theorem absQ_cast (k : Int) : absQ (k : Rat) = ((k.natAbs : Int) : Rat) := by
  unfold absQ
  by_cases h : (k : Rat) < 0
  · have : k < 0 := cast_lt.mp (show (k : Rat) < ((0 : Int) : Rat) from h)
    rw [if_pos h, ← Rat.intCast_neg]; congr 1; omega
  · have : ¬ k < 0 := fun z => h (show (k : Rat) < ((0 : Int) : Rat) from cast_lt.mpr z)
    rw [if_neg h]; congr 1; omega
end Lw
set_option exponentiation.threshold 20000
namespace Lw
open PySem PySem.Spec PyProof.Rows L2 Gd Fr
open scoped Rat
theorem absQ_w {b : Nat} (h2 : 2 ≤ b) {s c e : Int} (h0 : 0 ≤ c) : absQ ((Va.num s c e).wQ b) = (c : Rat) * pw b e := by
  show absQ (((if s = 1 then -c else c : Int) : Rat) * pw b e) = _
  rw [absQ_mul_pos _ (pw_pos h2 e), absQ_cast]
  congr 2
  split <;> omega
theorem sgn_eq (x : Rat) : sgn x = if x < 0 then 1 else 0 := by
  unfold sgn
  by_cases h : x < 0
  · rw [if_pos h, if_pos ((num_neg_iff x).mpr h)]
  · rw [if_neg h, if_neg (fun z => h ((num_neg_iff x).mp z))]
theorem wQ_sign {b : Nat} (h2 : 2 ≤ b) {s c e : Int} (hs : s = 0 ∨ s = 1) (h0 : 0 ≤ c) : ((Va.num s c e).wQ b < 0 → s = 1) ∧ (0 < (Va.num s c e).wQ b → s = 0) := by
  have pe := pw_pos h2 e
  have hc : (0 : Rat) ≤ (c : Rat) := Rat.intCast_nonneg.mpr h0
  have hm := Rat.mul_le_mul_of_nonneg_right hc (Rat.le_of_lt pe)
  rw [Rat.zero_mul] at hm
  rcases hs with rfl | rfl
  · have e1 : (Va.num 0 c e).wQ b = (c : Rat) * pw b e := rfl
    rw [e1]
    exact ⟨fun z => absurd (ltle z hm) Rat.lt_irrefl, fun _ => rfl⟩
  · have e1 : (Va.num 1 c e).wQ b = ((-c : Int) : Rat) * pw b e := rfl
    rw [e1, Rat.intCast_neg]
    refine ⟨fun _ => rfl, fun z => ?_⟩
    have : -(c : Rat) * pw b e = -((c : Rat) * pw b e) := by grind
    rw [this] at z
    grind
section
variable (b p : Nat) (low high : Int)
end
theorem fq_mk {q : Rat} {n d : Int} (h1 : q.num = n) (h2 : (q.den : Int) = d) : .tuple [.int n, .int d] = fq q := by unfold fq; rw [h1, h2]
end Lw
set_option exponentiation.threshold 20000
namespace Lw
open PySem PySem.Spec PyProof.Rows L2 Gd Fr
open scoped Rat
section
variable (b p : Nat) (low high : Int)
end
section
variable {b p : Nat} {low high : Int} (F : Fm b p low high)
include F
theorem gr_qz : Qz 3040 2341 (grQ b p high) := (can_qz F (great_can F) (Int.le_refl _)).1
end
theorem fq_neg (q : Rat) : fq (-q) = .tuple [.int (-q.num), .int (q.den : Int)] := by unfold fq; rw [Rat.neg_num, Rat.neg_den]
end Lw
namespace Gd
open PySem PySem.Spec PyProof.Rows L2
section
variable {X : Cx} {i : Nat} {Γ : List VD} {B B1 B2 B' : Bag} {acc ds ys : List PyData} {e a b c : Expr} {es : List Expr} {d da db : VD} {y : PyData} {pos p p1 p2 p3 pos' : Pos} {rest ss s1 s2 : List Stmt} {E : EnO} {Es : En}
def isNone : PyData → Bool
  | .none => true
  | _ => false
theorem rv_non {K : PySem.W.Frag} {H : Hp} {v : V} {y : PyData} (h : Rp K H v y) : decide (v = V.non) = isNone y := by
  cases h with
  | non => rfl
  | bl b => rfl
  | int i => rfl
  | str x => rfl
  | lst _ _ => rfl
  | tup _ _ => rfl
theorem tj_isN {j} (ha : EJ X Γ B a (.da y) B1) : TJ X Γ B (.Compare a [.Is] [.Constant .none j pos'] pos) (isNone y) B1 :=
  tj_cmp ha ej_non op_isN (nomark _) fun g v w H0 H O r1 r2 Q q => by
    have r2 : Rp X.K H0 w .none := r2
    cases r2
    refine ⟨rfl, ?_⟩
    rw [rv_non (show Rp X.K H0 v y from r1)]; exact q _ _ To.refl O
theorem tj_notN {j} (ha : EJ X Γ B a (.da y) B1) : TJ X Γ B (.Compare a [.IsNot] [.Constant .none j pos'] pos) (!isNone y) B1 :=
  tj_cmp ha ej_non op_notN (nomark _) fun g v w H0 H O r1 r2 Q q => by
    have r2 : Rp X.K H0 w .none := r2
    cases r2
    refine ⟨rfl, ?_⟩
    rw [rv_non (show Rp X.K H0 v y from r1)]; exact q _ _ To.refl O
theorem call_reprN : CallR X (.builtin "repr") (fun xs H Q => xs = [.non] ∧ Q (.str "None") H) := by
  intro pins s σ H xs us Q I r h
  obtain ⟨rfl, q⟩ := h
  obtain ⟨u, rfl, rfl⟩ := vals1 r
  exact PySem.P.repr_of_none ⟨.str _, H, I.tok _, ⟨_, rfl⟩, q⟩
theorem ej_reprN (hm : X.mg "repr" = none) (ha : EJ X Γ B a (.da .none) B1) (hs : starEach [a] X.env = [(false, eval a X.env)] := by rfl) (hg : Gl X "repr" := by rfl) :
    EJ X Γ B (.Call (.Name "repr" p) [a] [] pos) (.da (.str "None")) B1 :=
  ej_callB call_reprN hm (aj_cons ha aj_nil hs) (fun gh vs H0 H O r Q q => by
    obtain ⟨v, rfl, h⟩ := rv1 r
    have h : Rp X.K H0 v .none := h
    cases h
    exact ⟨rfl, q _ _ _ To.refl O (Rp.str _)⟩) (hg := hg) (he := hs)
end
end Gd
namespace Gd
open PySem PySem.Spec PyProof.Rows L2
mutual
def niceB : PyData → Bool
  | .none => true
  | .bool _ => true
  | .int i => decide (Nat.log2 i.natAbs < 12900)
  | .str x => x.cps.all fun c => c < 0x110000
  | .list xs => niceBAll xs
  | .tuple xs => niceBAll xs
  | .dict _ => false
def niceBAll : List PyData → Bool
  | [] => true
  | x :: xs => niceB x && niceBAll xs
end
theorem big_lt {i : Int} (h : Nat.log2 i.natAbs < 12900) : i.natAbs < 10 ^ 4300 := Nat.lt_of_lt_of_le (lt_of_log2 h) pow_lo
section
variable {prog : Program} {w : World} {A : Around} {E : Value → Shared → Prop} {s : Shared} {h₀ : Heap}
theorem int_call {i : Int} {t : Tok} {Q : Value → Shared → Prop} (nd : s.heap.NoDigits) (hl : i.natAbs < 10 ^ 4300) (h : Q (.str (toString i) s.toks) { s with toks := s.toks + 1 }) : wpAny (model prog w) A (call (.builtin "int.__repr__") [.int i t]) (fun r s₁ => ∃ x u, r = .str x u ∧ Q r s₁) E s := by
  refine wpAny_call_entry F.slot_int_repr (typeIs_int s i t) F.entry_int_repr ?_ (F.args_int_repr_1 _); unfold Builtin.«int.__repr__»
  show wpAny _ _ (Builtin.overDigitLimit? i >>= _) _ _ s
  refine wpAny_bind (overDigitLimit_any nd (fun _ => ?_) fun hge => absurd hl (Nat.not_lt.mpr hge))
  exact wpAny_bind (wpAny_mkStr (wpAny_pure ⟨_, rfl, _, _, rfl, h⟩) (int_text_fits10 hl))
theorem rk_int {i : Int} {t : Tok} (nd : h₀.NoDigits) (hl : i.natAbs < 10 ^ 4300) (d : Nat) : ReprK prog w [] h₀ d (.int i t) (toString i) := by
  intro b hb A g E s Q hg hcl hu hk hQ
  rw [pyReprUnder_leaf (v := .int i t) (by omega) (fun _ e => nomatch e)]; unfold pyRepr
  refine wpAny_bind (wpAny_pyReprObj_slot (by omega) (typeIs_int s i t) F.slot_int_repr.toG (int_call (nd.keeps hk) hl ?_))
  exact wpAny_pure (hQ s.heap _ fun _ _ e => e)
mutual
theorem rk : ∀ {v : Value} {d : PyData} {as : List Addr}, Reads h₀ v d as → niceB d = true → h₀.NoDigits → d.shown.length ≤ sizeLine → ∃ bs, ReadAtMost h₀ d.depth bs ∧ ReprK prog w bs h₀ d.depth v d.shown
  | _, _, _, .none, _, _, _ => ⟨[], (fun _ h => nomatch h), by simp only [PyData.shown]; exact .of_is ReprIs.none _ _ _⟩
  | _, _, _, .bool b, _, _, _ => ⟨[], (fun _ h => nomatch h), by simp only [PyData.shown]; exact .of_is (ReprIs.bool b) _ _ _⟩
  | _, _, _, .int i t, hn, nd, _ => ⟨[], (fun _ h => nomatch h), by
    simp only [niceB, decide_eq_true_eq] at hn
    simp only [PyData.shown]; exact rk_int nd (big_lt hn) _⟩
  | _, _, _, .str x t, _, _, hz => ⟨[], (fun _ h => nomatch h), by
    simp only [PyData.shown] at hz
    simp only [PyData.shown]; exact .of_is (ReprIs.str x t hz) _ _ _⟩
  | _, _, _, .list (a := a) (vs := vs) (xs := xs) h1 h2 h3 h4, hn, nd, hz => by
    simp only [PyData.shown] at hz
    simp only [niceB] at hn
    obtain ⟨bs, hb, hk⟩ := rkAll h4 hn nd (fun t ht => Nat.le_trans (listText_mem_le ht) hz)
    have r : Reads h₀ (.ref a) (.list xs) _ := Reads.list h1 h2 h3 h4
    refine ⟨a :: bs, ReadAtMost.cons r (by simp only [PyData.depth]; omega) hb, ?_⟩
    have na := not_mem_of_deeper r (by simp only [PyData.depth]; omega) hb
    simp only [PyData.depth, PyData.shown]; obtain ⟨l⟩ := vs
    match l, h3, h4, hk with
    | [], h3, h4, hk =>
      cases (show ReadsAll h₀ [] xs _ from h4)
      simp only [PyData.shownAll, listText_nil]; exact ReprK.listEmpty h1 h2 h3
    | x :: l, h3, _, hk => exact ReprK.list h1 h2 h3 na (by simpa using hk.length_eq) fun i y e => hk.item i y (by simpa using e)
  | _, _, _, .tuple (a := a) (xs := xs) h1 h2 h3 h4, hn, nd, hz => by
    simp only [PyData.shown] at hz
    simp only [niceB] at hn
    obtain ⟨bs, hb, hk⟩ := rkAll h4 hn nd (fun t ht => Nat.le_trans (tupleText_mem_le ht) hz)
    have r : Reads h₀ (.ref a) (.tuple xs) _ := Reads.tuple h1 h2 h3 h4
    refine ⟨a :: bs, ReadAtMost.cons r (by simp only [PyData.depth]; omega) hb, ?_⟩
    have na := not_mem_of_deeper r (by simp only [PyData.depth]; omega) hb
    simp only [PyData.depth, PyData.shown]; exact ReprK.tuple h1 h2 h3 na hk
  | _, _, _, .dict _ _ _ _ _, hn, _, _ => by simp only [niceB] at hn; cases hn
theorem rkAll : ∀ {vs : List Value} {ds : List PyData} {as : List Addr}, ReadsAll h₀ vs ds as → niceBAll ds = true → h₀.NoDigits → (∀ t ∈ PyData.shownAll ds, t.length ≤ sizeLine) → ∃ bs, ReadAtMost h₀ (PyData.depthAll ds) bs ∧ ReprAllK prog w bs h₀ (PyData.depthAll ds) vs (PyData.shownAll ds)
  | _, _, _, .nil, _, _, _ => ⟨[], (fun _ h => nomatch h), by simp only [PyData.shownAll]; exact .nil⟩
  | _, _, _, .cons (d := d) (ds := ds) r rs, hn, nd, hz => by
    simp only [niceBAll, Bool.and_eq_true] at hn
    simp only [PyData.shownAll] at hz
    obtain ⟨b1, hb1, k1⟩ := rk r hn.1 nd (hz _ List.mem_cons_self)
    obtain ⟨b2, hb2, k2⟩ := rkAll rs hn.2 nd (fun t ht => hz t (List.mem_cons_of_mem _ ht))
    simp only [PyData.depthAll, PyData.shownAll]
    exact ⟨b1 ++ b2, (hb1.mono (Nat.le_max_left _ _)).append (hb2.mono (Nat.le_max_right _ _)), .cons ((k1.more fun b hb => List.mem_append_left _ hb).level_le (Nat.le_max_left _ _)) (k2.more_le (fun b hb => List.mem_append_right _ hb) (Nat.le_max_right _ _))⟩
end
theorem repr_big {a : Addr} {d : PyData} {as : List Addr} {Q : Value → Shared → Prop} (r : Reads h₀ (.ref a) d as) (hn : niceB d = true) (nd : h₀.NoDigits) (hg : A.guards = some []) (hu : A.units + (d.depth + 1) < cLine) (hk0 : ∀ b o, h₀.get? b = some o → s.heap.get? b = some o)
    (hQ : ∀ h' u tk, (∀ b o, s.heap.get? b = some o → h'.get? b = some o) → Q (.str d.shown u) { s with heap := h', toks := tk }) (hsz : d.shown.length ≤ sizeLine) : wpAny (model prog w) A (call (.builtin "repr") [.ref a]) Q E s := by
  have hu1 : A.in1.units + d.depth < cLine := by show A.units + 1 + d.depth < cLine; omega
  cases r with
  | list h1 h2 h3 h4 =>
    rename_i o vs n xs bs₀
    have hz := hsz
    simp only [PyData.shown] at hz
    simp only [niceB] at hn
    obtain ⟨bs, hb, hk⟩ := rkAll (prog := prog) (w := w) h4 hn nd (fun t ht => Nat.le_trans (listText_mem_le ht) hz)
    have na := not_mem_of_deeper (.list h1 h2 h3 h4) (by simp only [PyData.depth]; omega) hb
    simp only [PyData.depth] at hu1
    simp only [PyData.shown] at hQ
    refine call_repr_slot (by omega) ⟨o, hk0 _ _ h1, h2⟩ F.slot_list_repr.toG ?_
    obtain ⟨l⟩ := vs
    match l, h3, h4, hk with
    | [], h3, h4, hk =>
      cases (show ReadsAll h₀ [] xs _ from h4)
      simp only [PyData.shownAll, listText_nil] at hQ; exact call_list_repr_empty ⟨o, hk0 _ _ h1, h2⟩ (hk0 _ _ h1) h3 ⟨_, _, rfl, hQ s.heap _ _ fun _ _ e => e⟩
    | x :: l, h3, _, hk => exact call_list_reprK h1 h2 h3 na (by simpa using hk.length_eq) (fun i y e => hk.item i y (by simpa using e)) hg (fun b _ => Clear.nil b) hu1 hk0 (fun h' u tk hk => ⟨_, _, rfl, hQ h' u tk hk⟩) hz
  | tuple h1 h2 h3 h4 =>
    rename_i o vs n xs
    have hz := hsz
    simp only [PyData.shown] at hz
    simp only [niceB] at hn
    obtain ⟨bs, hb, hk⟩ := rkAll (prog := prog) (w := w) h4 hn nd (fun t ht => Nat.le_trans (tupleText_mem_le ht) hz)
    have na := not_mem_of_deeper (.tuple h1 h2 h3 h4) (by simp only [PyData.depth]; omega) hb
    simp only [PyData.depth] at hu1
    simp only [PyData.shown] at hQ
    refine call_repr_slot (by omega) ⟨o, hk0 _ _ h1, h2⟩ F.slot_tuple_repr ?_
    exact call_tuple_reprK h1 h2 h3 na hk hg (fun b _ => Clear.nil b) hu1 hk0 (fun h' u tk hk => ⟨_, _, rfl, hQ h' u tk hk⟩) hz
  | dict _ _ _ _ _ => simp only [niceB] at hn; cases hn
end
mutual
theorem niceB_lay : ∀ d : PyData, niceB d = true → d.canLay0 = true ∧ d.leavesShort 4301 = true
  | .none, _ => ⟨by simp only [PyData.canLay0], by simp only [PyData.leavesShort]⟩
  | .bool _, _ => ⟨by simp only [PyData.canLay0], by simp only [PyData.leavesShort]⟩
  | .int i, h => ⟨by simp only [PyData.canLay0], by
    simp only [niceB, decide_eq_true_eq] at h
    simp only [PyData.leavesShort, decide_eq_true_eq, PyData.shown_int]; rw [PySem.ofString_length]
    exact int_text_length_le10 (k := 4300) (by decide) (big_lt h)⟩
  | .str x, h => by
    simp only [niceB] at h
    refine ⟨by simp only [PyData.canLay0]; exact h, ?_⟩
    simp only [PyData.leavesShort, List.all_eq_true, decide_eq_true_eq]; intro c hc
    have h3 : c < 0x110000 := of_decide_eq_true (Array.all_eq_true'.mp h c (by simpa using hc))
    omega
  | .list xs, h => by simp only [niceB] at h; simp only [PyData.canLay0, PyData.leavesShort]; exact niceB_layA xs h
  | .tuple xs, h => by simp only [niceB] at h; simp only [PyData.canLay0, PyData.leavesShort]; exact niceB_layA xs h
  | .dict _, h => by simp only [niceB] at h; cases h
theorem niceB_layA : ∀ ds : List PyData, niceBAll ds = true → PyData.canLayAll0 ds = true ∧ PyData.leavesShortAll 4301 ds = true
  | [], _ => ⟨by simp only [PyData.canLayAll0], by simp only [PyData.leavesShortAll]⟩
  | x :: xs, h => by
    simp only [niceBAll, Bool.and_eq_true] at h
    have a := niceB_lay x h.1
    have c := niceB_layA xs h.2
    simp only [PyData.canLayAll0, PyData.leavesShortAll, Bool.and_eq_true]; exact ⟨⟨a.1, c.1⟩, a.2, c.2⟩
end
structure OkB (d : PyData) : Prop where
  nice : niceB d = true
  dp : d.depth ≤ 60
  bulk : d.bulk ≤ 2000
theorem OkB.shaped {d : PyData} (h : OkB d) : SeqAt.shaped d = true := by
  unfold SeqAt.shaped
  rw [(niceB_lay d h.nice).1, Bool.true_and, decide_eq_true_eq]; have := h.dp; omega
theorem OkB.len {d : PyData} (h : OkB d) : d.shown.length ≤ sizeLine := by
  have h1 := PyData.shown_le_bulk 4301 (by decide) d (niceB_lay d h.nice).2
  have h2 := h.bulk
  rw [show sizeLine = 16777216 from by decide]; omega
section
variable {X : Cx} {i : Nat} {Γ : List VD} {B B1 B2 B' : Bag} {e a b c : Expr} {es : List Expr} {y : PyData} {pos p : Pos}
theorem call_reprB {k : Nat} (g : Gx k X) (nd : X.base.NoDigits) : CallR X (.builtin "repr") (fun xs H Q => ∃ x d, xs = [x] ∧ Dp X.K H x d ∧ (∃ p, x = .ref p) ∧ OkB d ∧ Q (.str d.shown) H) := by
  intro pins s σ H xs us Q I rr h
  obtain ⟨x, d, rfl, hd, ⟨p, rfl⟩, S, q⟩ := h
  obtain ⟨u, rfl, rx⟩ := vals1 rr
  cases (show u = Value.ref p from rx)
  obtain ⟨as, rd⟩ := Dp.reads I d (.ref p) (.ref p) hd rfl
  have hu := g.rm.un
  refine repr_big rd S.nice (nd.keeps fun b o e => (I.env0.bs b o e).1) g.gd (by have := S.dp; omega) (fun _ _ e => e) (fun h' u tk kp => ?_) S.len
  exact ⟨.str d.shown, H, I.kept (t' := tk) kp, ⟨u, rfl⟩, q⟩
theorem ej_reprB {k : Nat} (g : Gx k X) (nd : X.base.NoDigits) (hm : X.mg "repr" = none) (ha : EJ X Γ B a (.da y) B1) (hb : boxed y = true) (S : OkB y)
    (hs : starEach [a] X.env = [(false, eval a X.env)] := by rfl) (hg : Gl X "repr" := by rfl) : EJ X Γ B (.Call (.Name "repr" p) [a] [] pos) (.da (.str y.shown)) B1 :=
  ej_callB (call_reprB g nd) hm (aj_cons ha aj_nil hs) (fun gh vs H0 H O r Q q => by
    obtain ⟨v, rfl, h⟩ := rv1 r
    have h : Rp X.K H0 v y := h
    refine ⟨v, y, rfl, (h.mono O.ex).dp, ?_, S, q _ _ _ To.refl O (Rp.str _)⟩; cases h with
    | lst _ _ => exact ⟨_, rfl⟩
    | tup _ _ => exact ⟨_, rfl⟩
    | non => cases hb
    | bl _ => cases hb
    | int _ => cases hb
    | str _ => cases hb) (hg := hg) (he := hs)
end
theorem law_callD {P : Program} {w : World} {K : PySem.W.Frag} {mg mb : Str → Option Value} {k : Nat} {fa a : Addr} {fd : FuncData} {x : Str} {sp : Sp} {sx : Shared} {vs : List Value} {ns : List Int}
    (KI : K.In sx.heap) (hn1 : sx.heap.Ns mainGlobals mg) (hb : sx.heap.Ns builtinsNs mb) (hbb : ∀ x : Str, x ≠ "__name__" → mb x = bootBuiltins x) (hl0 : sx.heap.NoLimit) (hd0 : sx.heap.NoDigits) (hg : sx.gens = #[])
    (ha : sx.heap.get? a = some { cls := .type "list", data := .seq vs.toArray }) (hi : IntsAre vs ns) (hl : ns.length ≤ sizeLine) (hr : Room k callerA)
    (F : ∀ base : Heap, K.In base → base.Ns mainGlobals mg → base.NoDigits → FnG P w K mg base k fa fd [x] sp) (hbind : ∀ (s : Shared) (u : Value), BindsTo s fd ⟨[u], []⟩ [(x, u)])
    (hsp : ∀ H : Hp, SqL K H a (ns.map V.int) → sp [.ref a] H (fun v _ => v = .bl true) fun _ _ _ => False) :
    codeAny (model P w) callerA (.call (.ref fa) ⟨[.ref a], []⟩) (fun r s' => r = Except.ok (.ret (.bool true)) ∧ OldK sx.heap s'.heap ∧ s'.os = sx.os ∧ AllBare s'.gens) sx := by
  have rv := vals_ints hi
  have lenV := hi.length
  have main : ∀ H : Hp, Only H → SqL K H a (ns.map V.int) → HOk P w H sx.heap → (∀ b, H b ≠ none → b = a) → (H a ≠ none → K.lookup a = none) →
      codeAny (model P w) callerA (.call (.ref fa) ⟨[.ref a], []⟩) (fun r s' => r = Except.ok (.ret (.bool true)) ∧ OldK sx.heap s'.heap ∧ s'.os = sx.os ∧ AllBare s'.gens) sx := by
    intro H hO hS hok hA hK
    have free : ∀ b, (∃ o, sx.heap.get? b = some o ∧ ∃ es ep, o.data = .dict es ep) → H b = none := by
      rintro b ⟨o, e, es, ep, d⟩
      cases q : H b with
      | none => rfl
      | some u =>
        have eb : b = a := hA b (by simp [q])
        rw [eb, ha] at e
        cases e
        have dd : Data.seq vs.toArray _ = Data.dict es ep := d
        cases dd
    have nsK : ∀ {b : Addr} {m : Str → Option Value}, sx.heap.Ns b m → (hidT sx.heap H).Ns b m := by
      rintro b m ⟨o, es, ep, e, dd, r⟩
      exact ⟨o, es, ep, hidT_get e (free b ⟨o, e, es, ep, dd⟩), dd, r⟩
    have hKb : K.In (hidT sx.heap H) := by
      intro b o e
      refine hidT_get (KI b o e) ?_
      cases q : H b with
      | none => rfl
      | some u =>
        have eb : b = a := hA b (by simp [q])
        rw [eb, hK (by rw [← eb]; simp [q])] at e
        cases e
    obtain ⟨mc, l1, l2⟩ := hl0
    have hM : Mod K mg (hidT sx.heap H) := ⟨hKb, nsK hn1, ⟨mb, nsK hb, hbb⟩, mc, nsK l1, l2⟩
    have hD : (hidT sx.heap H).NoDigits := let ⟨mc2, d1, d2⟩ := hd0; ⟨mc2, nsK d1, d2⟩
    have e0 : Env0 P w K mg (hidT sx.heap H) callerA [] sx H :=
      ⟨rfl, hM, fun b o e => of_hidT e, Nat.le_of_eq (hidT_size _ _), trivial, fun b z => absurd (show b ∈ ([] : List Addr) from z) (by simp), hok, .of_eq hg⟩
    have cc := (F _ hKb (nsK hn1) hD).run callerA [] sx H ⟨[.ref a], []⟩ [.ref a] [.ref a] _ _ rfl hr e0 (hbind sx (.ref a)) (.cons rfl .nil) (hsp H hS)
    refine codeAny_mono cc fun res s2 h => ?_
    match res, h with
    | .error _, h => exact h.elim
    | .ok .next, h => exact h.elim
    | .ok .brk, h => exact h.elim
    | .ok .cont, h => exact h.elim
    | .ok (.ret u), ⟨v, H', os, bare, un, hok', r', q⟩ =>
      have q' : v = .bl true := q
      subst q'
      obtain rfl : u = .bool true := r'
      refine ⟨rfl, .of_keep fun b o e => ?_, os, bare⟩
      cases q : H b with
      | none => exact un.keep b o e q (fun z => absurd (show b ∈ ([] : List Addr) from z) (by simp)) (by simp)
      | some u =>
        cases hO b with
        | inl z => rw [q] at z; cases z
        | inr z =>
          obtain ⟨ob, xs, z⟩ := z
          obtain ⟨e1, _⟩ := hok b _ z
          obtain ⟨e2, _⟩ := hok' b _ (un.frzs b ob _ z)
          rw [e] at e1; cases e1; exact e2
  cases hk : K.lookup a with
  | some o =>
    have e := KI a o hk
    rw [ha] at e
    cases e
    refine main (fun _ => none) (fun _ => .inl rfl) (.inr ⟨_, vs.toArray, _, hk, rfl, rfl, rfl, by rw [List.size_toArray, lenV]; exact hl, by simpa using rv⟩) ?_ (fun b z => absurd rfl z) fun z => absurd rfl z
    intro b u z
    have z' : (none : Option HO) = some u := z
    cases z'
  | none =>
    have at1 : ∀ b, b ≠ a → (if b = a then some (HO.frz { cls := .type "list", data := .seq vs.toArray } (.lst (ns.map V.int))) else none) = none := fun b h => if_neg h
    refine main (fun b => if b = a then some (.frz { cls := .type "list", data := .seq vs.toArray } (.lst (ns.map V.int))) else none) (fun b => ?_) (.inl (.inr ⟨_, if_pos rfl⟩)) (fun b u z => ?_) (fun b z => ?_) fun _ => hk
    · by_cases hb : b = a
      · exact Or.inr ⟨_, _, if_pos hb⟩
      · exact .inl (if_neg hb)
    · by_cases hb : b = a
      · have zz := (if_pos hb).symm.trans z
        cases zz
        subst hb
        exact ⟨ha, by simpa using hl, vs, _, rv, ha⟩
      · have z' := (at1 b hb).symm.trans z
        cases z'
    · by_cases hb : b = a
      · exact hb
      · exact absurd (at1 b hb) z
theorem law_mkD {P : Program} {w : World} {K : PySem.W.Frag} {h : Heap} {mg : Str → Option Value} {st : Stmt} {fa f : Addr} {oc : Value} {od an : Option Addr} {osl : Array (Option Value)} {kV doc pm cdv ct : Value} {n : Nat}
    (X : K.In h) (G : h.Ns mainGlobals mg) (hfa : mg "law" = some (.ref fa)) (a : PySem.W.nsIn K mainGlobals "law" = some (some (.ref f)))
    (l : K.lookup f = some ⟨oc, od, .func (PySem.W.fnOf "law" "law" (defArgs st) (defBody st) (defScope st) .none kV doc pm an cdv ct), osl⟩) (c : PySem.W.codeIn K cdv "law" = true) (k : PySem.W.keepIn K (.ref f) = true)
    (b : ∀ (s : Shared) (v : Value), BindsTo s (PySem.W.fnOf "law" "law" (defArgs st) (defBody st) (defScope st) .none kV doc pm an cdv ct) ⟨[v], []⟩ [("_law_script", v)])
    (H : ∀ (base : Heap) (f : Addr) (fd : FuncData), base.NoDigits → Fun K "law" "law" st f fd → FnG P w K mg base n f fd ["_law_script"] (spLaw K)) :
    ∃ fd : FuncData, (∀ (s : Shared) (v : Value), BindsTo s fd ⟨[v], []⟩ [("_law_script", v)]) ∧ ∀ base : Heap, K.In base → base.Ns mainGlobals mg → base.NoDigits → FnG P w K mg base n fa fd ["_law_script"] (spLaw K) := by
  have e := hfa.symm.trans (PySem.W.mg_of X G a)
  cases e
  exact ⟨_, b, fun base _ _ nd => H base _ _ nd (fun_mk l c k)⟩
end Gd
set_option exponentiation.threshold 20000
namespace Lw
open PySem PySem.Spec PyProof.Rows L2 Gd Fr
open scoped Rat
mutual
theorem niceB_of : ∀ d : PyData, nice d = true → niceB d = true
  | .none, _ => by simp only [niceB]
  | .bool _, _ => by simp only [niceB]
  | .int i, h => by
    simp only [nice, decide_eq_true_eq] at h
    simp only [niceB, decide_eq_true_eq]
    omega
  | .str _, h => by simp only [nice] at h; simp only [niceB]; exact h
  | .list xs, h => by simp only [nice] at h; simp only [niceB]; exact niceB_ofA xs h
  | .tuple xs, h => by simp only [nice] at h; simp only [niceB]; exact niceB_ofA xs h
  | .dict _, h => by simp only [nice] at h; cases h
theorem niceB_ofA : ∀ ds : List PyData, niceAll ds = true → niceBAll ds = true
  | [], _ => by simp only [niceBAll]
  | x :: xs, h => by
    simp only [niceAll, Bool.and_eq_true] at h
    simp only [niceBAll, Bool.and_eq_true]
    exact ⟨niceB_of x h.1, niceB_ofA xs h.2⟩
end
structure NdB (D W : Nat) (d : PyData) : Prop where
  ni : niceB d = true
  dp : d.depth ≤ D
  bk : d.bulk ≤ W
structure NdBA (D W : Nat) (ds : List PyData) : Prop where
  ni : niceBAll ds = true
  dp : PyData.depthAll ds ≤ D
  bk : PyData.bulkAll ds ≤ W
theorem Nd.b {D W : Nat} {d : PyData} (h : Nd D W d) : NdB D W d := ⟨niceB_of d h.ni, h.dp, h.bk⟩
theorem NdBA.nil {D W : Nat} : NdBA D W [] := ⟨by simp only [niceBAll], by simp only [PyData.depthAll]; omega, by simp only [PyData.bulkAll]; omega⟩
theorem NdBA.cons {D W W' : Nat} {d : PyData} {ds : List PyData} (h : NdB D W d) (r : NdBA D W' ds) : NdBA D (W + 1 + W') (d :: ds) :=
  ⟨by simp only [niceBAll, h.ni, r.ni, Bool.and_self], by have := h.dp; have := r.dp; simp only [PyData.depthAll]; omega, by have := h.bk; have := r.bk; simp only [PyData.bulkAll]; omega⟩
theorem NdB.le {D W D' W' : Nat} {d : PyData} (h : NdB D W d) (e : D ≤ D') (f : W ≤ W') : NdB D' W' d := ⟨h.ni, Nat.le_trans h.dp e, Nat.le_trans h.bk f⟩
theorem NdB.list {D W : Nat} {ds : List PyData} (h : NdBA D W ds) : NdB (D + 1) W (.list ds) := ⟨by simp only [niceB]; exact h.ni, by have := h.dp; simp only [PyData.depth]; omega, by have := h.bk; simp only [PyData.bulk]; omega⟩
theorem NdB.tuple {D W : Nat} {ds : List PyData} (h : NdBA D W ds) : NdB (D + 1) W (.tuple ds) := ⟨by simp only [niceB]; exact h.ni, by have := h.dp; simp only [PyData.depth]; omega, by have := h.bk; simp only [PyData.bulk]; omega⟩
theorem NdB.int {n : Nat} {i : Int} (h : Bd n i) (e : n ≤ 12900 := by decide) : NdB 1 0 (.int i) := ⟨by
  simp only [niceB, decide_eq_true_eq]
  by_cases h0 : 0 < n
  · exact Nat.lt_of_lt_of_le (PySem.Flt.log2_lt_of h0 h) e
  · have : n = 0 := by omega
    subst this
    have : i.natAbs = 0 := by unfold Bd at h; omega
    rw [this]; decide, by simp only [PyData.depth]; omega, by simp only [PyData.bulk]; omega⟩
theorem NdB.okb {D W : Nat} {d : PyData} (h : NdB D W d) (e : D ≤ 60 := by decide) (f : W ≤ 2000 := by decide) : OkB d := ⟨h.ni, Nat.le_trans h.dp e, Nat.le_trans h.bk f⟩
theorem unit_split {b : Nat} (h2 : 2 ≤ b) (e : Int) (q : Rat) : q * pw b (-e) = (cQ b e q : Rat) + tQ b e q := by
  conv => lhs; lhs; rw [q_val h2 e q]
  rw [Rat.mul_assoc, ← pw_add h2, show e + -e = 0 by omega, pw_zero, Rat.mul_one]
theorem gr_pos {b p : Nat} {low high : Int} (F : Fm b p low high) : 0 < grQ b p high := by
  have P := F.pows; have l2 := P.l2; have ge := P.ge
  unfold grQ
  exact Rat.mul_pos (Rat.intCast_pos.mpr (by omega)) (pw_pos F.b2 high)
def Vcan (b p : Nat) (low high : Int) : Va → Prop
  | .num s c e => (s = 0 ∨ s = 1) ∧ Can b p low c e ∧ e ≤ high
  | .inf s => s = 0 ∨ s = 1
  | .nan => True
theorem Vcan.ok {b p : Nat} {low high : Int} {v : Va} (h : Vcan b p low high v) : Vok b p low high v := by
  cases v with
  | nan => trivial
  | inf s => exact h
  | num s c e => exact ⟨h.1, h.2.1.1, h.2.1.2.1, h.2.1.2.2.1, h.2.2⟩
theorem Vcan.opp {b p : Nat} {low high : Int} {v : Va} (h : Vcan b p low high v) : Vcan b p low high v.opp := by
  cases v with
  | nan => trivial
  | inf s => show (1 - s = 0 ∨ 1 - s = 1); have h : s = 0 ∨ s = 1 := h; omega
  | num s c e => exact ⟨by have := h.1; omega, h.2⟩
theorem smallV_mem (B : Bag) : smallV B ∈ smallF := by
  have h0 := tkV_ge B (m := smallF.length) (by decide)
  have h1 := tkV_lt B (m := smallF.length) (by decide)
  have hlt : (tkV B smallF.length).toNat < smallF.length := by omega
  unfold smallV pickF
  rw [List.getD_eq_getElem?_getD, List.getElem?_eq_getElem hlt]
  exact List.getElem_mem hlt
end Lw
set_option exponentiation.threshold 20000
namespace Lw
open PySem PySem.Spec PyProof.Rows L2 Gd Fr
open scoped Rat
def ptQ (t : Rat) : Int := if t = 0 then 0 else if t < 1 / 2 then 1 else if t = 1 / 2 then 2 else 3
theorem pt_t {b : Nat} (h2 : 2 ≤ b) (e : Int) (q : Rat) : pt (rQ b e q) (Dq b e q) = ptQ (tQ b e q) := by
  have a0 := t_zero h2 e q
  have a1 := t_lt_iff h2 e q 1 2 (by decide)
  have a2 := t_eq_iff h2 e q 1 2
  rw [show ((2 : Nat) : Rat) = 2 from rfl, show ((1 : Int) : Rat) = 1 from rfl, Int.one_mul, show ((2 : Nat) : Int) = 2 from rfl] at a1 a2
  unfold pt ptQ
  have b1 : tQ b e q < 1 / 2 ↔ 2 * tQ b e q < 1 := by constructor <;> intro h <;> grind
  have b2 : tQ b e q = 1 / 2 ↔ 2 * tQ b e q = 1 := by constructor <;> intro h <;> grind
  by_cases h0 : rQ b e q = 0
  · rw [if_pos h0, if_pos (a0.mpr h0)]
  · rw [if_neg h0, if_neg (fun z => h0 (a0.mp z))]
    by_cases h1 : 2 * rQ b e q < Dq b e q
    · rw [if_pos h1, if_pos (b1.mpr (a1.mpr h1))]
    · rw [if_neg h1, if_neg (fun z => h1 (a1.mp (b1.mp z)))]
      by_cases h3 : 2 * rQ b e q = Dq b e q
      · rw [if_pos h3, if_pos (b2.mpr (a2.mpr h3))]
      · rw [if_neg h3, if_neg (fun z => h3 (a2.mp (b2.mp z)))]
theorem ptQ_mono {t u : Rat} (h0 : 0 ≤ t) (h : t ≤ u) : ptQ t ≤ ptQ u ∧ (0 : Int) ≤ ptQ t ∧ ptQ u ≤ 3 := by
  unfold ptQ
  refine ⟨?_, ?_, ?_⟩
  · by_cases a : t = 0
    · rw [if_pos a]; (repeat' split) <;> decide
    · rw [if_neg a]
      have hu : u ≠ 0 := fun z => a (by grind)
      rw [if_neg hu]
      by_cases c : t < 1 / 2
      · rw [if_pos c]; (repeat' split) <;> decide
      · rw [if_neg c, if_neg (show ¬ u < 1 / 2 by grind)]
        by_cases d : t = 1 / 2
        · rw [if_pos d]; split <;> decide
        · rw [if_neg d, if_neg (show ¬ u = 1 / 2 by grind)]; exact Int.le_refl _
  · (repeat' split) <;> decide
  · (repeat' split) <;> decide
theorem outw_mono {way : Str} (hw : way ∈ wayList) {s c : Int} {k l : Int} (h0 : 0 ≤ k) (h3 : l ≤ 3) (h : k ≤ l) (ho : outw way s c k = true) : outw way s c l = true := by
  have hk : k ≠ 0 := fun z => by rw [z] at ho; unfold outw at ho; rw [if_pos (.inl rfl)] at ho; cases ho
  have hl : l ≠ 0 := by omega
  rcases ways hw with rfl | rfl | rfl | rfl | rfl
  · rw [outw_even hk] at ho
    rw [outw_even hl]
    by_cases a : k = 2
    · rw [if_pos a] at ho
      by_cases d : l = 2
      · rw [if_pos d]; exact ho
      · rw [if_neg d]; exact decide_eq_true (by omega)
    · rw [if_neg a] at ho
      have := of_decide_eq_true ho
      rw [if_neg (by omega)]; exact decide_eq_true (by omega)
  · rw [outw_away hk] at ho
    rw [outw_away hl]
    by_cases a : k = 2
    · by_cases d : l = 2
      · rw [if_pos d]
      · rw [if_neg d]; exact decide_eq_true (by omega)
    · rw [if_neg a] at ho
      have := of_decide_eq_true ho
      rw [if_neg (by omega)]; exact decide_eq_true (by omega)
  · rw [outw_up hk] at ho; rw [outw_up hl]; exact ho
  · rw [outw_down hk] at ho; rw [outw_down hl]; exact ho
  · rw [outw_zero] at ho; cases ho
noncomputable def pkQ (b p : Nat) (low : Int) (way : Str) (s : Int) (q : Rat) : Rat :=
  (if outw way s (cQ b (eQ b p low q) q) (ptQ (tQ b (eQ b p low q) q)) = true then (cQ b (eQ b p low q) q : Rat) + 1 else (cQ b (eQ b p low q) q : Rat)) * pw b (eQ b p low q)
section
variable {b p : Nat} {low high : Int} (F : Fm b p low high)
include F
theorem eQ_mono {q u : Rat} (h : q ≤ u) : eQ b p low q ≤ eQ b p low u := by
  have h2 := F.b2
  have a := eQ_is (p := p) h2 low q
  have c := eQ_is (p := p) h2 low u
  refine Decidable.byContradiction fun z => ?_
  have h1 : pw b (p + eQ b p low q - 1) ≤ q := by
    rcases a.2.2 with y | y
    · have := c.1; omega
    · exact y
  have h3 : pw b (p + eQ b p low u) ≤ pw b (p + eQ b p low q - 1) := pw_mono h2 (by omega)
  exact absurd (ltle c.2.1 (Rat.le_trans h3 (Rat.le_trans h1 h))) Rat.lt_irrefl
theorem pk_bounds {way : Str} {s : Int} {q : Rat} (h0 : 0 ≤ q) : (cQ b (eQ b p low q) q : Rat) * pw b (eQ b p low q) ≤ pkQ b p low way s q ∧ pkQ b p low way s q ≤ ((cQ b (eQ b p low q) q : Rat) + 1) * pw b (eQ b p low q) := by
  have pe := Rat.le_of_lt (pw_pos F.b2 (eQ b p low q))
  unfold pkQ
  split
  · exact ⟨Rat.mul_le_mul_of_nonneg_right (by grind) pe, Rat.le_refl⟩
  · exact ⟨Rat.le_refl, Rat.mul_le_mul_of_nonneg_right (by grind) pe⟩
theorem pk_mono {way : Str} (hw : way ∈ wayList) {s : Int} {q u : Rat} (h0 : 0 ≤ q) (h : q ≤ u) : pkQ b p low way s q ≤ pkQ b p low way s u := by
  have h2 := F.b2
  have hp := F.p2
  have hu0 := Rat.le_trans h0 h
  have m := eQ_mono F h
  have Ec := eQ_is (p := p) h2 low q
  have Eu := eQ_is (p := p) h2 low u
  have Cq := spot_can h2 (by omega) h0 Ec
  have Cu := spot_can h2 (by omega) hu0 Eu
  have bq := pk_bounds F (way := way) (s := s) h0
  have bu := pk_bounds F (way := way) (s := s) hu0
  by_cases hlt : eQ b p low q < eQ b p low u
  · refine Rat.le_trans bq.2 (Rat.le_trans ?_ bu.1)
    have e1 : ((b ^ (p - 1) : Nat) : Int) ≤ cQ b (eQ b p low u) u := by
      rcases Cu.2.2.2 with z | z
      · have := Ec.1; omega
      · exact z
    have a1 : ((cQ b (eQ b p low q) q : Rat) + 1) * pw b (eQ b p low q) ≤ (((b ^ p : Nat) : Int) : Rat) * pw b (eQ b p low q) := by
      rw [← cast_s]
      exact Rat.mul_le_mul_of_nonneg_right (cast_le.mpr (by have := Cq.2.1; omega)) (Rat.le_of_lt (pw_pos h2 _))
    rw [← pw_p h2] at a1
    have a2 : (((b ^ (p - 1) : Nat) : Int) : Rat) * pw b (eQ b p low u) ≤ (cQ b (eQ b p low u) u : Rat) * pw b (eQ b p low u) := Rat.mul_le_mul_of_nonneg_right (cast_le.mpr e1) (Rat.le_of_lt (pw_pos h2 _))
    rw [← pw_p h2] at a2
    exact Rat.le_trans a1 (Rat.le_trans (pw_mono h2 (by omega)) a2)
  · have ee : eQ b p low u = eQ b p low q := by omega
    rw [ee] at bu Cu
    have vq := q_val h2 (eQ b p low q) q
    have vu := q_val h2 (eQ b p low q) u
    have tq0 := t_ge h2 (eQ b p low q) q
    have tq1 := t_lt1 h2 (eQ b p low q) q
    have tu0 := t_ge h2 (eQ b p low q) u
    have tu1 := t_lt1 h2 (eQ b p low q) u
    have hc : (cQ b (eQ b p low q) q : Rat) + tQ b (eQ b p low q) q ≤ (cQ b (eQ b p low q) u : Rat) + tQ b (eQ b p low q) u := by
      refine Rat.not_lt.mp fun z => ?_
      have := (Rat.mul_lt_mul_right (pw_pos h2 (eQ b p low q))).mpr z
      rw [← vq, ← vu] at this
      exact absurd (ltle this h) Rat.lt_irrefl
    have hcc : cQ b (eQ b p low q) q ≤ cQ b (eQ b p low q) u := by
      refine Decidable.byContradiction fun z => ?_
      have : ((cQ b (eQ b p low q) u + 1 : Int) : Rat) ≤ (cQ b (eQ b p low q) q : Rat) := cast_le.mpr (by omega)
      rw [cast_s] at this
      grind
    by_cases hs : cQ b (eQ b p low q) q < cQ b (eQ b p low q) u
    · refine Rat.le_trans bq.2 (Rat.le_trans ?_ bu.1)
      rw [← cast_s]
      exact Rat.mul_le_mul_of_nonneg_right (cast_le.mpr (by omega)) (Rat.le_of_lt (pw_pos h2 _))
    · have hce : cQ b (eQ b p low q) u = cQ b (eQ b p low q) q := by omega
      unfold pkQ
      rw [ee, hce]
      rw [hce] at hc
      have ht : tQ b (eQ b p low q) q ≤ tQ b (eQ b p low q) u := by grind
      have pm := ptQ_mono tq0 ht
      refine Rat.mul_le_mul_of_nonneg_right ?_ (Rat.le_of_lt (pw_pos h2 _))
      by_cases ho : outw way s (cQ b (eQ b p low q) q) (ptQ (tQ b (eQ b p low q) q)) = true
      · rw [if_pos ho, if_pos (outw_mono hw pm.2.1 pm.2.2 pm.1 ho)]; exact Rat.le_refl
      · rw [if_neg ho]
        split
        · grind
        · exact Rat.le_refl
theorem over_pk {way : Str} {s : Int} {q : Rat} (h0 : 0 ≤ q) : high < (nb b p (outw way s (cQ b (eQ b p low q) q) (pt (rQ b (eQ b p low q) q) (Dq b (eQ b p low q) q))) (cQ b (eQ b p low q) q) (eQ b p low q)).2 ↔ grQ b p high < pkQ b p low way s q := by
  have h2 := F.b2
  have Cq := spot_can h2 (by have := F.p2; omega) h0 (eQ_is (p := p) h2 low q)
  have hn := nb_can (o := outw way s (cQ b (eQ b p low q) q) (pt (rQ b (eQ b p low q) q) (Dq b (eQ b p low q) q))) h2 F.p2 Cq
  rw [← over_iff (high := high) h2 F.p2 F.lh hn.1, hn.2]
  unfold pkQ grQ
  rw [pt_t h2]
theorem nb_pk {way : Str} {s : Int} {q : Rat} (h0 : 0 ≤ q) : (((nb b p (outw way s (cQ b (eQ b p low q) q) (pt (rQ b (eQ b p low q) q) (Dq b (eQ b p low q) q))) (cQ b (eQ b p low q) q) (eQ b p low q)).1 : Int) : Rat) * pw b (nb b p (outw way s (cQ b (eQ b p low q) q) (pt (rQ b (eQ b p low q) q) (Dq b (eQ b p low q) q))) (cQ b (eQ b p low q) q) (eQ b p low q)).2 = pkQ b p low way s q := by
  have h2 := F.b2
  have Cq := spot_can h2 (by have := F.p2; omega) h0 (eQ_is (p := p) h2 low q)
  have hn := nb_can (o := outw way s (cQ b (eQ b p low q) q) (pt (rQ b (eQ b p low q) q) (Dq b (eQ b p low q) q))) h2 F.p2 Cq
  rw [hn.2]
  unfold pkQ
  rw [pt_t h2]
end
theorem pk_zero {b p : Nat} {low high : Int} (F : Fm b p low high) (way : Str) (s : Int) : pkQ b p low way s 0 = 0 := by
  have e2 : eQ b p low 0 = low := eQ_of F.b2 (isE_zero F.b2 low)
  unfold pkQ
  rw [e2, (cQ_zero b low).1, (t_zero F.b2 low 0).mpr (cQ_zero b low).2]
  have : outw way s 0 (ptQ 0) = false := by unfold outw ptQ; rw [if_pos rfl, if_pos (.inl rfl)]
  rw [this, if_neg (by decide)]
  exact Rat.zero_mul _
end Lw
namespace Gd
open PySem PySem.Spec PyProof.Rows L2
section
variable {X : Cx} {Γ : List VD} {B B1 B2 : Bag} {e c elt : Expr} {scope : Scope} {acc : List PyData} {pos pos' : Pos} {rest : List Stmt} {E : En} {d : VD}
theorem lcI_step {K : PySem.W.Frag} {g : Gh} {H1 H' : Hp} {A : Addr} {H2 H'' H3 H3' : Hp} (off : Off g A) (I : LcI K g H1 H' A acc B1 H2 H'') (t : To g H2 H'' H3 H3') (o : On K g B2 H3 H3') : LcI K g H1 H' A acc B2 H3 H3' := by
  obtain ⟨zs, h1, h2⟩ := I.at'
  obtain ⟨h3, h4⟩ := t.un A _ off I.no h1
  exact ⟨I.to.trans t, I.new, h3, ⟨zs, h4, h2.mono t.ex⟩, o⟩
end
end Gd
set_option exponentiation.threshold 20000
namespace Lw
open PySem PySem.Spec PyProof.Rows L2 Gd Fr
open scoped Rat
theorem atI_head {α : Type} {xs : List α} {l : α} (h : xs.head? = some l) : atI xs 0 = some l := by
  cases xs with
  | nil => cases h
  | cons a xs =>
    cases h
    unfold atI ixN
    simp only [List.length_cons]
    rw [if_pos (by decide), if_pos (by omega)]
    rfl
noncomputable def unN (b p : Nat) (low : Int) (way : Str) (s : Int) (q : Rat) : Int × Int := nb b p (outw way s (cQ b (eQ b p low q) q) (pt (rQ b (eQ b p low q) q) (Dq b (eQ b p low q) q))) (cQ b (eQ b p low q) q) (eQ b p low q)
section
variable {b p : Nat} {low high : Int} (F : Fm b p low high)
include F
theorem unN_can {way : Str} {s : Int} {q : Rat} (h0 : 0 ≤ q) : Can b p low (unN b p low way s q).1 (unN b p low way s q).2 :=
  (nb_can F.b2 F.p2 (spot_can F.b2 (by have := F.p2; omega) h0 (eQ_is (p := p) F.b2 low q))).1
theorem pk_down {q : Rat} : pkQ b p low "down" 0 q ≤ q := by
  unfold pkQ
  have ho : outw "down" 0 (cQ b (eQ b p low q) q) (ptQ (tQ b (eQ b p low q) q)) = false := by
    by_cases hk : ptQ (tQ b (eQ b p low q) q) = 0
    · unfold outw; rw [if_pos (.inl hk)]
    · rw [outw_down hk]; rfl
  rw [ho, if_neg (by decide)]
  exact c_le F.b2 _ _
theorem pk_up {q : Rat} : q ≤ pkQ b p low "up" 0 q := by
  unfold pkQ
  by_cases ht : tQ b (eQ b p low q) q = 0
  · have hv := q_val F.b2 (eQ b p low q) q
    rw [ht, Rat.add_zero] at hv
    rw [ht, show ptQ 0 = 0 from if_pos rfl]
    have ho : outw "up" 0 (cQ b (eQ b p low q) q) 0 = false := by unfold outw; rw [if_pos (.inl rfl)]
    rw [ho, if_neg (by decide), ← hv]
    exact Rat.le_refl
  · have hk : ptQ (tQ b (eQ b p low q) q) ≠ 0 := by
      unfold ptQ; rw [if_neg ht]; (repeat' split) <;> decide
    rw [outw_up hk, if_pos (by decide)]
    exact Rat.le_of_lt (c_up F.b2 _ _)
end
end Lw
namespace Gd
open PySem PySem.Spec PyProof.Rows L2
section
variable {X : Cx} {Γ : List VD} {B B1 B2 : Bag} {e c elt a b : Expr} {scope : Scope} {acc : List PyData} {pos pos' : Pos} {rest : List Stmt} {E : En} {d : VD}
end
end Gd
set_option exponentiation.threshold 20000
namespace Lw
open PySem PySem.Spec PyProof.Rows L2 Gd Fr
open scoped Rat
section
variable {b p : Nat} {low high : Int} (F : Fm b p low high)
include F
theorem pk_eq {way : Str} {s : Int} {q : Rat} : pkQ b p low way s q = q ↔ rQ b (eQ b p low q) q = 0 := by
  have h2 := F.b2
  have hv := q_val h2 (eQ b p low q) q
  have pe := pw_pos h2 (eQ b p low q)
  have t0 := t_ge h2 (eQ b p low q) q
  have t1 := t_lt1 h2 (eQ b p low q) q
  rw [← t_zero h2]
  unfold pkQ
  generalize cQ b (eQ b p low q) q = c at *
  generalize tQ b (eQ b p low q) q = t at *
  generalize pw b (eQ b p low q) = w at *
  constructor
  · intro h
    refine Decidable.byContradiction fun ht => ?_
    have a1 : (c : Rat) * w < ((c : Rat) + t) * w := (Rat.mul_lt_mul_right pe).mpr (by grind)
    have a2 : ((c : Rat) + t) * w < ((c : Rat) + 1) * w := (Rat.mul_lt_mul_right pe).mpr (by grind)
    rw [← hv] at a1 a2
    split at h
    · rw [h] at a2; exact absurd a2 Rat.lt_irrefl
    · rw [h] at a1; exact absurd a1 Rat.lt_irrefl
  · intro h
    rw [h, show ptQ 0 = 0 from if_pos rfl]
    have ho : outw way s c 0 = false := by unfold outw; rw [if_pos (.inl rfl)]
    rw [ho, if_neg (by decide), hv, h, Rat.add_zero]
theorem over_un {way : Str} {s : Int} {q : Rat} (h0 : 0 ≤ q) : high < (unN b p low way s q).2 ↔ grQ b p high < pkQ b p low way s q := over_pk F h0
end
end Lw
namespace Gd
open PySem PySem.Spec PyProof.Rows L2
section
variable {P : Program} {w : World} {A : Around} {s : Shared} {E : Value → Shared → Prop}
end
section
variable {X : Cx}
end
end Gd
namespace Gd
open PySem PySem.Spec PyProof.Rows L2
section
variable {X : Cx} {Γ : List VD} {B B1 B2 : Bag} {e c elt a b : Expr} {scope : Scope} {acc : List PyData} {pos pos' p p' : Pos} {rest : List Stmt} {E : En} {d : VD}
end
end Gd
set_option exponentiation.threshold 20000
namespace Lw
open PySem PySem.Spec PyProof.Rows L2 Gd Fr
open scoped Rat
end Lw
set_option exponentiation.threshold 20000
namespace Lw
open PySem PySem.Spec PyProof.Rows L2 Gd Fr
open scoped Rat
section
variable {b p : Nat} {low high : Int} (F : Fm b p low high)
include F
theorem rd_self {way : Str} {s c e : Int} (hs : s = 0 ∨ s = 1) (h : Can b p low c e) (he : e ≤ high) : rdV b p low high way ((Va.num s c e).wQ b) s = .num s c e ∧ rdF b p low high way ((Va.num s c e).wQ b) s = [] := by
  have h2 := F.b2; have lh := F.lh
  have aw := absQ_w h2 (s := s) (e := e) h.1
  have ce := can_e h2 (by have := F.p2; omega) h
  have hr : rQ b e ((c : Rat) * pw b e) = 0 := by rw [← lo_eq h2]; unfold loQ; rw [ce.2]
  have hp : pt (rQ b e ((c : Rat) * pw b e)) (Dq b e ((c : Rat) * pw b e)) = 0 := pt_zero.mpr hr
  have hS : (if (Va.num s c e).wQ b = 0 then s else sgn ((Va.num s c e).wQ b)) = s := by
    by_cases hz : (Va.num s c e).wQ b = 0
    · rw [if_pos hz]
    · rw [if_neg hz, sgn_eq]
      have ws := wQ_sign h2 (c := c) (e := e) hs h.1
      by_cases hn : (Va.num s c e).wQ b < 0
      · rw [if_pos hn]; exact (ws.1 hn).symm
      · rw [if_neg hn]; exact (ws.2 (by grind)).symm
  unfold rdV rdF
  rw [hS, aw, ce.1, ce.2, hp]
  have ho : outw way s c 0 = false := by unfold outw; rw [if_pos (.inl rfl)]
  unfold outV outF
  rw [ho]
  have hnb : nb b p false c e = (c, e) := rfl
  rw [hnb, if_neg (show ¬ high < (c, e).2 from by show ¬ high < e; omega), if_neg (show ¬ high < (c, e).2 from by show ¬ high < e; omega), if_pos rfl]
  exact ⟨rfl, rfl⟩
end
end Lw
set_option exponentiation.threshold 20000
namespace Lw
open PySem PySem.Spec PyProof.Rows L2 Gd Fr
open scoped Rat
section
variable {X : Cx} {Γ : List VD} {B B1 B2 : Bag} {a b : Expr} {pos : Pos}
end
end Lw
namespace Gd
open PySem PySem.Spec PyProof.Rows L2
section
variable {P : Program} {w : World} {K : PySem.W.Frag} {mg : Str → Option Value} {base : Heap} {x : Str}
def CalE (P : Program) (w : World) (K : PySem.W.Frag) (mg : Str → Option Value) (base : Heap) (x : Str) (k : Nat) (Pre : List VD → Bag → Prop) (Post : List VD → Bag → PyData → Bag → Prop) : Prop :=
  ∃ R : Rel, Cal P w K mg base x k R ∧ ∀ Γ B, Pre Γ B → ∃ r B', R Γ B r B' ∧ Post Γ B r B'
theorem Cal.e {k : Nat} {R : Rel} (c : Cal P w K mg base x k R) {Pre : List VD → Bag → Prop} {Post : List VD → Bag → PyData → Bag → Prop} (h : ∀ Γ B, Pre Γ B → ∃ r B', R Γ B r B' ∧ Post Γ B r B') : CalE P w K mg base x k Pre Post := ⟨R, c, h⟩
end
section
variable {X : Cx} {Γ : List VD} {B B1 B2 : Bag} {a b c : Expr} {d : VD} {pos : Pos}
theorem ej_ifT (h : TJ X Γ B c true B1) (h1 : EJ X Γ B1 a d B2) : EJ X Γ B (.IfExp c a b pos) d B2 := ej_if h (fun _ => h1) (fun z => Bool.noConfusion z)
theorem ej_ifF (h : TJ X Γ B c false B1) (h1 : EJ X Γ B1 b d B2) : EJ X Γ B (.IfExp c a b pos) d B2 := ej_if h (fun z => Bool.noConfusion z) (fun _ => h1)
end
end Gd
namespace Gd
open PySem PySem.Spec PyProof.Rows L2
section
variable {X : Cx} {i : Nat} {Γ : List VD} {B B1 B2 B' : Bag} {ds : List PyData} {e a b c : Expr} {es : List Expr} {pos p p1 p2 p3 pos' : Pos} {rest ss s1 s2 : List Stmt} {E : En}
end
end Gd
set_option exponentiation.threshold 20000
namespace Lw
open PySem PySem.Spec PyProof.Rows L2 Gd Fr
open scoped Rat
end Lw
namespace Lw
open PySem PySem.Spec PyProof.Rows L2 Gd Fr
end Lw
namespace Gd
open PySem PySem.Spec PyProof.Rows L2
section
variable {X : Cx} {Γ : List VD} {B B1 B2 : Bag} {a b c : Expr} {es : List Expr} {pos p : Pos}
end
end Gd
set_option exponentiation.threshold 20000
namespace Gd
open PySem PySem.Spec PyProof.Rows L2
section
variable {X : Cx} {Γ : List VD} {B B1 B2 : Bag} {c : Expr} {pos : Pos} {rest s1 s2 : List Stmt} {E : En}
theorem sj_ifT (h : TJ X Γ B c true B1) (h1 : SJ X Γ B1 s1 { E with nx := fun Γ' B' => SJ X Γ' B' rest E }) : SJ X Γ B (.If c s1 s2 pos :: rest) E := sj_if h (fun _ => h1) (fun z => Bool.noConfusion z)
theorem sj_ifF (h : TJ X Γ B c false B1) (h1 : SJ X Γ B1 s2 { E with nx := fun Γ' B' => SJ X Γ' B' rest E }) : SJ X Γ B (.If c s1 s2 pos :: rest) E := sj_if h (fun z => Bool.noConfusion z) (fun _ => h1)
end
end Gd
namespace Lw
open PySem PySem.Spec PyProof.Rows L2 Gd Fr
open scoped Rat
theorem rd_exact {b p : Nat} {low high : Int} (F : Fm b p low high) {way : Str} {x : Rat} {s : Int} (h : rdF b p low high way x s = []) : (rdV b p low high way x s).isNum = true ∧ (rdV b p low high way x s).wQ b = x := by
  have h2 := F.b2
  unfold rdF outF at h
  unfold rdV outV
  generalize hS : (if x = 0 then s else sgn x) = S at *
  generalize hE : eQ b p low (absQ x) = e at *
  by_cases hh : high < (nb b p (outw way S (cQ b e (absQ x)) (pt (rQ b e (absQ x)) (Dq b e (absQ x)))) (cQ b e (absQ x)) e).2
  · rw [if_pos hh] at h; cases h
  rw [if_neg hh] at h ⊢
  by_cases hp : pt (rQ b e (absQ x)) (Dq b e (absQ x)) = 0
  · have hr := pt_zero.mp hp
    have hl := (lo_eq h2 e (absQ x)).mpr hr
    unfold loQ at hl
    have ho : outw way S (cQ b e (absQ x)) (pt (rQ b e (absQ x)) (Dq b e (absQ x))) = false := outw_r hr
    rw [ho]
    refine ⟨rfl, ?_⟩
    show ((if S = 1 then -cQ b e (absQ x) else cQ b e (absQ x) : Int) : Rat) * pw b e = x
    by_cases hx : x = 0
    · subst hx
      have : absQ 0 = 0 := by decide +kernel
      rw [this] at hl ⊢
      split
      · rw [Rat.intCast_neg, Rat.neg_mul, hl]; rfl
      · exact hl
    · rw [if_neg hx, sgn_eq] at hS
      unfold absQ at hl ⊢
      by_cases hn : x < 0
      · rw [if_pos hn] at hS hl ⊢
        rw [if_pos hS.symm, Rat.intCast_neg, Rat.neg_mul, hl]; grind
      · rw [if_neg hn] at hS hl ⊢
        rw [if_neg (by omega), hl]
  · rw [if_neg hp] at h
    split at h <;> cases h
end Lw
set_option exponentiation.threshold 20000
namespace Lw
open PySem PySem.Spec PyProof.Rows L2 Gd Fr
open scoped Rat
def fmI (b p : Nat) : Int := ((b : Int) - 1) * ((b ^ (p - 1) : Nat) : Int)
def mostI (b p : Nat) (low high : Int) : Int := ((b ^ p : Nat) : Int) + (high - low) * fmI b p
def rkS (b p : Nat) (low high : Int) : Va → Int
  | .num _ c e => c + (e - low) * fmI b p
  | _ => mostI b p low high
def rkI (b p : Nat) (low high : Int) (v : Va) : Int := if v.sg = 1 then -rkS b p low high v else rkS b p low high v
def atU (b p : Nat) (low high r : Int) : Option Va :=
  let risen := max 0 ((r - ((b ^ (p - 1) : Nat) : Int)) / fmI b p)
  if low + risen ≤ high then some (.num 0 (r - risen * fmI b p) (low + risen))
  else if low + risen = high + 1 ∧ r - risen * fmI b p = ((b ^ (p - 1) : Nat) : Int) then some (.inf 0) else none
def atV (b p : Nat) (low high r : Int) : Option Va := (atU b p low high (absI r)).map fun v => if r < 0 then v.opp else v
def optD : Option Va → PyData
  | none => .none
  | some v => v.d
structure Rkf (b p : Nat) (low high : Int) : Prop where
  l2 : (2 : Int) ≤ ((b ^ (p - 1) : Nat) : Int)
  fl : ((b ^ p : Nat) : Int) = ((b ^ (p - 1) : Nat) : Int) + fmI b p
  f1 : (1 : Int) ≤ fmI b p
  fb : Bd 701 (fmI b p)
  lh : low ≤ high
  lb : ((b ^ (p - 1) : Nat) : Int) ≤ fmI b p
theorem Fm.rkf {b p : Nat} {low high : Int} (F : Fm b p low high) : Rkf b p low high := by
  have P := F.pows; have l2 := P.l2; have eq := P.eq; have b2 := F.b2; have bp := F.bp
  have e : ((b ^ p : Nat) : Int) = ((b ^ (p - 1) : Nat) : Int) * (b : Int) := by rw [eq, Int.natCast_mul]
  have f : fmI b p = ((b ^ (p - 1) : Nat) : Int) * (b : Int) - ((b ^ (p - 1) : Nat) : Int) := by unfold fmI; rw [Int.sub_mul, Int.one_mul, Int.mul_comm]
  have g : ((b ^ (p - 1) : Nat) : Int) * 2 ≤ ((b ^ (p - 1) : Nat) : Int) * (b : Int) := Int.mul_le_mul_of_nonneg_left (by omega) (by omega)
  have bpI : ((b ^ p : Nat) : Int) < 2 ^ 700 := by exact_mod_cast bp
  refine ⟨by omega, by omega, by omega, ?_, F.lh, by omega⟩
  unfold Bd
  have : (fmI b p).natAbs < 2 ^ 700 := by omega
  exact Nat.lt_trans this (by decide)
theorem div_spec (x d : Int) (hd : 0 < d) (k : Int) : x / d = k ↔ k * d ≤ x ∧ x < (k + 1) * d := by
  have h1 := Int.emod_add_mul_ediv x d
  have h2 := Int.emod_nonneg x (Int.ne_of_gt hd)
  have h3 := Int.emod_lt_of_pos x hd
  constructor
  · rintro rfl
    rw [Int.add_mul, Int.one_mul, Int.mul_comm (x / d) d]; omega
  · rintro ⟨h4, h5⟩
    have a : x / d < k + 1 := by
      refine Int.lt_of_not_ge fun z => ?_
      have : (k + 1) * d ≤ x / d * d := Int.mul_le_mul_of_nonneg_right z (by omega)
      rw [Int.mul_comm (x / d) d] at this; omega
    have c : k < x / d + 1 := by
      refine Int.lt_of_not_ge fun z => ?_
      have : (x / d + 1) * d ≤ k * d := Int.mul_le_mul_of_nonneg_right z (by omega)
      rw [Int.add_mul, Int.one_mul, Int.mul_comm (x / d) d] at this; omega
    omega
variable {b p : Nat} {low high : Int} (F : Fm b p low high)
include F
theorem atU_law {r : Int} (h0 : 0 ≤ r) : atU b p low high r = if mostI b p low high ≤ r then (if r = mostI b p low high then some (.inf 0) else none)
    else if r < ((b ^ p : Nat) : Int) then some (.num 0 r low)
    else some (.num 0 (r - (r - ((b ^ (p - 1) : Nat) : Int)) / fmI b p * fmI b p) (low + (r - ((b ^ (p - 1) : Nat) : Int)) / fmI b p)) := by
  have R := F.rkf
  have l2 := R.l2; have fl := R.fl; have f1 := R.f1; have lh := R.lh; have lb := R.lb
  unfold atU mostI
  dsimp only
  generalize ((b ^ (p - 1) : Nat) : Int) = l at *
  generalize ((b ^ p : Nat) : Int) = u at *
  generalize fmI b p = f at *
  have hs := (div_spec (r - l) f (by omega) ((r - l) / f)).mp rfl
  generalize hk : (r - l) / f = k at *
  have hfh : 0 ≤ (high - low) * f := Int.mul_nonneg (by omega) (by omega)
  by_cases hr : r < u
  · have hk1 : k < 1 := by
      refine Int.lt_of_not_ge fun z => ?_
      have : 1 * f ≤ k * f := Int.mul_le_mul_of_nonneg_right z (by omega)
      omega
    rw [show max 0 k = 0 by omega, if_pos (by omega), if_neg (by omega), if_pos hr, Int.zero_mul, Int.sub_zero, Int.add_zero]
  · have hk1 : 1 ≤ k := by
      refine Int.not_lt.mp fun z => ?_
      have : (k + 1) * f ≤ 1 * f := Int.mul_le_mul_of_nonneg_right (by omega) (by omega)
      omega
    rw [show max 0 k = k by omega]
    have hm : (u + (high - low) * f ≤ r) ↔ high - low + 1 ≤ k := by
      constructor
      · intro z
        refine Int.not_lt.mp fun y => ?_
        have : (k + 1) * f ≤ (high - low + 1) * f := Int.mul_le_mul_of_nonneg_right (by omega) (by omega)
        rw [Int.add_mul (high - low), Int.one_mul] at this; omega
      · intro z
        have : (high - low + 1) * f ≤ k * f := Int.mul_le_mul_of_nonneg_right z (by omega)
        rw [Int.add_mul, Int.one_mul] at this; omega
    by_cases hh : low + k ≤ high
    · rw [if_pos hh, if_neg (fun z => by have := hm.mp z; omega), if_neg hr]
    · rw [if_neg hh, if_pos (hm.mpr (by omega))]
      by_cases he : r = u + (high - low) * f
      · have hk2 : k = high - low + 1 := by
          rw [← hk]
          refine (div_spec _ _ (by omega) _).mpr ⟨?_, ?_⟩
          · rw [Int.add_mul, Int.one_mul]; omega
          · rw [Int.add_mul, Int.add_mul, Int.one_mul]; omega
        rw [if_pos he, if_pos]
        refine ⟨by omega, ?_⟩
        rw [hk2, Int.add_mul, Int.one_mul]; omega
      · rw [if_neg he, if_neg]
        rintro ⟨h1, h2⟩
        have hk2 : k = high - low + 1 := by omega
        rw [hk2, Int.add_mul, Int.one_mul] at h2
        omega
theorem rkS_num {s c e : Int} (h : Can b p low c e) (he : e ≤ high) : 0 ≤ rkS b p low high (.num s c e) ∧ rkS b p low high (.num s c e) < mostI b p low high := by
  have R := F.rkf
  have f1 := R.f1; have lh := R.lh
  obtain ⟨h1, h2, h3, _⟩ := h
  have a : 0 ≤ (e - low) * fmI b p := Int.mul_nonneg (by omega) (by omega)
  have c' : (e - low) * fmI b p ≤ (high - low) * fmI b p := Int.mul_le_mul_of_nonneg_right (by omega) (by omega)
  unfold rkS mostI
  dsimp only
  omega
theorem most_pos : 3 ≤ mostI b p low high := by
  have R := F.rkf
  have l2 := R.l2; have fl := R.fl; have f1 := R.f1; have lh := R.lh; have lb := R.lb
  have a : 0 ≤ (high - low) * fmI b p := Int.mul_nonneg (by omega) (by omega)
  unfold mostI; omega
theorem at_num {s c e : Int} (h : Can b p low c e) (he : e ≤ high) : atU b p low high (rkS b p low high (.num s c e)) = some (.num 0 c e) := by
  have R := F.rkf
  have l2 := R.l2; have fl := R.fl; have f1 := R.f1; have lh := R.lh; have lb := R.lb
  have hb := rkS_num F (s := s) h he
  rw [show rkS b p low high (.num s c e) = c + (e - low) * fmI b p from rfl] at hb ⊢
  rw [atU_law F hb.1, if_neg (by omega)]
  obtain ⟨h1, h2, h3, h4⟩ := h
  rcases h4 with rfl | h4
  · rw [Int.sub_self, Int.zero_mul, Int.add_zero, if_pos h2]
  · by_cases h5 : e = low
    · subst h5; rw [Int.sub_self, Int.zero_mul, Int.add_zero, if_pos h2]
    · have a : 1 * fmI b p ≤ (e - low) * fmI b p := Int.mul_le_mul_of_nonneg_right (by omega) (by omega)
      have hk : (c + (e - low) * fmI b p - ((b ^ (p - 1) : Nat) : Int)) / fmI b p = e - low := by
        refine (div_spec _ _ (by omega) _).mpr ⟨by omega, ?_⟩
        rw [Int.add_mul, Int.one_mul]; omega
      rw [if_neg (by omega), hk]
      congr 2
      · omega
      · omega
theorem at_inf : atU b p low high (mostI b p low high) = some (.inf 0) := by
  have := most_pos F
  rw [atU_law F (by omega), if_pos (Int.le_refl _), if_pos rfl]
theorem at_some {r : Int} (h0 : 0 ≤ r) (h : r ≤ mostI b p low high) : ∃ v, atU b p low high r = some v ∧ Vcan b p low high v ∧ v.isNan = false ∧ v.sg = 0 ∧ rkS b p low high v = r := by
  have R := F.rkf
  have l2 := R.l2; have fl := R.fl; have f1 := R.f1; have lh := R.lh; have lb := R.lb
  rw [atU_law F h0]
  by_cases h1 : mostI b p low high ≤ r
  · rw [if_pos h1, if_pos (by omega)]
    exact ⟨_, rfl, .inl rfl, rfl, rfl, by show mostI b p low high = r; omega⟩
  · rw [if_neg h1]
    by_cases h2 : r < ((b ^ p : Nat) : Int)
    · rw [if_pos h2]
      exact ⟨_, rfl, ⟨.inl rfl, ⟨h0, h2, Int.le_refl _, .inl rfl⟩, lh⟩, rfl, rfl, by unfold rkS; dsimp only; rw [Int.sub_self, Int.zero_mul, Int.add_zero]⟩
    · rw [if_neg h2]
      have hs := (div_spec (r - ((b ^ (p - 1) : Nat) : Int)) (fmI b p) (by omega) _).mp rfl
      generalize (r - ((b ^ (p - 1) : Nat) : Int)) / fmI b p = k at *
      have hk1 : 1 ≤ k := by
        refine Int.not_lt.mp fun z => ?_
        have : (k + 1) * fmI b p ≤ 1 * fmI b p := Int.mul_le_mul_of_nonneg_right (by omega) (by omega)
        omega
      have hk2 : k ≤ high - low := by
        refine Int.not_lt.mp fun z => ?_
        have : (high - low + 1) * fmI b p ≤ k * fmI b p := Int.mul_le_mul_of_nonneg_right z (by omega)
        rw [Int.add_mul, Int.one_mul] at this
        unfold mostI at h1; omega
      rw [Int.add_mul, Int.one_mul] at hs
      refine ⟨_, rfl, ⟨.inl rfl, ⟨by omega, by omega, by omega, .inr (by omega)⟩, by omega⟩, rfl, rfl, ?_⟩
      unfold rkS; dsimp only
      rw [show low + k - low = k by omega]; omega
theorem rkS_lt {s c e s' c' e' : Int} (h : Can b p low c e) (h' : Can b p low c' e') : rkS b p low high (.num s c e) < rkS b p low high (.num s' c' e') ↔ (c : Rat) * pw b e < (c' : Rat) * pw b e' := by
  have R := F.rkf
  have b2 := F.b2; have p2 := F.p2
  have l2 := R.l2; have fl := R.fl; have f1 := R.f1; have lh := R.lh; have lb := R.lb
  have key : ∀ {c e c' e' : Int}, Can b p low c e → Can b p low c' e' → e < e' → c + (e - low) * fmI b p < c' + (e' - low) * fmI b p ∧ (c : Rat) * pw b e < (c' : Rat) * pw b e' := by
    intro c e c' e' h h' hlt
    obtain ⟨h1, h2, h3, h4⟩ := h
    obtain ⟨k1, k2, k3, k4⟩ := h'
    have k5 : ((b ^ (p - 1) : Nat) : Int) ≤ c' := by rcases k4 with k4 | k4; omega; exact k4
    constructor
    · have : (e + 1 - low) * fmI b p ≤ (e' - low) * fmI b p := Int.mul_le_mul_of_nonneg_right (by omega) (by omega)
      rw [show e + 1 - low = (e - low) + 1 by omega, Int.add_mul, Int.one_mul] at this
      omega
    · have hp := pw_pos b2 e; have hp' := pw_pos b2 e'
      have a1 : (c : Rat) * pw b e < (((b ^ p : Nat) : Int) : Rat) * pw b e := (mul_lt_u b2 e).mpr (cast_lt.mpr h2)
      have a2 : (((b ^ (p - 1) : Nat) : Int) : Rat) * pw b e' ≤ (c' : Rat) * pw b e' := Rat.not_lt.mp fun z => absurd (cast_lt.mp ((mul_lt_u b2 e').mp z)) (by omega)
      rw [← pw_p b2] at a1 a2
      have a3 : pw b ((p : Int) + e) ≤ pw b (((p - 1 : Nat) : Int) + e') := pw_mono b2 (by omega)
      grind
  unfold rkS
  dsimp only
  by_cases h1 : e < e'
  · have := key h h' h1
    exact ⟨fun _ => this.2, fun _ => this.1⟩
  · by_cases h2 : e' < e
    · have := key h' h h2
      constructor
      · intro z; omega
      · intro z; exact absurd z (Rat.not_lt.mpr (Rat.le_of_lt this.2))
    · have : e = e' := by omega
      subst this
      rw [mul_lt_u b2, cast_lt]
      omega
omit F in
theorem wQ_s (b : Nat) (s c e : Int) : Va.wQ b (.num s c e) = if s = 1 then -((c : Rat) * pw b e) else (c : Rat) * pw b e := by
  show ((if s = 1 then -c else c : Int) : Rat) * pw b e = _
  split
  · rw [Rat.intCast_neg, Rat.neg_mul]
  · rfl
theorem rk_lt {s c e s' c' e' : Int} (hs : s = 0 ∨ s = 1) (hs' : s' = 0 ∨ s' = 1) (h : Can b p low c e) (he : e ≤ high) (h' : Can b p low c' e') (he' : e' ≤ high) :
    rkI b p low high (.num s c e) < rkI b p low high (.num s' c' e') ↔ (Va.num s c e).wQ b < (Va.num s' c' e').wQ b := by
  have b2 := F.b2
  have n1 := (rkS_num F (s := s) h he).1
  have n2 := (rkS_num F (s := s') h' he').1
  have k1 := rkS_lt F (high := high) (s := s) (s' := s') h h'
  have k2 := rkS_lt F (high := high) (s := s') (s' := s) h' h
  have hz : ∀ {s c e : Int}, Can b p low c e → (0 < rkS b p low high (.num s c e) ↔ (0 : Rat) < (c : Rat) * pw b e) := by
    intro s c e h
    have hz0 : Can b p low 0 low := ⟨Int.le_refl _, by have := F.rkf.l2; have := F.rkf.fl; have := F.rkf.f1; omega, Int.le_refl _, .inl rfl⟩
    have := rkS_lt F (high := high) (s := s) (s' := s) hz0 h
    have e0 : rkS b p low high (.num s 0 low) = 0 := by unfold rkS; dsimp only; rw [Int.sub_self, Int.zero_mul]; rfl
    rw [e0] at this
    rw [this, show ((0 : Int) : Rat) = 0 from rfl, Rat.zero_mul]
  have z1 := hz (s := s) h; have z2 := hz (s := s') h'
  have q1 : (0 : Rat) ≤ (c : Rat) * pw b e := Rat.mul_nonneg (by exact_mod_cast h.1) (Rat.le_of_lt (pw_pos b2 e))
  have q2 : (0 : Rat) ≤ (c' : Rat) * pw b e' := Rat.mul_nonneg (by exact_mod_cast h'.1) (Rat.le_of_lt (pw_pos b2 e'))
  rw [wQ_s, wQ_s]
  unfold rkI Va.sg
  dsimp only
  generalize rkS b p low high (.num s c e) = r at *
  generalize rkS b p low high (.num s' c' e') = r' at *
  generalize (c : Rat) * pw b e = x at *
  generalize (c' : Rat) * pw b e' = y at *
  rcases hs with rfl | rfl <;> rcases hs' with rfl | rfl
  · simpa using k1
  · rw [if_neg (by decide), if_pos rfl, if_neg (by decide), if_pos rfl]
    exact ⟨fun z => absurd z (by omega), fun z => by grind⟩
  · rw [if_pos rfl, if_neg (by decide), if_pos rfl, if_neg (by decide)]
    constructor
    · intro z
      by_cases hx : 0 < r
      · have := z1.mp hx; grind
      · have := z2.mp (by omega); grind
    · intro z
      by_cases hx : 0 < r
      · omega
      · have : ¬ 0 < x := fun y => hx (z1.mpr y)
        have := z2.mpr (by grind)
        omega
  · rw [if_pos rfl, if_pos rfl, if_pos rfl, if_pos rfl]
    constructor
    · intro z
      have := k2.mp (by omega); grind
    · intro z
      have := k2.mpr (by grind); omega
end Lw
namespace Gd
open PySem PySem.Spec PyProof.Rows L2
section
variable {X : Cx} {Γ : List VD} {B B1 B2 : Bag} {a b c e : Expr} {pos p pos' : Pos} {rest : List Stmt} {E : En} {elt : Expr} {scope : Scope} {j : Nat} {x : Str} {px : Pos} {d : VD}
theorem call_reprL : CallR X (.builtin "repr") (fun xs H Q => ∃ b, xs = [.bl b] ∧ Q (.str (if b then "True" else "False")) H) := by
  intro pins s σ H xs us Q I r h
  obtain ⟨b, rfl, q⟩ := h
  obtain ⟨u, rfl, rfl⟩ := vals1 r
  exact PySem.P.repr_of_bool ⟨.str _, H, I.tok _, ⟨_, rfl⟩, q⟩
theorem ej_reprL {b : Bool} (hm : X.mg "repr" = none) (ha : EJ X Γ B a (.da (.bool b)) B1) (hs : starEach [a] X.env = [(false, eval a X.env)] := by rfl) (hg : Gl X "repr" := by rfl) :
    EJ X Γ B (.Call (.Name "repr" p) [a] [] pos) (.da (.str (if b then "True" else "False"))) B1 :=
  ej_callB call_reprL hm (aj_cons ha aj_nil hs) (fun gh vs H0 H O r Q q => by
    obtain ⟨v, rfl, h⟩ := rv1 r
    exact ⟨b, by rw [rvB h], q _ _ _ To.refl O (Rp.str _)⟩) (hg := hg) (he := hs)
theorem sj_setLcT (i : Nat) {y : Str} {py : Pos} (nd : X.N.Nodup) (hc : X.calm = true) (ok : BlkOk X.N X.env.scope scope [(x, j)])
    (hg : ∀ (s : Shared) (H : Hp) (C : Addr) (cl : List (Str × Addr)) (fp : List Addr), PG (X.blk s H scope (compEnvC scope cl C X.env) fp) (.Name x px) (gName j))
    (r : RJ X Γ B (tLc (iTup X.K (WE X e)) (gName j) tYes (WB X scope elt) [j]) d B1) (k : SJ X (Γ.set i d) B1 rest E)
    (hsw : swapsWith (.ListComp elt [⟨.Name x px, e, [], 0⟩] scope pos) (some (.Name y py)) pos'.line X.env = pure true) (hy : X.N[i]? = some y := by rfl) (hyl : X.env.scope.names.lookup y = some .local := by rfl)
    (hq : ∀ x, foldedSetIterable e X.env x = pure x := by intro _; rfl) : SJ X Γ B (.Assign [.Name y py] (.ListComp elt [⟨.Name x px, e, [], 0⟩] scope pos) pos' :: rest) E := fun g σ H0 H Ev O D G =>
  ⟨_, pss_cons (ps_setLc (i := i) (own := [(x, j)]) hc nd hy hyl hsw (pi_tup (we e)) ok hg (fun _ _ _ _ _ => pts_nil) (wb scope elt) hq) (ws rest),
    r g σ H0 H Ev O _ fun v H1 H' t o rv => k g _ H1 H' ((Ev.mono t.ex).set i rv) o D (G.on t)⟩
end
end Gd
namespace Gd
open PySem PySem.Spec PyProof.Rows L2
section
variable {X : Cx} {Γ : List VD} {B B1 B2 : Bag} {a b c e : Expr} {pos p pos' : Pos} {rest s1 : List Stmt} {E : En}
end
end Gd
set_option exponentiation.threshold 20000
namespace Lw
open PySem PySem.Spec PyProof.Rows L2 Gd Fr
open scoped Rat
inductive R_formv (ok : Va → Prop) (f : Nat → Nat → Int → Int → Va → PyData) : Rel
  | mk (b p : Nat) (low high : Int) (v : Va) (B : Bag) (F : Fm b p low high) (hv : Vok b p low high v) (hk : ok v) : R_formv ok f [.da (fmP b p low high), .da v.d] B (f b p low high v) B
def noNan (v : Va) : Prop := v.isNan = false
def rkD (b p : Nat) (low high : Int) (v : Va) : PyData := .int (rkI b p low high v)
def plI (v : Va) : Int := if v.isNum = true then 0 else 1 - 2 * v.sg
def cmpI (x y : Int) : Int := (if y < x then 1 else 0) - (if x < y then 1 else 0)
def ordI (b b' : Nat) (x y : Va) : Int := if plI x ≠ 0 ∨ plI y ≠ 0 then cmpI (plI x) (plI y) else cmp (x.wQ b) (y.wQ b')
theorem rk_bd {b p : Nat} {low high : Int} (F : Fm b p low high) {v : Va} (hv : Vok b p low high v) : Bd 720 (rkI b p low high v) := by
  have R := F.rkf
  have lo := F.lo; have hi := F.hi; have bp := F.bp; have lh := F.lh
  have hm : ∀ e : Int, low ≤ e → e ≤ high → Bd 713 ((e - low) * fmI b p) := fun e h1 h2 => (Bd.mul (n := 12) (by unfold Bd; omega) R.fb)
  have hS : Bd 716 (rkS b p low high v) := by
    cases v with
    | num s c e =>
      obtain ⟨h1, h3, h4, h5, h6⟩ := hv
      exact (bd_sum (show Bd 700 c by unfold Bd; omega) (hm e h5 h6) 716 (by decide) (by decide))
    | nan => exact (bd_sum (show Bd 700 _ from Bd.nat bp) (hm high lh (Int.le_refl _)) 716 (by decide) (by decide))
    | inf s => exact (bd_sum (show Bd 700 _ from Bd.nat bp) (hm high lh (Int.le_refl _)) 716 (by decide) (by decide))
  unfold rkI
  split
  · exact hS.neg.le (by decide)
  · exact hS.le (by decide)
noncomputable instance instVa : DecidableEq Va := fun x y => Classical.propDecidable (x = y)
theorem tag_numD (v : Va) : decide (v.tag = "num") = v.isNum := tag_num v
section
variable {b p : Nat} {low high : Int} (F : Fm b p low high)
include F
theorem rkS_zero {s c e : Int} (h : Can b p low c e) (h0 : rkS b p low high (.num s c e) = 0) : c = 0 ∧ e = low := by
  have f1 := F.rkf.f1
  obtain ⟨h1, h2, h3, _⟩ := h
  have e1 : rkS b p low high (.num s c e) = c + (e - low) * fmI b p := rfl
  rw [e1] at h0
  have : 0 ≤ (e - low) * fmI b p := Int.mul_nonneg (by omega) (by omega)
  have h4 : (e - low) * fmI b p = 0 := by omega
  rcases Int.mul_eq_zero.mp h4 with h | h
  · exact ⟨by omega, by omega⟩
  · omega
theorem rk_num_lt {s c e : Int} (h : Can b p low c e) (he : e ≤ high) : -mostI b p low high < rkI b p low high (.num s c e) ∧ rkI b p low high (.num s c e) < mostI b p low high := by
  have := rkS_num F (s := s) h he
  unfold rkI
  split <;> omega
omit F in
theorem rk_i0 : rkI b p low high (.inf 0) = mostI b p low high := rfl
omit F in
theorem rk_i1 : rkI b p low high (.inf 1) = -mostI b p low high := rfl
omit F in
theorem rk_n0 (c e : Int) : rkI b p low high (.num 0 c e) = rkS b p low high (.num 0 c e) := rfl
omit F in
theorem rk_n1 (c e : Int) : rkI b p low high (.num 1 c e) = -rkS b p low high (.num 1 c e) := rfl
theorem at_rank {v : Va} (hv : Vcan b p low high v) (hn : v.isNan = false) : atV b p low high (rkI b p low high v) = some (if rkI b p low high v = 0 then .num 0 0 low else v) := by
  have mp := most_pos F
  unfold atV
  cases v with
  | nan => cases hn
  | inf s =>
    have hs : s = 0 ∨ s = 1 := hv
    rcases hs with rfl | rfl
    · rw [rk_i0]
      have ha : absI (mostI b p low high) = mostI b p low high := by unfold absI; rw [if_neg (by omega)]
      rw [ha, at_inf F]
      show some (if mostI b p low high < 0 then Va.opp (.inf 0) else .inf 0) = _
      rw [if_neg (by omega), if_neg (by omega)]
    · rw [rk_i1]
      have ha : absI (-mostI b p low high) = mostI b p low high := by unfold absI; rw [if_pos (by omega), Int.neg_neg]
      rw [ha, at_inf F]
      show some (if -mostI b p low high < 0 then Va.opp (.inf 0) else .inf 0) = _
      rw [if_pos (by omega), if_neg (by omega)]; rfl
  | num s c e =>
    obtain ⟨hs, hC, he⟩ := hv
    have hr := rkS_num F (s := s) hC he
    rcases hs with rfl | rfl
    · rw [rk_n0]
      have ha : absI (rkS b p low high (.num 0 c e)) = rkS b p low high (.num 0 c e) := by unfold absI; rw [if_neg (by omega)]
      rw [ha, at_num F hC he]
      show some (if rkS b p low high (.num 0 c e) < 0 then Va.opp (.num 0 c e) else .num 0 c e) = _
      rw [if_neg (by omega)]
      by_cases hz : rkS b p low high (.num 0 c e) = 0
      · obtain ⟨rfl, rfl⟩ := rkS_zero F hC hz
        rw [if_pos hz]
      · rw [if_neg hz]
    · rw [rk_n1]
      have ha : absI (-rkS b p low high (.num 1 c e)) = rkS b p low high (.num 1 c e) := by unfold absI; split <;> omega
      rw [ha, at_num F hC he]
      show some (if -rkS b p low high (.num 1 c e) < 0 then Va.opp (.num 0 c e) else .num 0 c e) = _
      by_cases hz : rkS b p low high (.num 1 c e) = 0
      · rw [hz, if_neg (by decide), if_pos (by decide)]
        obtain ⟨rfl, rfl⟩ := rkS_zero F hC hz; rfl
      · rw [if_pos (by omega), if_neg (by omega)]; rfl
omit F in
theorem rk_inf {s : Int} (hs : s = 0 ∨ s = 1) : rkI b p low high (.inf s) = if s = 1 then -mostI b p low high else mostI b p low high := rfl
theorem zero_can {s : Int} (hs : s = 0 ∨ s = 1) : Vcan b p low high (.num s 0 low) := by
  have R := F.rkf
  have l2 := R.l2; have fl := R.fl; have f1 := R.f1
  exact ⟨hs, ⟨Int.le_refl _, by omega, Int.le_refl _, .inl rfl⟩, F.lh⟩
theorem zero_rk {s : Int} : rkI b p low high (.num s 0 low) = 0 := by
  unfold rkI rkS
  dsimp only
  rw [Int.sub_self, Int.zero_mul]; split <;> rfl
theorem ord_rk {x y : Va} (hx : Vcan b p low high x) (hy : Vcan b p low high y) (nx : x.isNan = false) (ny : y.isNan = false) : ordI b b x y = cmpI (rkI b p low high x) (rkI b p low high y) := by
  have mp := most_pos F
  unfold ordI
  cases x with
  | nan => cases nx
  | num s c e =>
    obtain ⟨hs, hC, he⟩ := hx
    have b1 := rk_num_lt F (s := s) hC he
    cases y with
    | nan => cases ny
    | num s' c' e' =>
      obtain ⟨hs', hC', he'⟩ := hy
      rw [if_neg (by rintro (z | z) <;> exact z rfl)]
      have k1 := rk_lt F hs hs' hC he hC' he'
      have k2 := rk_lt F hs' hs hC' he' hC he
      unfold cmp cmpI
      by_cases h1 : (Va.num s c e).wQ b < (Va.num s' c' e').wQ b
      · have := k1.mpr h1
        rw [if_pos h1, if_neg (by omega), if_pos this]; rfl
      · rw [if_neg h1, if_neg (show ¬ rkI b p low high (.num s c e) < rkI b p low high (.num s' c' e') from fun z => h1 (k1.mp z))]
        by_cases h2 : (Va.num s' c' e').wQ b < (Va.num s c e).wQ b
        · rw [if_pos h2, if_pos (k2.mpr h2)]; rfl
        · rw [if_neg h2, if_neg (fun z => h2 (k2.mp z))]; rfl
    | inf t =>
      have ht : t = 0 ∨ t = 1 := hy
      rw [rk_inf ht]
      rcases ht with rfl | rfl
      · rw [if_pos (.inr (by decide)), if_neg (by decide)]
        show cmpI 0 1 = _
        unfold cmpI; rw [if_neg (show ¬ mostI b p low high < rkI b p low high (.num s c e) by omega), if_pos b1.2]; rfl
      · rw [if_pos (.inr (by decide)), if_pos rfl]
        show cmpI 0 (-1) = _
        unfold cmpI; rw [if_pos b1.1, if_neg (show ¬ rkI b p low high (.num s c e) < -mostI b p low high by omega)]; rfl
  | inf t =>
    have ht : t = 0 ∨ t = 1 := hx
    rw [rk_inf ht]
    cases y with
    | nan => cases ny
    | num s c e =>
      obtain ⟨hs, hC, he⟩ := hy
      have b1 := rk_num_lt F (s := s) hC he
      rcases ht with rfl | rfl
      · rw [if_pos (.inl (by decide)), if_neg (by decide)]
        show cmpI 1 0 = _
        unfold cmpI; rw [if_pos b1.2, if_neg (show ¬ mostI b p low high < rkI b p low high (.num s c e) by omega)]; rfl
      · rw [if_pos (.inl (by decide)), if_pos rfl]
        show cmpI (-1) 0 = _
        unfold cmpI; rw [if_neg (show ¬ rkI b p low high (.num s c e) < -mostI b p low high by omega), if_pos b1.1]; rfl
    | inf u =>
      have hu : u = 0 ∨ u = 1 := hy
      rw [rk_inf hu]
      have e1 : plI (.inf t) ≠ 0 := by rcases ht with rfl | rfl <;> decide
      rw [if_pos (.inl e1)]
      rcases ht with rfl | rfl <;> rcases hu with rfl | rfl
      · show cmpI 1 1 = cmpI (mostI b p low high) (mostI b p low high)
        unfold cmpI; rw [if_neg (Int.lt_irrefl _), if_neg (Int.lt_irrefl _)]
      · show cmpI 1 (-1) = cmpI (mostI b p low high) (-mostI b p low high)
        unfold cmpI; rw [if_pos (show -mostI b p low high < mostI b p low high by omega), if_neg (show ¬ mostI b p low high < -mostI b p low high by omega)]; rfl
      · show cmpI (-1) 1 = cmpI (-mostI b p low high) (mostI b p low high)
        unfold cmpI; rw [if_pos (show -mostI b p low high < mostI b p low high by omega), if_neg (show ¬ mostI b p low high < -mostI b p low high by omega)]; rfl
      · show cmpI (-1) (-1) = cmpI (-mostI b p low high) (-mostI b p low high)
        unfold cmpI; rw [if_neg (Int.lt_irrefl _), if_neg (Int.lt_irrefl _)]
end
end Lw
namespace Gd
open PySem PySem.Spec PyProof.Rows L2
section
variable {X : Cx} {Γ : List VD} {B B1 B2 : Bag} {a b c e : Expr} {pos p pos' : Pos} {rest s1 : List Stmt} {E : En}
theorem op_inDL (hu : X.A.units + 64 < cLine) : OpR X (compareOp .In) (fun x y H Q => ∃ d ds, Dp X.K H x d ∧ Dp X.K H y (.list ds) ∧ SeqAt.shaped d = true ∧ SeqAt.shaped (.list ds) = true ∧ d.depth ≤ 60 ∧ Q (.bl (ds.any fun z => PyData.eqv z d)) H) := by
  intro pins s σ H x y v u Q I rx ry h
  obtain ⟨d, ds, hd, he, sd, se, hp, q⟩ := h
  obtain ⟨as, r1⟩ := Dp.reads I d x v hd rx
  obtain ⟨bs, r2⟩ := Dp.reads I (.list ds) y u he ry
  exact SeqAt.in_list_reads r2 r1 (SeqAt.canLay_of_shaped se) (SeqAt.canLay_of_shaped sd) (by have := Nat.min_le_right (PyData.depthAll ds) d.depth; omega) ⟨.bl _, H, I, rfl, q⟩
theorem tj_inDL {d : PyData} {ds : List PyData} (hu : X.A.units + 64 < cLine) (ha : EJ X Γ B a (.da d) B1) (hb : EJ X Γ B1 b (.da (.list ds)) B2) (hd : SeqAt.shaped d = true) (hds : SeqAt.shaped (.list ds) = true) (hp : d.depth ≤ 60) (hm : behindInMarks .In b = false := by rfl) :
    TJ X Γ B (.Compare a [.In] [b] pos) (ds.any fun z => PyData.eqv z d) B2 :=
  tj_cmp ha hb (op_inDL hu) hm fun g v w H0 H O r1 r2 Q q => ⟨d, ds, (Rp.mono O.ex r1).dp, (Rp.mono O.ex r2).dp, hd, hds, hp, q H0 H To.refl O⟩
end
end Gd
set_option exponentiation.threshold 20000
namespace Lw
open PySem PySem.Spec PyProof.Rows L2 Gd Fr
open scoped Rat
def capM (b p : Nat) (low high : Int) (way : Str) (S : Int) : Int := if isInf way S = true then mostI b p low high else mostI b p low high - 1
noncomputable def mrk (b p : Nat) (low high : Int) (way : Str) (S : Int) (q : Rat) : Int := min (rkS b p low high (.num S (unN b p low way S q).1 (unN b p low way S q).2)) (capM b p low high way S)
section
variable {b p : Nat} {low high : Int} (F : Fm b p low high)
include F
theorem rkS_over {s c e : Int} (h : Can b p low c e) : high < e ↔ mostI b p low high ≤ rkS b p low high (.num s c e) := by
  have R := F.rkf
  have l2 := R.l2; have fl := R.fl; have f1 := R.f1; have lh := R.lh
  constructor
  · intro z
    obtain ⟨h1, h2, h3, h4⟩ := h
    have h5 : ((b ^ (p - 1) : Nat) : Int) ≤ c := by rcases h4 with h4 | h4; omega; exact h4
    have : (high - low + 1) * fmI b p ≤ (e - low) * fmI b p := Int.mul_le_mul_of_nonneg_right (by omega) (by omega)
    rw [Int.add_mul, Int.one_mul] at this
    show ((b ^ p : Nat) : Int) + (high - low) * fmI b p ≤ c + (e - low) * fmI b p
    omega
  · intro z
    refine Int.not_le.mp fun y => ?_
    have := rkS_num F (s := s) h y
    omega
theorem great_rk (s : Int) : rkS b p low high (.num s (((b ^ p : Nat) : Int) - 1) high) = mostI b p low high - 1 := by
  show ((b ^ p : Nat) : Int) - 1 + (high - low) * fmI b p = ((b ^ p : Nat) : Int) + (high - low) * fmI b p - 1
  omega
theorem rdV_un {way : Str} {x : Rat} {s : Int} : rdV b p low high way x s = if high < (unN b p low way (if x = 0 then s else sgn x) (absQ x)).2 then (if isInf way (if x = 0 then s else sgn x) = true then .inf (if x = 0 then s else sgn x) else .num (if x = 0 then s else sgn x) (((b ^ p : Nat) : Int) - 1) high)
    else .num (if x = 0 then s else sgn x) (unN b p low way (if x = 0 then s else sgn x) (absQ x)).1 (unN b p low way (if x = 0 then s else sgn x) (absQ x)).2 := rfl
theorem rdV_can {way : Str} {x : Rat} {s : Int} (hs : s = 0 ∨ s = 1) : Vcan b p low high (rdV b p low high way x s) ∧ (rdV b p low high way x s).isNan = false := by
  have hS : (if x = 0 then s else sgn x) = 0 ∨ (if x = 0 then s else sgn x) = 1 := by split; exact hs; exact sgn_01 x
  have hC := unN_can F (way := way) (s := if x = 0 then s else sgn x) (absQ_nonneg x)
  rw [rdV_un F]
  generalize (if x = 0 then s else sgn x) = S at *
  split
  · split
    · exact ⟨hS, rfl⟩
    · exact ⟨⟨hS, great_can F, Int.le_refl _⟩, rfl⟩
  · next h => exact ⟨⟨hS, hC, by omega⟩, rfl⟩
theorem rdV_rk {way : Str} {x : Rat} {s : Int} (hs : s = 0 ∨ s = 1) : rkI b p low high (rdV b p low high way x s) =
    if (if x = 0 then s else sgn x) = 1 then -mrk b p low high way (if x = 0 then s else sgn x) (absQ x) else mrk b p low high way (if x = 0 then s else sgn x) (absQ x) := by
  have hS : (if x = 0 then s else sgn x) = 0 ∨ (if x = 0 then s else sgn x) = 1 := by split; exact hs; exact sgn_01 x
  have hC := unN_can F (way := way) (s := if x = 0 then s else sgn x) (absQ_nonneg x)
  have ho := rkS_over F (s := if x = 0 then s else sgn x) hC
  rw [rdV_un F]
  unfold mrk capM
  generalize (if x = 0 then s else sgn x) = S at *
  generalize hu : unN b p low way S (absQ x) = u at *
  have hS1 : (if S = 1 then (1 : Int) else 0) = S := by rcases hS with rfl | rfl <;> rfl
  by_cases hh : high < u.2
  · have := ho.mp hh
    rw [if_pos hh]
    by_cases hi : isInf way S = true
    · rw [if_pos hi, if_pos hi, Int.min_eq_right this]; rfl
    · rw [if_neg hi, if_neg hi, Int.min_eq_right (by omega)]
      unfold rkI
      rw [great_rk F]; rfl
  · rw [if_neg hh]
    have hn := rkS_num F (s := S) hC (by omega)
    have : min (rkS b p low high (.num S u.1 u.2)) (if isInf way S = true then mostI b p low high else mostI b p low high - 1) = rkS b p low high (.num S u.1 u.2) := by
      split <;> omega
    rw [this]; rfl
theorem mrk_mono {way : Str} (hw : way ∈ wayList) {S : Int} {q u : Rat} (h0 : 0 ≤ q) (h : q ≤ u) : mrk b p low high way S q ≤ mrk b p low high way S u := by
  have hm := pk_mono F hw (s := S) h0 h
  have c1 := unN_can F (way := way) (s := S) h0
  have c2 := unN_can F (way := way) (s := S) (Rat.le_trans h0 h)
  have p1 : (((unN b p low way S q).1 : Int) : Rat) * pw b (unN b p low way S q).2 = pkQ b p low way S q := nb_pk F h0
  have p2 : (((unN b p low way S u).1 : Int) : Rat) * pw b (unN b p low way S u).2 = pkQ b p low way S u := nb_pk F (Rat.le_trans h0 h)
  have hl := rkS_lt F (high := high) (s := S) (s' := S) c2 c1
  rw [p1, p2] at hl
  have : ¬ rkS b p low high (.num S (unN b p low way S u).1 (unN b p low way S u).2) < rkS b p low high (.num S (unN b p low way S q).1 (unN b p low way S q).2) := fun z => absurd (hl.mp z) (Rat.not_lt.mpr hm)
  unfold mrk
  omega
theorem mrk_nonneg {way : Str} {S : Int} {q : Rat} (h0 : 0 ≤ q) : 0 ≤ mrk b p low high way S q := by
  have c1 := unN_can F (way := way) (s := S) h0
  have mp := most_pos F
  have R := F.rkf
  have f1 := R.f1
  have : 0 ≤ rkS b p low high (.num S (unN b p low way S q).1 (unN b p low way S q).2) := by
    show 0 ≤ (unN b p low way S q).1 + ((unN b p low way S q).2 - low) * fmI b p
    have : 0 ≤ ((unN b p low way S q).2 - low) * fmI b p := Int.mul_nonneg (by have := c1.2.2.1; omega) (by omega)
    have := c1.1
    omega
  unfold mrk capM
  split <;> omega
theorem mrk_zero {way : Str} {S : Int} : mrk b p low high way S 0 = 0 := by
  have c1 := unN_can F (way := way) (s := S) (q := 0) (by decide)
  have p1 : (((unN b p low way S 0).1 : Int) : Rat) * pw b (unN b p low way S 0).2 = pkQ b p low way S 0 := nb_pk F (by decide)
  rw [pk_zero F] at p1
  have hz : Can b p low 0 low := ⟨Int.le_refl _, by have := F.rkf.l2; have := F.rkf.fl; have := F.rkf.f1; omega, Int.le_refl _, .inl rfl⟩
  have hl := rkS_lt F (high := high) (s := S) (s' := S) hz c1
  rw [p1, show ((0 : Int) : Rat) = 0 from rfl, Rat.zero_mul] at hl
  have e0 : rkS b p low high (.num S 0 low) = 0 := by show (0 : Int) + (low - low) * fmI b p = 0; rw [Int.sub_self, Int.zero_mul]; rfl
  rw [e0] at hl
  have n1 := mrk_nonneg F (way := way) (S := S) (q := 0) (high := high) (by decide)
  have : ¬ 0 < rkS b p low high (.num S (unN b p low way S 0).1 (unN b p low way S 0).2) := fun z => absurd (hl.mp z) (by decide)
  unfold mrk at *
  omega
theorem rd_mono {way : Str} (hw : way ∈ wayList) {x y : Rat} {s t : Int} (hs : s = 0 ∨ s = 1) (ht : t = 0 ∨ t = 1) (h : x ≤ y) : rkI b p low high (rdV b p low high way x s) ≤ rkI b p low high (rdV b p low high way y t) := by
  rw [rdV_rk F hs, rdV_rk F ht]
  have n1 : ∀ S, 0 ≤ mrk b p low high way S (absQ x) := fun S => mrk_nonneg F (absQ_nonneg x)
  have n2 : ∀ S, 0 ≤ mrk b p low high way S (absQ y) := fun S => mrk_nonneg F (absQ_nonneg y)
  have a0 : absQ 0 = 0 := by decide +kernel
  have z0 : ∀ S, mrk b p low high way S (absQ 0) = 0 := fun S => by rw [a0]; exact mrk_zero F
  have zz : ∀ S : Int, (if S = 1 then -(0 : Int) else 0) = 0 := fun S => by split <;> rfl
  by_cases hx : x = 0
  · subst hx
    rw [z0, if_pos rfl, zz]
    by_cases hy : y = 0
    · subst hy; rw [z0, zz]; exact Int.le_refl _
    · rw [if_neg hy, sgn_eq, if_neg (show ¬ y < 0 from Rat.not_lt.mpr h), if_neg (by decide)]
      exact n2 _
  · rw [if_neg hx, sgn_eq]
    by_cases hn : x < 0
    · rw [if_pos hn, if_pos rfl]
      by_cases hy : y = 0
      · subst hy
        rw [z0, zz]; have := n1 1; omega
      · rw [if_neg hy, sgn_eq]
        by_cases hyn : y < 0
        · rw [if_pos hyn, if_pos rfl]
          have e1 : absQ x = -x := by unfold absQ; rw [if_pos hn]
          have e2 : absQ y = -y := by unfold absQ; rw [if_pos hyn]
          have := mrk_mono F (high := high) hw (S := 1) (q := absQ y) (u := absQ x) (absQ_nonneg y) (by rw [e1, e2]; exact Rat.neg_le_neg h)
          omega
        · rw [if_neg hyn, if_neg (by decide)]
          have := n1 1; have := n2 0; omega
    · rw [if_neg hn, if_neg (by decide)]
      have hy : ¬ y < 0 := fun z => hn (Rat.not_le.mp fun w => absurd (Rat.le_trans w h) (Rat.not_le.mpr z))
      have hy0 : y ≠ 0 := fun z => by subst z; exact hx (Rat.le_antisymm h (Rat.not_lt.mp hn))
      rw [if_neg hy0, sgn_eq, if_neg hy, if_neg (by decide)]
      have e1 : absQ x = x := by unfold absQ; rw [if_neg hn]
      have e2 : absQ y = y := by unfold absQ; rw [if_neg hy]
      exact mrk_mono F (high := high) hw (S := 0) (absQ_nonneg x) (by rw [e1, e2]; exact h)
end
def turnW (way : Str) : Str := if way = "up" then "down" else if way = "down" then "up" else way
theorem outw_turn {way : Str} (hw : way ∈ wayList) {S c k : Int} (hS : S = 0 ∨ S = 1) : outw (turnW way) (1 - S) c k = outw way S c k := by
  by_cases hk : k = 0
  · subst hk; unfold outw; rw [if_pos (.inl rfl), if_pos (.inl rfl)]
  · rcases ways hw with rfl | rfl | rfl | rfl | rfl
    · rw [show turnW "even" = "even" by decide, outw_even hk, outw_even hk]
    · rw [show turnW "away" = "away" by decide, outw_away hk, outw_away hk]
    · rw [show turnW "up" = "down" by decide, outw_down hk, outw_up hk]; exact decide_eq_decide.mpr (by omega)
    · rw [show turnW "down" = "up" by decide, outw_up hk, outw_down hk]; exact decide_eq_decide.mpr (by omega)
    · rw [show turnW "zero" = "zero" by decide, outw_zero, outw_zero]
theorem isInf_turn {way : Str} (hw : way ∈ wayList) {S : Int} (hS : S = 0 ∨ S = 1) : isInf (turnW way) (1 - S) = isInf way S := by
  rcases ways hw with rfl | rfl | rfl | rfl | rfl <;> rcases hS with rfl | rfl <;> decide +kernel
theorem sgn_neg {x : Rat} (h : x ≠ 0) : sgn (-x) = 1 - sgn x := by
  rw [sgn_eq, sgn_eq]
  by_cases hn : x < 0
  · rw [if_pos hn, if_neg (by grind)]; rfl
  · rw [if_neg hn, if_pos (by grind)]; rfl
theorem rd_turn {b p : Nat} {low high : Int} (F : Fm b p low high) {way : Str} (hw : way ∈ wayList) {x : Rat} {s : Int} (hs : s = 0 ∨ s = 1) :
    rdV b p low high (turnW way) (-x) (1 - s) = (rdV b p low high way x s).opp ∧ rdF b p low high (turnW way) (-x) (1 - s) = rdF b p low high way x s := by
  have hS : (if x = 0 then s else sgn x) = 0 ∨ (if x = 0 then s else sgn x) = 1 := by split; exact hs; exact sgn_01 x
  have eS : (if -x = 0 then 1 - s else sgn (-x)) = 1 - (if x = 0 then s else sgn x) := by
    by_cases hx : x = 0
    · subst hx; rw [if_pos (by decide), if_pos rfl]
    · rw [if_neg (by grind), if_neg hx, sgn_neg hx]
  unfold rdV rdF
  rw [absQ_neg, eS]
  generalize (if x = 0 then s else sgn x) = S at *
  unfold outV outF
  rw [outw_turn hw hS, isInf_turn hw hS]
  refine ⟨?_, rfl⟩
  split
  · split <;> rfl
  · rfl
section
variable {b p : Nat} {low high : Int} (F : Fm b p low high)
include F
end
end Lw
set_option exponentiation.threshold 20000
namespace Lw
open PySem PySem.Spec PyProof.Rows L2 Gd Fr
open scoped Rat
theorem cmp_self (x : Rat) : cmp x x = 0 := by unfold cmp; rw [if_neg Rat.lt_irrefl, if_neg Rat.lt_irrefl]
theorem ord_num {b b' : Nat} {s c e s' c' e' : Int} : ordI b b' (.num s c e) (.num s' c' e') = cmp ((Va.num s c e).wQ b) ((Va.num s' c' e').wQ b') := by
  unfold ordI
  rw [if_neg (by rintro (z | z) <;> exact z rfl)]
def exQ (b p : Nat) (low high : Int) (x : Rat) : Prop := rQ b (eQ b p low (absQ x)) (absQ x) = 0 ∧ eQ b p low (absQ x) ≤ high
section
variable {b p : Nat} {low high : Int} (F : Fm b p low high)
include F
theorem rdF_exact {way : Str} {x : Rat} {s : Int} (h : exQ b p low high x) : rdF b p low high way x s = [] := by
  unfold rdF outF
  have hp : pt (rQ b (eQ b p low (absQ x)) (absQ x)) (Dq b (eQ b p low (absQ x)) (absQ x)) = 0 := pt_zero.mpr h.1
  rw [hp]
  have oz : ∀ w S c, outw w S c 0 = false := fun w S c => by unfold outw; rw [if_pos (.inl rfl)]
  rw [oz]
  have n0 : nb b p false (cQ b (eQ b p low (absQ x)) (absQ x)) (eQ b p low (absQ x)) = (cQ b (eQ b p low (absQ x)) (absQ x), eQ b p low (absQ x)) := rfl
  rw [n0, if_neg (by have := h.2; show ¬ high < eQ b p low (absQ x); omega), if_pos rfl]
theorem rd_ex {way : Str} {x : Rat} {s : Int} (h : exQ b p low high x) : (rdV b p low high way x s).isNum = true ∧ (rdV b p low high way x s).wQ b = x := rd_exact F (rdF_exact F h)
theorem rk_inj {u v : Va} (hu : Vcan b p low high u) (hv : Vcan b p low high v) (nu : u.isNan = false) (nv : v.isNan = false) (hs : u.sg = v.sg) (h : rkI b p low high u = rkI b p low high v) : u = v := by
  have a1 := at_rank F hu nu
  have a2 := at_rank F hv nv
  rw [h] at a1
  rw [a1] at a2
  have a2 := Option.some.inj a2
  by_cases hz : rkI b p low high v = 0
  · have mp := most_pos F
    have key : ∀ {w : Va}, Vcan b p low high w → w.isNan = false → rkI b p low high w = 0 → w = .num w.sg 0 low := by
      intro w hw nw h0
      cases w with
      | nan => cases nw
      | inf s =>
        rw [rk_inf hw] at h0
        split at h0 <;> omega
      | num s c e =>
        have h1 : rkS b p low high (.num s c e) = 0 := by
          unfold rkI at h0
          split at h0 <;> omega
        obtain ⟨rfl, rfl⟩ := rkS_zero F hw.2.1 h1
        rfl
    rw [key hu nu (h.trans hz), key hv nv hz, hs]
  · rw [if_neg hz, if_neg hz] at a2
    exact a2
theorem rdV_sg {way : Str} {x : Rat} {s : Int} : (rdV b p low high way x s).sg = (if x = 0 then s else sgn x) := by
  rw [rdV_un F]
  generalize (if x = 0 then s else sgn x) = S
  split
  · split <;> rfl
  · rfl
theorem down_pos {x : Rat} {s : Int} (hx : 0 < x) (h : ¬ exQ b p low high x) : ∃ c e, rdV b p low high "down" x s = .num 0 c e ∧ (Va.num 0 c e).wQ b < x := by
  have ha : absQ x = x := by unfold absQ; rw [if_neg (Rat.not_lt.mpr (Rat.le_of_lt hx))]
  have hS : (if x = 0 then s else sgn x) = 0 := by rw [if_neg (by grind), sgn_eq, if_neg (Rat.not_lt.mpr (Rat.le_of_lt hx))]
  unfold exQ at h
  rw [rdV_un F, hS]
  rw [ha] at h ⊢
  have hov := over_un F (way := "down") (s := 0) (q := x) (Rat.le_of_lt hx)
  have hpd := pk_down F (q := x)
  have hpe := pk_eq F (way := "down") (s := 0) (q := x)
  have hnb : (((unN b p low "down" 0 x).1 : Int) : Rat) * pw b (unN b p low "down" 0 x).2 = pkQ b p low "down" 0 x := nb_pk F (Rat.le_of_lt hx)
  have eI : isInf "down" 0 = false := by decide +kernel
  have w0 : ∀ c e : Int, (Va.num 0 c e).wQ b = (c : Rat) * pw b e := fun c e => rfl
  by_cases hh : high < (unN b p low "down" 0 x).2
  · rw [if_pos hh, eI, if_neg (by decide)]
    refine ⟨_, _, rfl, ?_⟩
    have g := hov.mp hh
    show grQ b p high < x
    exact ltle g hpd
  · rw [if_neg hh]
    refine ⟨_, _, rfl, ?_⟩
    rw [w0, hnb]
    have hne : pkQ b p low "down" 0 x ≠ x := fun z => by
      have hr := hpe.mp z
      have hp0 : pt (rQ b (eQ b p low x) x) (Dq b (eQ b p low x) x) = 0 := pt_zero.mpr hr
      refine h ⟨hr, ?_⟩
      unfold unN at hh
      rw [hp0, show outw "down" 0 (cQ b (eQ b p low x) x) 0 = false by unfold outw; rw [if_pos (.inl rfl)]] at hh
      exact Int.not_lt.mp hh
    grind
theorem up_pos {x : Rat} {s : Int} (hx : 0 < x) (h : ¬ exQ b p low high x) : rdV b p low high "up" x s = .inf 0 ∨ ∃ c e, rdV b p low high "up" x s = .num 0 c e ∧ x < (Va.num 0 c e).wQ b := by
  have ha : absQ x = x := by unfold absQ; rw [if_neg (Rat.not_lt.mpr (Rat.le_of_lt hx))]
  have hS : (if x = 0 then s else sgn x) = 0 := by rw [if_neg (by grind), sgn_eq, if_neg (Rat.not_lt.mpr (Rat.le_of_lt hx))]
  unfold exQ at h
  rw [rdV_un F, hS]
  rw [ha] at h ⊢
  have hpd := pk_up F (q := x)
  have hpe := pk_eq F (way := "up") (s := 0) (q := x)
  have hnb : (((unN b p low "up" 0 x).1 : Int) : Rat) * pw b (unN b p low "up" 0 x).2 = pkQ b p low "up" 0 x := nb_pk F (Rat.le_of_lt hx)
  have eI : isInf "up" 0 = true := by decide +kernel
  have w0 : ∀ c e : Int, (Va.num 0 c e).wQ b = (c : Rat) * pw b e := fun c e => rfl
  by_cases hh : high < (unN b p low "up" 0 x).2
  · rw [if_pos hh, eI, if_pos rfl]
    exact .inl rfl
  · rw [if_neg hh]
    refine .inr ⟨_, _, rfl, ?_⟩
    rw [w0, hnb]
    have hne : pkQ b p low "up" 0 x ≠ x := fun z => by
      have hr := hpe.mp z
      have hp0 : pt (rQ b (eQ b p low x) x) (Dq b (eQ b p low x) x) = 0 := pt_zero.mpr hr
      refine h ⟨hr, ?_⟩
      unfold unN at hh
      rw [hp0, show outw "up" 0 (cQ b (eQ b p low x) x) 0 = false by unfold outw; rw [if_pos (.inl rfl)]] at hh
      exact Int.not_lt.mp hh
    grind
theorem ex_neg {x : Rat} : exQ b p low high (-x) ↔ exQ b p low high x := by unfold exQ; rw [absQ_neg]
theorem ex_zero : exQ b p low high 0 := by
  have a0 : absQ 0 = 0 := by decide +kernel
  unfold exQ
  rw [a0, eQ_of F.b2 (isE_zero F.b2 low)]
  exact ⟨(cQ_zero b low).2, F.lh⟩
end
end Lw
namespace Lw
open PySem PySem.Spec PyProof.Rows L2 Gd Fr
end Lw
namespace Gd
open PySem PySem.Spec PyProof.Rows L2
section
variable {X : Cx} {Γ : List VD} {B B1 B2 : Bag} {a b c e elt : Expr} {scope : Scope} {pos p pos' : Pos} {rest s1 : List Stmt} {E : En} {d : VD}
end
end Gd
set_option exponentiation.threshold 20000
namespace Lw
open PySem PySem.Spec PyProof.Rows L2 Gd Fr
open scoped Rat
section
variable {b p : Nat} {low high : Int} (F : Fm b p low high)
include F
end
end Lw
namespace Lw
end Lw
namespace Gd
open PySem PySem.Spec PyProof.Rows L2
section
variable {X : Cx} {Γ : List VD} {B B1 B2 : Bag} {e c elt a b : Expr} {scope : Scope} {acc : List PyData} {pos pos' p p' : Pos} {rest : List Stmt} {E : En} {d : VD}
end
end Gd
set_option exponentiation.threshold 20000
namespace Lw
open PySem PySem.Spec PyProof.Rows L2 Gd Fr
open scoped Rat
noncomputable instance exQ_dec (b p : Nat) (low high : Int) (x : Rat) : Decidable (exQ b p low high x) := by unfold exQ; infer_instance
section
variable {b p : Nat} {low high : Int} {b' p' : Nat} {low' high' : Int} (F : Fm b p low high) (F' : Fm b' p' low' high')
include F F'
end
end Lw
set_option exponentiation.threshold 20000
namespace Lw
open PySem PySem.Spec PyProof.Rows L2 Gd Fr
open scoped Rat
end Lw
set_option exponentiation.threshold 20000
namespace Lw
open PySem PySem.Spec PyProof.Rows L2 Gd Fr
open scoped Rat
end Lw
namespace Gd
open PySem PySem.Spec PyProof.Rows L2
section
variable {X : Cx} {Γ : List VD} {B B1 B2 B3 : Bag} {e c elt a b o i f : Expr} {scope : Scope} {acc : List PyData} {pos pos' p p' : Pos} {rest : List Stmt} {E : En} {d : VD}
end
end Gd
namespace Gd
open PySem PySem.Spec PyProof.Rows L2
section
variable {X : Cx} {Γ : List VD} {B B1 B2 : Bag} {a b c e : Expr} {pos p pos' : Pos} {rest s1 : List Stmt} {E : En}
end
end Gd
set_option exponentiation.threshold 20000
namespace Lw
open PySem PySem.Spec PyProof.Rows L2 Gd Fr
open scoped Rat
def hqQ (b : Nat) (v : Va) : Rat := if v.isNum = true then v.wQ b else 0
section
variable {b p : Nat} {low high : Int} (F : Fm b p low high)
include F
theorem ord_mono {way : Str} (hw : way ∈ wayList) {x y : Rat} {s t : Int} (hs : s = 0 ∨ s = 1) (ht : t = 0 ∨ t = 1) (h : x ≤ y) : ordI b b (rdV b p low high way x s) (rdV b p low high way y t) ≤ 0 := by
  have c1 := rdV_can F (way := way) (x := x) hs
  have c2 := rdV_can F (way := way) (x := y) ht
  rw [ord_rk F c1.1 c2.1 c1.2 c2.2]
  have := rd_mono F hw hs ht h
  unfold cmpI
  rw [if_neg (by omega)]
  split <;> omega
theorem down_le {x : Rat} {s : Int} (hs : s = 0 ∨ s = 1) {s' c e : Int} (h : rdV b p low high "down" x s = .num s' c e) : (Va.num s' c e).wQ b ≤ x := by
  by_cases hx : exQ b p low high x
  · have := (rd_ex F (way := "down") (s := s) hx).2
    rw [h] at this; rw [this]; exact Rat.le_refl
  · have hx0 : x ≠ 0 := fun z => hx (by rw [z]; exact ex_zero F)
    by_cases hp : 0 < x
    · obtain ⟨c', e', d1, d2⟩ := down_pos F (s := s) hp hx
      rw [h] at d1; cases d1; exact Rat.le_of_lt d2
    · have hn : 0 < -x := by grind
      have hs' : 1 - s = 0 ∨ 1 - s = 1 := by omega
      have h' : ¬ exQ b p low high (-x) := fun z => hx ((ex_neg F).mp z)
      have t1 := (rd_turn F (way := "up") (by decide) (x := -x) (s := 1 - s) hs').1
      rw [show turnW "up" = "down" by decide, Rat.neg_neg, show 1 - (1 - s) = s by omega] at t1
      rw [h] at t1
      rcases up_pos F (s := 1 - s) hn h' with u | ⟨c', e', u1, u2⟩
      · rw [u] at t1; cases t1
      · rw [u1] at t1
        have t1 : Va.num s' c e = .num (1 - 0) c' e' := t1
        cases t1
        rw [wQ_s, if_pos (by decide)]
        rw [wQ_s, if_neg (by decide)] at u2
        grind
theorem up_ge {x : Rat} {s : Int} (hs : s = 0 ∨ s = 1) {s' c e : Int} (h : rdV b p low high "up" x s = .num s' c e) : x ≤ (Va.num s' c e).wQ b := by
  by_cases hx : exQ b p low high x
  · have := (rd_ex F (way := "up") (s := s) hx).2
    rw [h] at this; rw [this]; exact Rat.le_refl
  · have hx0 : x ≠ 0 := fun z => hx (by rw [z]; exact ex_zero F)
    by_cases hp : 0 < x
    · rcases up_pos F (s := s) hp hx with u | ⟨c', e', u1, u2⟩
      · rw [h] at u; cases u
      · rw [h] at u1; cases u1; exact Rat.le_of_lt u2
    · have hn : 0 < -x := by grind
      have hs' : 1 - s = 0 ∨ 1 - s = 1 := by omega
      have h' : ¬ exQ b p low high (-x) := fun z => hx ((ex_neg F).mp z)
      have t2 := (rd_turn F (way := "down") (by decide) (x := -x) (s := 1 - s) hs').1
      rw [show turnW "down" = "up" by decide, Rat.neg_neg, show 1 - (1 - s) = s by omega] at t2
      rw [h] at t2
      obtain ⟨c', e', d1, d2⟩ := down_pos F (s := 1 - s) hn h'
      rw [d1] at t2
      have t2 : Va.num s' c e = .num (1 - 0) c' e' := t2
      cases t2
      rw [wQ_s, if_pos (by decide)]
      rw [wQ_s, if_neg (by decide)] at d2
      grind
end
end Lw
namespace Lw
open PySem PySem.Spec PyProof.Rows L2 Gd Fr
open scoped Rat
theorem cut1 (ds : List PyData) : cutP ds (some 1) none = ds.drop 1 := by
  cases ds with
  | nil => rfl
  | cons d ds =>
    have h1 : HT.sIx (d :: ds).length 0 (some 1) = 1 := by
      unfold HT.sIx
      simp
      try omega
    have h2 : HT.sIx (d :: ds).length (d :: ds).length none = (d :: ds).length := rfl
    unfold cutP
    rw [h1, h2]
    exact List.take_of_length_le (by simp)
end Lw
namespace Fr
open Gd PySem
open scoped Rat
def tw (k : Nat) (a : Int) : Int := 2 ^ k * (2 * a + 1)
theorem tw_of : ∀ (m : Nat) (n : Int), n.natAbs ≤ m → n ≠ 0 → ∃ k a, n = tw k a := by
  intro m
  induction m with
  | zero => intro n h hn; omega
  | succ m ih =>
    intro n h hn
    by_cases ho : n % 2 = 1
    · exact ⟨0, n / 2, by unfold tw; omega⟩
    · obtain ⟨k, a, e⟩ := ih (n / 2) (by omega) (by omega)
      refine ⟨k + 1, a, ?_⟩
      unfold tw at *
      rw [Int.pow_succ, Int.mul_comm _ 2, Int.mul_assoc, ← e]; omega
theorem tw_ex {n : Int} (h : n ≠ 0) : ∃ k a, n = tw k a := tw_of _ n (Nat.le_refl _) h
theorem tw_ne (k : Nat) (a : Int) : tw k a ≠ 0 := by
  unfold tw
  exact Int.mul_ne_zero (Int.ne_of_gt (Int.pow_pos (by decide))) (by omega)
theorem tw_low (k : Nat) (a : Int) : Builtin.bitAnd (tw k a) (-(tw k a)) = 2 ^ k := PySem.W.kbt_low k a
theorem bits_two (k : Nat) : ((Builtin.Int.intBits ((2 : Int) ^ k) : Nat) : Int) - 1 = (k : Int) := by
  have e : ((2 : Int) ^ k) = ((2 ^ k : Nat) : Int) := by rw [Int.natCast_pow]; rfl
  have p : 0 < 2 ^ k := Nat.pow_pos (by decide)
  unfold Builtin.Int.intBits
  rw [e, if_neg (by rw [beq_iff_eq]; omega), Int.natAbs_natCast, Nat.log2_two_pow]
  omega
theorem tw_shr {j k : Nat} (h : j ≤ k) (a : Int) : tw k a / 2 ^ j = tw (k - j) a := by
  unfold tw
  have e : (2 : Int) ^ k = 2 ^ j * 2 ^ (k - j) := by rw [← Int.pow_add]; congr 1; omega
  rw [e, Int.mul_assoc]
  exact Int.mul_ediv_cancel_left _ (Int.ne_of_gt (Int.pow_pos (by decide)))
theorem tw_zero (a : Int) : tw 0 a = 2 * a + 1 := by unfold tw; omega
theorem tw_split {j k : Nat} (h : j ≤ k) (a : Int) : tw k a = 2 ^ j * tw (k - j) a := by
  unfold tw
  rw [← Int.mul_assoc, ← Int.pow_add]; congr 2; omega
theorem gcd_odd {n : Int} (k : Nat) (b : Int) (h : n % 2 = 1 ∨ k = 0) : Nat.gcd n.natAbs (tw k b).natAbs = Nat.gcd n.natAbs (tw 0 b).natAbs := by
  rcases h with h | rfl
  · have e : (tw k b).natAbs = 2 ^ k * (tw 0 b).natAbs := by
      unfold tw; rw [Int.natAbs_mul, Int.natAbs_pow, Int.pow_zero, Int.one_mul]; rfl
    rw [e]
    have c : Nat.Coprime n.natAbs (2 ^ k) := by
      refine Nat.Coprime.pow_right _ ?_
      rw [Nat.coprime_comm]
      have : n.natAbs % 2 = 1 := by omega
      rw [Nat.Coprime, Nat.gcd_rec, this]; decide
    exact Nat.Coprime.gcd_mul_left_cancel_right _ c.symm
  · rfl
theorem tw_odd (a : Int) : tw 0 a % 2 = 1 := by rw [tw_zero]; omega
theorem bd_tw {m j k : Nat} {a : Int} (h : Bd m (tw k a)) (hj : j ≤ k) : Bd m (tw j a) := by
  unfold Bd tw at *
  rw [Int.natAbs_mul, Int.natAbs_pow] at *
  refine Nat.lt_of_le_of_lt (Nat.mul_le_mul_right _ ?_) h
  exact Nat.pow_le_pow_right (by decide) hj
theorem divInt_tw {i j t : Nat} (hi : t ≤ i) (hj : t ≤ j) (a b : Int) : tw i a /. tw j b = tw (i - t) a /. tw (j - t) b := by
  rw [tw_split hi, tw_split hj, Rat.divInt_mul_left (Int.ne_of_gt (Int.pow_pos (by decide)))]
end Fr
namespace Gd
open PySem PySem.Spec PyProof.Rows L2
section
variable {X : Cx} {Γ : List VD} {B B1 B2 B3 B' : Bag} {e a b c : Expr} {es : List Expr} {d da db dc : VD} {pos p pos' apos : Pos} {rest ss s1 s2 : List Stmt} {E : En}
theorem ej_band {i j : Int} (ha : EJ X Γ B a (.da (.int i)) B1) (hb : EJ X Γ B1 b (.da (.int j)) B2) : EJ X Γ B (.BinOp a .BitAnd b pos) (.da (.int (Builtin.bitAnd i j))) B2 :=
  ej_ii ha hb op_and fun _ => .int _
theorem ej_shr {i : Int} {k : Nat} (ha : EJ X Γ B a (.da (.int i)) B1) (hb : EJ X Γ B1 b (.da (.int (k : Int))) B2) : EJ X Γ B (.BinOp a .RShift b pos) (.da (.int (i / 2 ^ k))) B2 :=
  ej_iic ha hb op_shr (Int.natCast_nonneg k) fun _ => .int _
theorem ej_bits {i : Int} (ha : EJ X Γ B a (.da (.int i)) B1) (hbase : attributeBase a "bit_length" X.env (eval a X.env) = eval a X.env := by rfl) (hline : (apos.endLine == pos.line) = true := by rfl) :
    EJ X Γ B (.Call (.Attribute a "bit_length" apos) [] [] pos) (.da (.int (Builtin.Int.intBits i : Nat))) B1 := fun g σ H0 H E O Q q =>
  ⟨_, pe_bits (we a) hbase hline, ha g σ H0 H E O _ fun v H1 H' t o r => ⟨i, rvI r, q _ H1 H' t o (Rp.int _)⟩⟩
end
end Gd
namespace Lw
open PySem PySem.Spec PyProof.Rows L2 Gd Fr
open scoped Rat
inductive R_twos : Rel
  | mk (k : Nat) (a : Int) (B : Bag) : R_twos [.da (.int (tw k a))] B (.int (k : Int)) B
theorem fq_cop {n : Int} {d : Nat} (hd : d ≠ 0) (h : Nat.Coprime n.natAbs d) : fq (n /. (d : Int)) = .tuple [.int n, .int (d : Int)] := by
  have hd' : (d : Int) ≠ 0 := by omega
  have c1 : com n (d : Int) = 1 := by
    unfold com
    rw [if_neg (by omega), Int.natAbs_natCast, h.gcd_eq_one]; rfl
  have e1 := red_num (n := n) hd'
  have e2 := red_den (n := n) hd'
  rw [c1, Int.fdiv_one] at e1 e2
  unfold fq
  rw [← e1, ← e2]
theorem div_eq {n d n' d' : Int} (h : d ≠ 0) (h' : d' ≠ 0) (e : n * d' = n' * d) : n /. d = n' /. d' := (Rat.divInt_eq_divInt_iff h h').mpr e
theorem div_cross {n d : Int} (h : d ≠ 0) : n * ((n /. d).den : Int) = (n /. d).num * d := by
  have := (Rat.divInt_eq_divInt_iff h (den_ne (n /. d))).mp (self_div (n /. d)).symm
  exact this
theorem num_dvd {n d : Int} (h : d ≠ 0) : (n /. d).num.natAbs ∣ n.natAbs := by
  have e := congrArg Int.natAbs (div_cross (n := n) h)
  rw [Int.natAbs_mul, Int.natAbs_mul, Int.natAbs_natCast] at e
  have : (n /. d).num.natAbs ∣ n.natAbs * (n /. d).den := ⟨_, e⟩
  exact Nat.Coprime.dvd_of_dvd_mul_right (n /. d).reduced this
theorem den_dvd {n d : Int} (h : d ≠ 0) : (n /. d).den ∣ d.natAbs := by
  have e := congrArg Int.natAbs (div_cross (n := n) h)
  rw [Int.natAbs_mul, Int.natAbs_mul, Int.natAbs_natCast] at e
  have : (n /. d).den ∣ (n /. d).num.natAbs * d.natAbs := ⟨n.natAbs, by rw [← e, Nat.mul_comm]⟩
  exact Nat.Coprime.dvd_of_dvd_mul_left (n /. d).reduced.symm this
theorem mul_by (x y : Rat) : (.tuple [.int ((x.num /. (y.den : Int)).num * (y.num /. (x.den : Int)).num), .int (((y.num /. (x.den : Int)).den : Int) * ((x.num /. (y.den : Int)).den : Int))] : PyData) = fq (x * y) := by
  have c1 := div_cross (n := x.num) (den_ne y)
  have c2 := div_cross (n := y.num) (den_ne x)
  have d1 := num_dvd (n := x.num) (den_ne y)
  have d2 := den_dvd (n := x.num) (den_ne y)
  have d3 := num_dvd (n := y.num) (den_ne x)
  have d4 := den_dvd (n := y.num) (den_ne x)
  have r1 := (x.num /. (y.den : Int)).reduced
  have r2 := (y.num /. (x.den : Int)).reduced
  have p1 := (x.num /. (y.den : Int)).den_pos
  have p2 := (y.num /. (x.den : Int)).den_pos
  generalize x.num /. (y.den : Int) = u at *
  generalize y.num /. (x.den : Int) = v at *
  rw [Int.natAbs_natCast] at d2 d4
  have k1 : Nat.Coprime u.num.natAbs v.den := (x.reduced.coprime_dvd_left d1).coprime_dvd_right d4
  have k2 : Nat.Coprime v.num.natAbs u.den := (y.reduced.coprime_dvd_left d3).coprime_dvd_right d2
  have k : Nat.Coprime (u.num * v.num).natAbs (v.den * u.den) := by
    rw [Int.natAbs_mul]
    exact Nat.Coprime.mul_left (Nat.Coprime.mul_right k1 r1) (Nat.Coprime.mul_right r2 k2)
  have hne : v.den * u.den ≠ 0 := Nat.ne_of_gt (Nat.mul_pos p2 p1)
  have e := fq_cop hne k
  rw [← Int.natCast_mul, ← e, ← mul_div x y]
  congr 1
  refine div_eq (by omega) (Int.mul_ne_zero (den_ne x) (den_ne y)) ?_
  rw [Int.natCast_mul]
  have : u.num * (y.den : Int) * (v.num * (x.den : Int)) = x.num * (u.den : Int) * (y.num * (v.den : Int)) := by rw [c1, c2]
  grind
def addG (x y : Rat) : Nat := Nat.gcd (x.den : Int).natAbs (y.den : Int).natAbs
def addL (x y : Rat) : Nat := x.den / addG x y
def addR (x y : Rat) : Nat := y.den / addG x y
theorem cop_half {a b : Int} {L R g : Nat} {n : Nat} (h1 : Nat.Coprime a.natAbs (g * L)) (h2 : Nat.Coprime L R) : Nat.Coprime (a * (R : Int) + b * (L : Int)).natAbs L := by
  have d1 := Nat.gcd_dvd_left (a * (R : Int) + b * (L : Int)).natAbs L
  have d2 := Nat.gcd_dvd_right (a * (R : Int) + b * (L : Int)).natAbs L
  unfold Nat.Coprime
  generalize Nat.gcd (a * (R : Int) + b * (L : Int)).natAbs L = k at *
  have i1 : (k : Int) ∣ a * (R : Int) + b * (L : Int) := Int.ofNat_dvd_left.mpr d1
  have i2 : (k : Int) ∣ b * (L : Int) := Int.dvd_trans (Int.natCast_dvd_natCast.mpr d2) (Int.dvd_mul_left _ _)
  have i3 : (k : Int) ∣ a * (R : Int) := by
    have := Int.dvd_sub i1 i2
    rwa [Int.add_sub_cancel] at this
  have d3 : k ∣ a.natAbs * R := by
    have := Int.ofNat_dvd_left.mp i3
    rwa [Int.natAbs_mul, Int.natAbs_natCast] at this
  have d4 : k ∣ a.natAbs := Nat.Coprime.dvd_of_dvd_mul_right (h2.coprime_dvd_left d2) d3
  have d5 : k ∣ g * L := Nat.dvd_trans d2 (Nat.dvd_mul_left _ _)
  exact Nat.dvd_one.mp (h1 ▸ Nat.dvd_gcd d4 d5)
theorem add_by (x y : Rat) {n d m c : Nat} (hx : Qz n d x) (hy : Qz m c y) :
    (0 : Int) < ((Nat.gcd (x.den : Int).natAbs (y.den : Int).natAbs : Nat) : Int) ∧ Bd d ((Nat.gcd (x.den : Int).natAbs (y.den : Int).natAbs : Nat) : Int) ∧ Bd d ((addL x y : Nat) : Int) ∧ Bd c ((addR x y : Nat) : Int) ∧
    (x.den : Int) / ((Nat.gcd (x.den : Int).natAbs (y.den : Int).natAbs : Nat) : Int) = ((addL x y : Nat) : Int) ∧ (y.den : Int) / ((Nat.gcd (x.den : Int).natAbs (y.den : Int).natAbs : Nat) : Int) = ((addR x y : Nat) : Int) ∧
    (.tuple [.int ((x.num * ((addR x y : Nat) : Int) + y.num * ((addL x y : Nat) : Int)) /. ((Nat.gcd (x.den : Int).natAbs (y.den : Int).natAbs : Nat) : Int)).num,
      .int (((addL x y : Nat) : Int) * ((addR x y : Nat) : Int) * (((x.num * ((addR x y : Nat) : Int) + y.num * ((addL x y : Nat) : Int)) /. ((Nat.gcd (x.den : Int).natAbs (y.den : Int).natAbs : Nat) : Int)).den : Int))] : PyData) = fq (x + y) := by
  have hxd := x.den_pos
  have hyd := y.den_pos
  have eG : Nat.gcd (x.den : Int).natAbs (y.den : Int).natAbs = addG x y := rfl
  rw [eG]
  have gd : addG x y = Nat.gcd x.den y.den := by unfold addG; rw [Int.natAbs_natCast, Int.natAbs_natCast]
  have gp : 0 < addG x y := by rw [gd]; exact Nat.gcd_pos_of_pos_left _ hxd
  have gl : addG x y ∣ x.den := by rw [gd]; exact Nat.gcd_dvd_left _ _
  have gr : addG x y ∣ y.den := by rw [gd]; exact Nat.gcd_dvd_right _ _
  have eL : x.den = addG x y * addL x y := (Nat.mul_div_cancel' gl).symm
  have eR : y.den = addG x y * addR x y := (Nat.mul_div_cancel' gr).symm
  have cLR : Nat.Coprime (addL x y) (addR x y) := by
    unfold addL addR; rw [gd]; exact Nat.coprime_div_gcd_div_gcd (Nat.gcd_pos_of_pos_left _ hxd)
  have bx := hx.de
  have by' := hy.de
  have lx : addL x y ≤ x.den := Nat.div_le_self _ _
  have ly : addR x y ≤ y.den := Nat.div_le_self _ _
  have lg : addG x y ≤ x.den := Nat.le_of_dvd hxd gl
  unfold Bd at bx by'
  refine ⟨by omega, by unfold Bd; omega, by unfold Bd; omega, by unfold Bd; omega, ?_, ?_, ?_⟩
  · unfold addL; rw [Int.natCast_ediv]
  · unfold addR; rw [Int.natCast_ediv]
  have hg' : ((addG x y : Nat) : Int) ≠ 0 := by omega
  have c1 := div_cross (n := x.num * ((addR x y : Nat) : Int) + y.num * ((addL x y : Nat) : Int)) hg'
  have d1 := num_dvd (n := x.num * ((addR x y : Nat) : Int) + y.num * ((addL x y : Nat) : Int)) hg'
  have r1 := ((x.num * ((addR x y : Nat) : Int) + y.num * ((addL x y : Nat) : Int)) /. ((addG x y : Nat) : Int)).reduced
  have p1 := ((x.num * ((addR x y : Nat) : Int) + y.num * ((addL x y : Nat) : Int)) /. ((addG x y : Nat) : Int)).den_pos
  have rx := x.reduced
  have ry := y.reduced
  rw [eL] at rx
  rw [eR] at ry
  have k1 := cop_half (a := x.num) (b := y.num) (n := 0) rx cLR
  have k2 := cop_half (a := y.num) (b := x.num) (n := 0) ry cLR.symm
  rw [Int.add_comm] at k2
  have exy := add_div x y
  have hLp : 0 < addL x y := Nat.pos_of_ne_zero fun z => by rw [z, Nat.mul_zero] at eL; omega
  have hRp : 0 < addR x y := Nat.pos_of_ne_zero fun z => by rw [z, Nat.mul_zero] at eR; omega
  have eL' : (x.den : Int) = ((addG x y : Nat) : Int) * ((addL x y : Nat) : Int) := by rw [← Int.natCast_mul, ← eL]
  have eR' : (y.den : Int) = ((addG x y : Nat) : Int) * ((addR x y : Nat) : Int) := by rw [← Int.natCast_mul, ← eR]
  rw [eL', eR'] at exy
  rw [← exy]
  generalize addL x y = L at *
  generalize addR x y = R at *
  generalize addG x y = g at *
  generalize hN : x.num * (R : Int) + y.num * (L : Int) = N at *
  generalize N /. (g : Int) = q at *
  have k : Nat.Coprime q.num.natAbs (L * R * q.den) :=
    Nat.Coprime.mul_right (Nat.Coprime.mul_right (k1.coprime_dvd_left d1) (k2.coprime_dvd_left d1)) r1
  have hne : L * R * q.den ≠ 0 := Nat.ne_of_gt (Nat.mul_pos (Nat.mul_pos hLp hRp) p1)
  have e := fq_cop hne k
  rw [← Int.natCast_mul, ← Int.natCast_mul, ← e]
  congr 1
  refine div_eq (by omega) (Int.mul_ne_zero (Int.mul_ne_zero (by omega) (by omega)) (Int.mul_ne_zero (by omega) (by omega))) ?_
  rw [Int.natCast_mul, Int.natCast_mul]
  have e2 : x.num * ((g : Int) * (R : Int)) + y.num * ((g : Int) * (L : Int)) = (g : Int) * N := by rw [← hN]; grind
  rw [e2]
  have : (g : Int) * N * ((L : Int) * (R : Int) * (q.den : Int)) = (g : Int) * (L : Int) * (R : Int) * (N * (q.den : Int)) := by grind
  rw [this, c1]; grind
theorem qz_inv {n d : Nat} {y : Rat} (h : Qz n d y) (h0 : y ≠ 0) : Qz d n y⁻¹ := by
  have hn := num_ne h0
  refine ⟨?_, ?_⟩
  · rw [Rat.num_inv]
    have := h.de
    unfold Bd at *
    rw [Int.natAbs_mul, Int.natAbs_sign_of_ne_zero hn]; omega
  · rw [Rat.den_inv]
    have := h.nu
    unfold Bd at *
    rw [if_neg hn]; omega
theorem fq_invN {y : Rat} (h : y.num < 0) : (.tuple [.int (-(y.den : Int)), .int (-y.num)] : PyData) = fq y⁻¹ := by
  unfold fq
  rw [Rat.num_inv, Rat.den_inv, if_neg (by omega), Int.sign_eq_neg_one_of_neg h]
  have : ((y.num.natAbs : Nat) : Int) = -y.num := by omega
  rw [this]
  have : -1 * (y.den : Int) = -(y.den : Int) := by omega
  rw [this]
theorem fq_invP {y : Rat} (h0 : y ≠ 0) (h : ¬ y.num < 0) : (.tuple [.int (y.den : Int), .int y.num] : PyData) = fq y⁻¹ := by
  have hn := num_ne h0
  unfold fq
  rw [Rat.num_inv, Rat.den_inv, if_neg hn, Int.sign_eq_one_of_pos (by omega)]
  have : ((y.num.natAbs : Nat) : Int) = y.num := by omega
  rw [this]
  have : 1 * (y.den : Int) = (y.den : Int) := by omega
  rw [this]
end Lw
namespace Gd
open PySem PySem.Spec PyProof.Rows L2
def minL (d : Int) : List Int → Int
  | [] => d
  | n :: ns => ns.foldl min n
def maxL (d : Int) : List Int → Int
  | [] => d
  | n :: ns => ns.foldl max n
section
variable {X : Cx}
end
section
variable {X : Cx} {Γ : List VD} {B B1 B2 B3 B' : Bag} {e a b c : Expr} {es : List Expr} {d da db dc : VD} {pos p pos' apos : Pos} {kp : Pos} {rest ss s1 s2 : List Stmt} {E : En}
end
end Gd
namespace Gd
open PySem PySem.Spec PyProof.Rows L2
section
variable {X : Cx} {Γ : List VD} {B B1 B2 : Bag} {e c elt : Expr} {scope : Scope} {acc : List PyData} {pos pos' : Pos} {rest : List Stmt} {E : En} {d : VD}
end
end Gd
set_option exponentiation.threshold 20000
namespace Lw
open PySem PySem.Spec PyProof.Rows L2 Gd Fr
open scoped Rat
theorem minL_mem (d : Int) : ∀ ns : List Int, (ns ≠ [] → minL d ns ∈ ns) ∧ ∀ i ∈ ns, minL d ns ≤ i := by
  have gen : ∀ (ns : List Int) (a : Int), (ns.foldl min a = a ∨ ns.foldl min a ∈ ns) ∧ ns.foldl min a ≤ a ∧ ∀ i ∈ ns, ns.foldl min a ≤ i := by
    intro ns
    induction ns with
    | nil => intro a; exact ⟨.inl rfl, Int.le_refl _, fun _ h => nomatch h⟩
    | cons n ns ih =>
      intro a
      obtain ⟨h1, h2, h3⟩ := ih (min a n)
      rw [List.foldl_cons]
      refine ⟨?_, by omega, fun i hi => ?_⟩
      · rcases h1 with h1 | h1
        · by_cases c : n < a
          · right; rw [h1]; rw [show min a n = n by omega]; exact List.mem_cons_self
          · left; omega
        · exact .inr (List.mem_cons_of_mem _ h1)
      · rcases List.mem_cons.mp hi with rfl | hi
        · omega
        · exact h3 i hi
  intro ns
  cases ns with
  | nil => exact ⟨fun h => absurd rfl h, fun _ h => nomatch h⟩
  | cons n ns =>
    obtain ⟨h1, h2, h3⟩ := gen ns n
    refine ⟨fun _ => ?_, fun i hi => ?_⟩
    · show ns.foldl min n ∈ n :: ns
      rcases h1 with h1 | h1
      · rw [h1]; exact List.mem_cons_self
      · exact List.mem_cons_of_mem _ h1
    · show ns.foldl min n ≤ i
      rcases List.mem_cons.mp hi with rfl | hi
      · exact h2
      · exact h3 i hi
theorem maxL_mem (d : Int) : ∀ ns : List Int, (ns ≠ [] → maxL d ns ∈ ns) ∧ ∀ i ∈ ns, i ≤ maxL d ns := by
  have gen : ∀ (ns : List Int) (a : Int), (ns.foldl max a = a ∨ ns.foldl max a ∈ ns) ∧ a ≤ ns.foldl max a ∧ ∀ i ∈ ns, i ≤ ns.foldl max a := by
    intro ns
    induction ns with
    | nil => intro a; exact ⟨.inl rfl, Int.le_refl _, fun _ h => nomatch h⟩
    | cons n ns ih =>
      intro a
      obtain ⟨h1, h2, h3⟩ := ih (max a n)
      rw [List.foldl_cons]
      refine ⟨?_, by omega, fun i hi => ?_⟩
      · rcases h1 with h1 | h1
        · by_cases c : a < n
          · right; rw [h1]; rw [show max a n = n by omega]; exact List.mem_cons_self
          · left; omega
        · exact .inr (List.mem_cons_of_mem _ h1)
      · rcases List.mem_cons.mp hi with rfl | hi
        · omega
        · exact h3 i hi
  intro ns
  cases ns with
  | nil => exact ⟨fun h => absurd rfl h, fun _ h => nomatch h⟩
  | cons n ns =>
    obtain ⟨h1, h2, h3⟩ := gen ns n
    refine ⟨fun _ => ?_, fun i hi => ?_⟩
    · show ns.foldl max n ∈ n :: ns
      rcases h1 with h1 | h1
      · rw [h1]; exact List.mem_cons_self
      · exact List.mem_cons_of_mem _ h1
    · show i ≤ ns.foldl max n
      rcases List.mem_cons.mp hi with rfl | hi
      · exact h2
      · exact h3 i hi
end Lw
namespace Gd
open PySem PySem.Spec PyProof.Rows L2
section
variable {P : Program} {w : World} {A : Around} {s : Shared} {E : Value → Shared → Prop}
end
section
variable {X : Cx} {Γ : List VD} {B B1 B2 B' : Bag} {e a b c : Expr} {es : List Expr} {d da db dc : VD} {pos p p' pos' : Pos} {rest ss s1 s2 : List Stmt} {E : En}
end
end Gd
namespace Gd
open PySem PySem.Spec PyProof.Rows L2
section
variable {K : PySem.W.Frag} {H : Hp} {a : Addr} {zs : List V}
end
section
variable {X : Cx} {i : Nat} {Γ : List VD} {B B1 B2 B' : Bag} {acc ds : List PyData} {e e2 a b c : Expr} {es : List Expr} {d da db : VD} {y y2 : PyData} {pos p p1 p2 p3 pos' : Pos} {rest ss s1 s2 : List Stmt} {E : EnO}
end
end Gd
namespace Gd
open PySem PySem.Spec PyProof.Rows L2
abbrev Post := PyData → Bag → Prop
def EX (X : Cx) (Γ : List VD) (B : Bag) (e : Expr) (Φ : Post) : Prop :=
  ∀ g σ H0 H, EnvD X.K g H0 σ Γ → On X.K g B H0 H → ∀ Q : VK,
    (∀ v H0' H' y B', Φ y B' → To g H0 H H0' H' → On X.K g B' H0' H' → Rp X.K H0' v y → Q v H') → WE X e σ H Q
def AX (X : Cx) (Γ : List VD) (B : Bag) (es : List Expr) (Φ : List VD → Bag → Prop) : Prop :=
  ∀ g σ H0 H, EnvD X.K g H0 σ Γ → On X.K g B H0 H → ∀ Q : List V → Hp → Prop,
    (∀ vs H0' H' ds B', Φ ds B' → To g H0 H H0' H' → On X.K g B' H0' H' → RvAll X.K g H0' vs ds → Q vs H') → WA X es σ H Q
def DefSpX (K : PySem.W.Frag) (Pre : List VD → Bag → Prop) (Po : List VD → Bag → Post) : Sp := fun vs H Q _ =>
  ∃ g Γ B H0, RvAll K g H0 vs Γ ∧ On K g B H0 H ∧ Pre Γ B ∧
    ∀ v H0' H' r B', Po Γ B r B' → To g H0 H H0' H' → On K g B' H0' H' → Rp K H0' v r → Q v H'
def CalX (P : Program) (w : World) (K : PySem.W.Frag) (mg : Str → Option Value) (base : Heap) (x : Str) (k : Nat) (Pre : List VD → Bag → Prop) (Po : List VD → Bag → Post) : Prop :=
  ∃ f fd ps, FnG P w K mg base k f fd ps (DefSpX K Pre Po) ∧ mg x = some (.ref f) ∧ PySem.W.keepIn K (.ref f) = true ∧ Binds K fd ps []
theorem calx_at {P : Program} {w : World} {K : PySem.W.Frag} {mg : Str → Option Value} {base : Heap} {x : Str} {st : Stmt} {N ps : List Str} {k : Nat} {Pre : List VD → Bag → Prop} {Po : List VD → Bag → Post}
    (T : At K mg x st ps) (S : FnScope N ps (defScope st)) (len : ∀ Γ B, Pre Γ B → Γ.length = ps.length)
    (body : ∀ (f : Addr) (cdv : Value) (A : Around) (out : List Env) (s : Shared) (H : Hp) (E : XK),
      Gx k (cxOf CX0 P w K mg base N x (defScope st) f cdv A out s H E).nox → ∀ Γ B, Pre Γ B →
      SJ (cxOf CX0 P w K mg base N x (defScope st) f cdv A out s H E).nox (Γ ++ List.replicate (N.length - ps.length) .no) B (defBody st)
        { nx := fun _ B2 => Po Γ B .none B2, rt := fun d B2 => Po Γ B d B2 }) : CalX P w K mg base x (k + 1) Pre Po := by
  obtain ⟨f, fd, F, hm, hb⟩ := T
  have hpl : ps.length ≤ N.length := by
    have := congrArg List.length S.pre
    rw [List.length_take] at this; omega
  refine ⟨f, fd, ps, fnG_of F S ?_ ?_, hm, F.kp, hb⟩
  · rintro vs H Q E ⟨g, Γ, B, H0, a, b, c, d⟩
    rw [a.length]; exact len _ _ c
  · intro cdv A out s H vs Q E G ⟨g, Γ, B, H0, a, b, c, d⟩
    have hl := len _ _ c
    have E0' := start_env (N := N) a (by rw [hl]; exact hpl)
    rw [hl] at E0'
    refine body f cdv A out s H E G Γ B c g _ H0 H E0' b _ ⟨?_, ?_, ?_, ?_⟩
    · intro Γ2 B2 σ H1 H' z t _ o
      exact d _ _ _ _ _ z t o .non
    · intro r2 B2 v H1 H' z t o rv
      exact d _ _ _ _ _ z t o rv
    · intro _ _ _ _ _ z; exact z.elim
    · intro _ _ _ _ _ z; exact z.elim
theorem Cal.x {P : Program} {w : World} {K : PySem.W.Frag} {mg : Str → Option Value} {base : Heap} {x : Str} {k : Nat} {R : Rel} {Pre : List VD → Bag → Prop} {Po : List VD → Bag → Post}
    (c : Cal P w K mg base x k R) (h : ∀ Γ B, Pre Γ B → ∃ r B', R Γ B r B' ∧ Po Γ B r B') : CalX P w K mg base x k Pre Po := by
  obtain ⟨f, fd, ps, F, h1, h2, h3⟩ := c
  have im : ∀ vs H Q E, DefSpX K Pre Po vs H Q E → DefSp K R vs H Q E := by
    rintro vs H Q E ⟨g, Γ, B, H0, a, b, c, d⟩
    obtain ⟨r, B', hR, hP⟩ := h Γ B c
    exact ⟨g, Γ, B, H0, r, B', a, b, hR, fun v H0' H' t o rv => d v H0' H' r B' hP t o rv⟩
  exact ⟨f, fd, ps, ⟨fun vs H Q E q => F.len vs H Q E (im _ _ _ _ q), fun A o s H ar us vs Q E q1 q2 q3 q4 q5 q => F.run A o s H ar us vs Q E q1 q2 q3 q4 q5 (im _ _ _ _ q)⟩, h1, h2, h3⟩
section
variable {X : Cx} {Γ : List VD} {B B1 B2 B' : Bag} {e a b c : Expr} {es : List Expr} {d da db : VD} {y : PyData} {pos p pos' : Pos} {rest ss s1 s2 : List Stmt} {E : En} {Φ : Post} {Ω : List VD → Bag → Prop} {Ψ : Bool → Bag → Prop}
theorem ex_mono {Φ' : Post} (h : EX X Γ B e Φ) (m : ∀ y B', Φ y B' → Φ' y B') : EX X Γ B e Φ' := fun g σ H0 H Ev O Q q => h g σ H0 H Ev O Q fun v H1 H' y B' hy t o r => q v H1 H' y B' (m _ _ hy) t o r
theorem ax_aj {ds : List VD} (h : AJ X Γ B es ds B1) (hΩ : Ω ds B1) : AX X Γ B es Ω := fun g σ H0 H Ev O Q q => h g σ H0 H Ev O Q fun v H1 H' t o r => q v H1 H' ds B1 hΩ t o r
theorem ax_nil (h : Ω [] B) : AX X Γ B [] Ω := fun g σ H0 H _ O Q q => ⟨_, pa_nil, q [] H0 H [] B h To.refl O trivial⟩
theorem ax_cons (h : EX X Γ B e fun y B1 => AX X Γ B1 es fun ds B2 => Ω (.da y :: ds) B2) (hs : starEach (e :: es) X.env = (false, eval e X.env) :: starEach es X.env := by rfl) : AX X Γ B (e :: es) Ω := fun g σ H0 H E O Q q =>
  ⟨_, pa_cons (we e) (wa es) hs, h g σ H0 H E O _ fun v H1 H' y B1 hy t o rv => hy g σ H1 H' (E.mono t.ex) o _ fun vs H2 H'' ds B2 hd t2 o2 rs => q (v :: vs) H2 H'' _ _ hd (t.trans t2) o2 ⟨Rp.mono t2.ex rv, rs⟩⟩
theorem ax_bag (i : Nat) {x : Str} (r : AX X Γ B es fun ds B2 => Ω (.bag :: ds) B2) (h : Γ[i]? = some .bag := by rfl) (hN : X.N[i]? = some x := by rfl)
    (hv : Vis X.env.scope x := by first | exact Or.inl rfl | exact Or.inr (Or.inl rfl) | exact Or.inr (Or.inr rfl))
    (h1 : (x == ("__debug__" : Str)) = false := by decide) (h2 : (x == ("__classdict__" : Str)) = false := by decide)
    (hs : starEach (.Name x pos :: es) X.env = (false, eval (.Name x pos) X.env) :: starEach es X.env := by rfl) : AX X Γ B (.Name x pos :: es) Ω := fun g σ H0 H E O Q q =>
  ⟨_, pa_cons (we (.Name x pos)) (wa es) hs, (ej_bag (B := B) i h hN hv h1 h2) g σ H0 H E O _ fun v H1 H' t o rv => r g σ H1 H' (E.mono t.ex) o _ fun vs H2 H'' ds B2 hd t2 o2 rs => q (v :: vs) H2 H'' _ _ hd (t.trans t2) o2 ⟨rv.mono t2.ex, rs⟩⟩
theorem ex_call {x : Str} {k : Nat} {Pre : List VD → Bag → Prop} {Po : List VD → Bag → Post} (c : CalX X.prog X.w X.K X.mg X.base x k Pre Po) (g : Gx k X) (ha : AX X Γ B (e :: es) fun ds B1 => Pre ds B1 ∧ ∀ r B', Po ds B1 r B' → Φ r B')
    (hg : Gl X x := by rfl) (hdb : (x == ("__debug__" : Str)) = false := by decide) (he : starEach (e :: es) X.env = (false, eval e X.env) :: starEach es X.env := by rfl)
    (hpl : (backTo pos (starEach es X.env)).any (·.1) = false := by rfl) : EX X Γ B (.Call (.Name x p) (e :: es) [] pos) Φ := by
  obtain ⟨f, fd, ps, F, hm, hk, hb⟩ := c
  intro gh σ H0 H E O Q q
  refine ⟨fun σ H Q => WA X (e :: es) σ H fun vs H1 => DefSpX X.K Pre Po vs H1 Q E0, ⟨fun pins s σ H Q I h => ?_⟩, ?_⟩
  · refine wpAny_Call_Name_kw (ld_glob I hg hm ?_ hdb)
    refine PySem.W.callWith_K (h₀ := X.base) I.ok.mod.kin hk (thn ((wa (e :: es)).run pos pins s σ H _ I h) ?_) he hpl
    rintro us s1 ⟨vs, H1, I1, r1, q1⟩
    exact ⟨I1.kIn, runG F g hb I1 r1 q1⟩
  · refine ha gh σ H0 H E O _ fun vs H1 H' ds B1 hd t o rs => ?_
    exact ⟨gh, ds, B1, H1, rs, o, hd.1, fun v H2 H'' r B2 hr t2 o2 rv => q v H2 H'' _ _ (hd.2 _ _ hr) (t.trans t2) o2 rv⟩
theorem sj_setX (i : Nat) {x : Str} (nd : X.N.Nodup) (h : EX X Γ B e fun y B1 => SJ X (Γ.set i (.da y)) B1 rest E) (hi : X.N[i]? = some x := by rfl)
    (hx : Loc X.env.scope x := by first | exact Or.inl rfl | exact Or.inr rfl) (hs : swapsWith e (some (.Name x pos')) pos.line X.env = pure false := by rfl)
    (hf : X.fn x = true ∨ X.env.scope.names.lookup x = some .local := by first | exact Or.inl rfl | exact Or.inr rfl) : SJ X Γ B (.Assign [.Name x pos'] e pos :: rest) E := fun g σ H0 H Ev O D G =>
  ⟨_, pss_cons (ps_set nd hi hx (we e) hs hf) (ws rest), h g σ H0 H Ev O _ fun v H1 H' y B1 k t o r => k g _ H1 H' ((Ev.mono t.ex).set i r) o D (G.on t)⟩
end
section
variable {X : Cx} {i : Nat} {Γ : List VD} {B B1 B2 B' : Bag} {acc ds : List PyData} {e e2 a b c : Expr} {es : List Expr} {d da db : VD} {y y2 : PyData} {pos p p1 p2 p3 pos' : Pos} {rest ss s1 s2 : List Stmt} {E : EnO} {Φ : Post}
end
def RX (X : Cx) (Γ : List VD) (B : Bag) (t : TE) (Φ : Post) : Prop :=
  ∀ g σ H0 H, EnvD X.K g H0 σ Γ → On X.K g B H0 H → ∀ Q : VK, (∀ v H0' H' y B', Φ y B' → To g H0 H H0' H' → On X.K g B' H0' H' → Rp X.K H0' v y → Q v H') → t σ H Q
theorem ex_of {X : Cx} {Γ : List VD} {B : Bag} {e : Expr} {t : TE} {Φ : Post} (h : PE X e t) (r : RX X Γ B t Φ) : EX X Γ B e Φ := fun g σ H0 H E O Q q => ⟨t, h, r g σ H0 H E O Q q⟩
section
variable {X : Cx} {Γ : List VD} {B B1 B2 B' : Bag} {e a : Expr} {elt : Expr} {scope : Scope} {j : Nat} {x : Str} {px : Pos} {ds ys : List PyData} {pos pos' : Pos} {rest : List Stmt} {E : En} {Φ : Post}
theorem lc_turnX {g : Gh} {H1 H' : Hp} {A : Addr} {acc : List PyData} {H'' H2 : Hp} {σ : L2.St} {v : V} {y : PyData} {Nx : Hp → Prop} {Θ : Post} (off : Off g A) (Ev : EnvD X.K g H1 σ Γ) (I : LcI X.K g H1 H' A acc B1 H2 H'') (r : Rp X.K H2 v y)
    (hz : acc.length < 1000) (he : Blk X scope fun Y => EX Y (Γ.set j (.da y)) B1 elt Θ) (k : ∀ z B2 H3 H3', Θ z B2 → LcI X.K g H1 H' A (acc ++ [z]) B2 H3 H3' → Nx H3') :
    gName j v (wipe σ [j]) H'' fun σ2 H2 => wipe σ2 [j] = wipe σ [j] ∧ tYes σ2 H2 fun b H3 => if b = true then WB X scope elt σ2 H3 fun y H4 => ∃ acc, H4 A = some (.lst acc) ∧ acc.length < sizeLine ∧ Nx (upd H4 A (.lst (acc ++ [y]))) else Nx H3 := by
  refine ⟨wipe1, ?_⟩
  unfold tYes
  refine iteT ?_
  intro s hH C cl fp
  refine he s hH C cl fp g _ H2 H'' (wipe_env (Ev.mono I.to.ex) r) I.on _ fun w H3 H3' z B2 hz' t o rw' => ?_
  obtain ⟨zs, h1, h2, J⟩ := lcI_app off I t o rw'
  exact ⟨zs, h1, by rw [h2]; exact small1000 (Nat.le_of_lt hz), k _ _ _ _ hz' J⟩
theorem rx_lcR {n : Nat} (I : Nat → List PyData → Bag → Prop) (ha : AJ X Γ B [a] [.da (.int (n : Int))] B1) (h0 : I 0 [] B1) (hn : n ≤ 1000)
    (hs : ∀ (k : Nat) acc B', k < n → acc.length = k → I k acc B' → Blk X scope fun Y => EX Y (Γ.set j (.da (.int (k : Int)))) B' elt fun z B2 => I (k + 1) (acc ++ [z]) B2)
    (hd : ∀ acc B', acc.length = n → I n acc B' → Φ (.list acc) B') :
    RX X Γ B (tLc (iRng1 (WA X [a])) (gName j) tYes (WB X scope elt) [j]) Φ := fun g σ H0 H Ev O Q q =>
  ha g σ H0 H Ev O _ fun vs H1 H' t o r => by
    obtain ⟨v, rfl, h⟩ := rv1 r
    refine ⟨(n : Int), by rw [rvI h], by omega, by omega, fun A hA => ?_⟩
    obtain ⟨off, I0⟩ := lcI_start o hA
    rw [Int.toNat_natCast]
    refine lc_range (lo := 0) (n := n) (fun i H'' => ∃ H2 acc B', acc.length = i ∧ I i acc B' ∧ LcI X.K g H1 H' A acc B' H2 H'') ⟨_, [], _, rfl, h0, I0⟩ ?_ ?_
    · rintro i H'' hlt ⟨H2, acc, B', hl, hI, J⟩
      rw [Int.zero_add]
      exact lc_turnX off (Ev.mono t.ex) J (Rp.int _) (by omega) (hs i acc B' hlt hl hI) fun z B2 H3 H3' hz J => ⟨H3, _, B2, by rw [List.length_append, List.length_singleton, hl], hz, J⟩
    · rintro H'' ⟨H2, acc, B', hl, hI, J⟩
      obtain ⟨H3, t3, o3, r3⟩ := lcI_end off t J
      exact q _ H3 H'' _ _ (hd acc B' hl hI) t3 o3 r3
theorem ex_lcR {pr pe : Pos} (nd : X.N.Nodup) (hc : X.calm = true) (hm : X.mg "range" = none) (ok : BlkOk X.N X.env.scope scope [(x, j)])
    (hg : ∀ (s : Shared) (H : Hp) (C : Addr) (cl : List (Str × Addr)) (fp : List Addr), PG (X.blk s H scope (compEnvC scope cl C X.env) fp) (.Name x px) (gName j))
    (r : RX X Γ B (tLc (iRng1 (WA X [a])) (gName j) tYes (WB X scope elt) [j]) Φ) (hgl : Gl X "range" := by rfl)
    (hq : ∀ x, foldedSetIterable (.Call (.Name "range" pr) [a] [] pe) X.env x = pure x := by intro _; rfl) (hst : starEach [a] X.env = [(false, eval a X.env)] := by rfl) :
    EX X Γ B (.ListComp elt [⟨.Name x px, .Call (.Name "range" pr) [a] [] pe, [], 0⟩] scope pos) Φ :=
  ex_of (pe_lc (own := [(x, j)]) hc nd (pi_range1 hgl hm (wa [a]) hst) ok hg (fun _ _ _ _ _ => pts_nil) (wb scope elt) hq) r
end
end Gd
namespace Gd
open PySem PySem.Spec PyProof.Rows L2
section
variable {X : Cx} {Γ : List VD} {B B1 B2 B' : Bag} {e a b c : Expr} {es : List Expr} {d da db : VD} {y : PyData} {pos p pos' : Pos} {rest ss s1 s2 : List Stmt} {E : En} {Φ : Post} {Ω : List VD → Bag → Prop} {Ψ : Bool → Bag → Prop}
theorem ex_callTy {x : Str} {T : String} {r : List V → Hp → VK → Prop} (hc : CallR X (.type T) r) (hm : X.mg x = none) (ha : AX X Γ B (e :: es) Ω)
    (hr : ∀ g vs H0 H ds B1, Ω ds B1 → On X.K g B1 H0 H → RvAll X.K g H0 vs ds → ∀ Q : VK, (∀ z H0' H' y B2, Φ y B2 → To g H0 H H0' H' → On X.K g B2 H0' H' → Rp X.K H0' z y → Q z H') → r vs H Q)
    (hv : bootBuiltins x = some (.type T) := by decide +kernel) (hg : Gl X x := by rfl) (hn : x ≠ "__name__" := by decide) (hdb : (x == ("__debug__" : Str)) = false := by decide)
    (hpl : (backTo pos (starEach es X.env)).any (·.1) = false := by rfl) (he : starEach (e :: es) X.env = (false, eval e X.env) :: starEach es X.env := by rfl) :
    EX X Γ B (.Call (.Name x p) (e :: es) [] pos) Φ := fun g σ H0 H E O Q q =>
  ⟨_, pe_callTy hc hg hm hv (wa (e :: es)) hn hdb he hpl, ha g σ H0 H E O _ fun vs H1 H' ds B1 hd t o rs => hr g vs H1 H' ds B1 hd o rs Q fun z H2 H'' y B2 hy t2 o2 rz => q z H2 H'' y B2 hy (t.trans t2) o2 rz⟩
theorem ax_one (h : EX X Γ B e fun y B1 => Ω [.da y] B1) (hs : starEach [e] X.env = [(false, eval e X.env)] := by rfl) : AX X Γ B [e] Ω := ax_cons (ex_mono h fun y B1 hy => ax_nil hy) hs
theorem ex_tupleL (hm : X.mg "tuple" = none) (h : EX X Γ B a fun y B1 => ∃ ds, y = .list ds ∧ Φ (.tuple ds) B1) (hs : starEach [a] X.env = [(false, eval a X.env)] := by rfl) (hg : Gl X "tuple" := by rfl) :
    EX X Γ B (.Call (.Name "tuple" p) [a] [] pos) Φ :=
  ex_callTy (Ω := fun ds B1 => ∃ ls, ds = [.da (.list ls)] ∧ Φ (.tuple ls) B1) call_tuple_of hm (ax_one (ex_mono h fun y B1 ⟨ds, e, k⟩ => ⟨ds, by rw [e], k⟩) hs) (fun g vs H0 H ds B1 hd O r Q q => by
    obtain ⟨ls, rfl, k⟩ := hd
    obtain ⟨v, rfl, h⟩ := rv1 r
    obtain ⟨p, xs, rfl, hx, rs⟩ := rvL h
    refine ⟨p, xs, rfl, .inl ⟨SqL.of (O.ex _ _ hx), fun n hn => ?_⟩⟩
    obtain ⟨t2, o2⟩ := laid (o := .tup xs) O hn
    exact q _ _ _ _ _ k t2 o2 (Rp.tup (SqT.of upd_same) (rs.mono t2.ex))) (hg := hg) (he := hs)
end
end Gd
set_option exponentiation.threshold 20000
namespace Lw
open PySem PySem.Spec PyProof.Rows L2 Gd Fr
open scoped Rat
theorem lay_all {ds : List PyData} (h : ∀ d ∈ ds, d.canLay0 = true) : PyData.canLayAll0 ds = true := by
  induction ds with
  | nil => simp only [PyData.canLayAll0]
  | cons d ds ih => simp only [PyData.canLayAll0, h d List.mem_cons_self, ih fun x hx => h x (List.mem_cons_of_mem _ hx), Bool.and_self]
theorem depth_all {n : Nat} {ds : List PyData} (h : ∀ d ∈ ds, d.depth ≤ n) : PyData.depthAll ds ≤ n := by
  induction ds with
  | nil => exact Nat.zero_le _
  | cons d ds ih =>
    show max d.depth (PyData.depthAll ds) ≤ n
    exact Nat.max_le.mpr ⟨h d List.mem_cons_self, ih fun x hx => h x (List.mem_cons_of_mem _ hx)⟩
def Sh (n : Nat) (d : PyData) : Prop := d.canLay0 = true ∧ d.depth ≤ n
theorem Sh.shaped {n : Nat} {d : PyData} (h : Sh n d) (hn : n ≤ 64 := by decide) : SeqAt.shaped d = true := by
  unfold SeqAt.shaped
  rw [h.1, Bool.true_and, decide_eq_true_eq]
  exact Nat.le_trans h.2 hn
theorem Sh.lst {n : Nat} {ds : List PyData} (h : ∀ d ∈ ds, Sh n d) : Sh (n + 1) (.list ds) :=
  ⟨by simp only [PyData.canLay0]; exact lay_all fun d hd => (h d hd).1, by show PyData.depthAll ds + 1 ≤ n + 1; have := depth_all fun d hd => (h d hd).2; omega⟩
theorem Sh.tup {n : Nat} {ds : List PyData} (h : ∀ d ∈ ds, Sh n d) : Sh (n + 1) (.tuple ds) :=
  ⟨by simp only [PyData.canLay0]; exact lay_all fun d hd => (h d hd).1, by show PyData.depthAll ds + 1 ≤ n + 1; have := depth_all fun d hd => (h d hd).2; omega⟩
theorem Sh.int (i : Int) : Sh 0 (.int i) := ⟨by simp only [PyData.canLay0], Nat.le_refl _⟩
theorem Sh.str {x : Str} (h : PyData.strOk x = true) : Sh 0 (.str x) := ⟨by simp only [PyData.canLay0]; exact h, Nat.le_refl _⟩
theorem Sh.tup1 {n : Nat} {d : PyData} (h : Sh n d) : Sh (n + 1) (.tuple [d]) := Sh.tup fun e he => by rw [List.mem_singleton.mp he]; exact h
theorem Sh.mono {n m : Nat} {d : PyData} (h : Sh n d) (e : n ≤ m) : Sh m d := ⟨h.1, Nat.le_trans h.2 e⟩
theorem sh_va (v : Va) : Sh 1 v.d := by
  cases v with
  | nan => exact Sh.tup1 (Sh.str (by decide +kernel))
  | inf s => exact ⟨by show PyData.canLay0 (.tuple [.str "inf", .int s]) = true; simp only [PyData.canLay0, PyData.canLayAll0, Bool.and_true]; decide +kernel, Nat.le_refl _⟩
  | num s c e => exact ⟨by show PyData.canLay0 (.tuple [.str "num", .int s, .int c, .int e]) = true; simp only [PyData.canLay0, PyData.canLayAll0, Bool.and_true]; decide +kernel, Nat.le_refl _⟩
inductive Te where
  | nan
  | inf (s : Int)
  | x (q : Rat) (s : Int)
def Te.d : Te → PyData
  | .nan => .tuple [.str "nan"]
  | .inf s => .tuple [.str "inf", .int s]
  | .x q s => .tuple [.str "x", fq q, .int s]
def Te.isNan : Te → Bool
  | .nan => true
  | _ => false
def Te.isInf : Te → Bool
  | .inf _ => true
  | _ => false
def Te.sg : Te → Int
  | .nan => 0
  | .inf s => s
  | .x _ s => s
def Te.q : Te → Rat
  | .x q _ => q
  | _ => 0
def has (ns : List Int) (i : Int) : Bool := ns.any fun j => decide (j = i)
end Lw
namespace Lw
open PySem PySem.Spec PyProof.Rows L2 Gd Fr
end Lw
set_option exponentiation.threshold 20000
namespace Lw
open PySem PySem.Spec PyProof.Rows L2 Gd Fr
open scoped Rat
def Pre_f (Γ : List VD) (B : Bag) : Prop := ∃ t : F4, Γ = [.bag, .da t.d] ∧ t.ok ∧ Bok B
theorem F4.inj {t u : F4} (h : t.d = u.d) : t = u := by
  obtain ⟨a, b, c, d⟩ := t
  obtain ⟨a', b', c', d'⟩ := u
  have h : fmP a b c d = fmP a' b' c' d' := h
  unfold fmP at h
  injection h with h
  injection h with h1 h
  injection h with h2 h
  injection h with h3 h
  injection h with h4 h
  injection h1 with h1
  injection h2 with h2
  injection h3 with h3
  injection h4 with h4
  have h1 : a = a' := by omega
  have h2 : b = b' := by omega
  subst h1; subst h2; subst h3; subst h4; rfl
section
variable {b p : Nat} {low high : Int} (F : Fm b p low high)
include F
end
end Lw
namespace Lw
open Gd
end Lw
set_option exponentiation.threshold 20000
namespace Lw
open PySem PySem.Spec PyProof.Rows L2 Gd Fr
open scoped Rat
end Lw
namespace Gd
open PySem PySem.Spec PyProof.Rows L2
section
variable {X : Cx} {Γ : List VD} {B B1 B2 : Bag} {e c elt : Expr} {scope : Scope} {acc : List PyData} {pos pos' : Pos} {rest : List Stmt} {E : En} {d : VD}
end
end Gd
set_option exponentiation.threshold 20000
namespace Lw
open PySem PySem.Spec PyProof.Rows L2 Gd Fr
open scoped Rat
end Lw
namespace Lw
open PySem PySem.Spec PyProof.Rows L2 Gd Fr
open scoped Rat
end Lw
namespace Gd
open PySem PySem.Spec PyProof.Rows L2
section
variable {X : Cx} {Γ : List VD} {B B1 B2 : Bag} {e c elt : Expr} {scope : Scope} {acc : List PyData} {pos pos' : Pos} {rest : List Stmt} {E : En} {d : VD} {Φ : Post}
end
end Gd
set_option exponentiation.threshold 20000
namespace Lw
open PySem PySem.Spec PyProof.Rows L2 Gd Fr
open scoped Rat
end Lw
set_option exponentiation.threshold 20000
namespace Lw
open PySem PySem.Spec PyProof.Rows L2 Gd Fr
open scoped Rat
def Te.opp : Te → Te
  | .nan => .nan
  | .inf s => .inf (1 - s)
  | .x q s => .x (-q) (1 - s)
theorem opp_nan (v : Va) : v.opp.isNan = v.isNan := by cases v <;> rfl
def Fl (fl : List Str) : Prop := fl = [] ∨ fl = (["invalid"] : List Str) ∨ fl = (["inexact", "over"] : List Str) ∨ fl = (["inexact", "tiny"] : List Str) ∨ fl = (["inexact"] : List Str)
theorem Fl.sh {fl : List Str} (h : Fl fl) : SeqAt.shaped (words fl) = true := by
  rcases h with rfl | rfl | rfl | rfl | rfl <;> decide +kernel
theorem Fl.eqv {fl : List Str} (h : Fl fl) : PyData.eqv (words fl) (.tuple []) = decide (fl = []) := by
  rcases h with rfl | rfl | rfl | rfl | rfl <;> rfl
end Lw
namespace Gd
open PySem PySem.Spec PyProof.Rows L2
section
variable {prog : Program} {w : World} {A : Around} {E : Value → Shared → Prop} {s : Shared}
end
section
variable {X : Cx} {Γ : List VD} {B B1 B2 : Bag} {a b c e : Expr} {pos p pos' : Pos} {rest s1 : List Stmt} {E : En}
end
end Gd
namespace Gd
open PySem PySem.Spec PyProof.Rows L2
section
variable {X : Cx} {Γ : List VD} {B B1 B2 B3 B' : Bag} {e a b c : Expr} {es : List Expr} {d da db dc : VD} {pos p pos' apos p1 p2 p3 : Pos} {rest ss s1 s2 : List Stmt} {E : En}
end
end Gd
set_option exponentiation.threshold 20000
namespace Lw
open PySem PySem.Spec PyProof.Rows L2 Gd Fr
open scoped Rat
inductive Sp where
  | none
  | span (u v : Va)
def Sp.d : Sp → PyData
  | .none => .tuple [.str "none"]
  | .span u v => .tuple [.str "span", u.d, v.d]
def Sp.ok (b p : Nat) (low high : Int) : Sp → Prop
  | .none => True
  | .span u v => (Vcan b p low high u ∧ u.isNan = false) ∧ Vcan b p low high v ∧ v.isNan = false
def noneP : PyData := .tuple [.str "none"]
def Sp.isN : Sp → Bool
  | .none => true
  | _ => false
theorem sp_none (s : Sp) : PyData.eqv s.d noneP = s.isN := by cases s <;> rfl
theorem sh_sp (s : Sp) : Sh 2 s.d := by
  cases s with
  | none => exact (Sh.tup1 (Sh.str (by decide +kernel))).mono (by decide)
  | span u v =>
    refine Sh.tup fun d hd => ?_
    rcases List.mem_cons.mp hd with rfl | hd
    · exact (Sh.str (by decide +kernel)).mono (by decide)
    · rcases List.mem_cons.mp hd with rfl | hd
      · exact sh_va u
      · rw [List.mem_singleton.mp hd]; exact sh_va v
def apI (b p : Nat) (low high : Int) : Sp → Int
  | .none => 0
  | .span u v => rkI b p low high v - rkI b p low high u
theorem atV_ok {b p : Nat} {low high : Int} (F : Fm b p low high) {r : Int} (h0 : -mostI b p low high ≤ r) (h1 : r ≤ mostI b p low high) : ∃ v, atV b p low high r = some v ∧ Vcan b p low high v ∧ v.isNan = false := by
  have ha : 0 ≤ absI r ∧ absI r ≤ mostI b p low high := by unfold absI; split <;> omega
  obtain ⟨v, e, hc, hn, _⟩ := at_some F ha.1 ha.2
  unfold atV
  rw [e]
  by_cases hr : r < 0
  · exact ⟨v.opp, by rw [Option.map_some, if_pos hr], hc.opp, by rw [opp_nan]; exact hn⟩
  · exact ⟨v, by rw [Option.map_some, if_neg hr], hc, hn⟩
theorem ranked_at {b p : Nat} {low high : Int} (F : Fm b p low high) {r : Int} (h0 : 0 ≤ r) (h1 : r ≤ mostI b p low high) :
    atU b p low high r = if r = mostI b p low high then some (.inf 0) else if r < ((b ^ p : Nat) : Int) then some (.num 0 r low)
      else some (.num 0 (((b ^ (p - 1) : Nat) : Int) + (r - ((b ^ p : Nat) : Int)) - (r - ((b ^ p : Nat) : Int)) / fmI b p * fmI b p) (low + 1 + (r - ((b ^ p : Nat) : Int)) / fmI b p)) := by
  have R := F.rkf
  by_cases e : r = mostI b p low high
  · rw [if_pos e, e]; exact at_inf F
  rw [if_neg e]
  unfold atU
  dsimp only
  have fl := R.fl; have f1 := R.f1; have lh := R.lh; have l2 := R.l2
  by_cases h2 : r < ((b ^ p : Nat) : Int)
  · have hk : (r - ((b ^ (p - 1) : Nat) : Int)) / fmI b p ≤ 0 := by
      have := Int.ediv_lt_of_lt_mul (a := r - ((b ^ (p - 1) : Nat) : Int)) (b := 1) (c := fmI b p) (by omega) (by omega)
      omega
    rw [if_pos h2, Int.max_eq_left hk, if_pos (by omega), Int.zero_mul, Int.sub_zero, Int.add_zero]
  · have hk : (r - ((b ^ (p - 1) : Nat) : Int)) / fmI b p = 1 + (r - ((b ^ p : Nat) : Int)) / fmI b p := by
      have e1 : r - ((b ^ (p - 1) : Nat) : Int) = (r - ((b ^ p : Nat) : Int)) + 1 * fmI b p := by omega
      rw [e1, Int.add_mul_ediv_right _ _ (by omega)]; omega
    have hq0 : 0 ≤ (r - ((b ^ p : Nat) : Int)) / fmI b p := Int.ediv_nonneg (by omega) (by omega)
    have hlt : (r - ((b ^ p : Nat) : Int)) / fmI b p < high - low := by
      refine Int.ediv_lt_of_lt_mul (by omega) ?_
      unfold mostI at e h1
      omega
    rw [if_neg h2, hk]
    generalize (r - ((b ^ p : Nat) : Int)) / fmI b p = k at *
    rw [Int.max_eq_right (by omega), if_pos (by omega), Int.add_mul, Int.one_mul]
    congr 2
    · omega
    · omega
inductive Wd (b p : Nat) (low high : Int) (L : List Sp) : PyData → Prop
  | none (h : ∀ s ∈ L, apI b p low high s < 2) : Wd b p low high L .none
  | some (i : Nat) (x : Sp) (hi : L[i]? = .some x) (h2 : 2 ≤ apI b p low high x) (h3 : ∀ s ∈ L, apI b p low high s ≤ apI b p low high x) (h4 : ∀ j y, j < i → L[j]? = .some y → apI b p low high y < apI b p low high x) : Wd b p low high L (.int (i : Nat))
theorem Wd.one {b p : Nat} {low high : Int} {L : List Sp} {d e : PyData} (h : Wd b p low high L d) (h' : Wd b p low high L e) : d = e := by
  cases h with
  | none h =>
    cases h' with
    | none _ => rfl
    | some i x hi h2 _ _ => have := h x (List.mem_of_getElem? hi); omega
  | some i x hi h2 h3 h4 =>
    cases h' with
    | none h => have := h x (List.mem_of_getElem? hi); omega
    | some j y hj g2 g3 g4 =>
      have a1 := h3 y (List.mem_of_getElem? hj)
      have a2 := g3 x (List.mem_of_getElem? hi)
      rcases Nat.lt_trichotomy i j with z | z | z
      · have := g4 i x z hi; omega
      · rw [z]
      · have := h4 j y z hj; omega
noncomputable def wdP (b p : Nat) (low high : Int) (L : List Sp) : PyData := by
  classical exact if h : ∃ d, Wd b p low high L d then h.choose else .none
theorem Wd.is {b p : Nat} {low high : Int} {L : List Sp} {d : PyData} (h : Wd b p low high L d) : wdP b p low high L = d := by
  have hx : ∃ d, Wd b p low high L d := ⟨d, h⟩
  unfold wdP
  rw [dif_pos hx]
  exact hx.choose_spec.one h
inductive R_lranked : Rel
  | mk (b p : Nat) (low high r : Int) (B : Bag) (F : Fm b p low high) (h0 : -mostI b p low high ≤ r) (h1 : r ≤ mostI b p low high) : R_lranked [.da (fmP b p low high), .da (.int r)] B (optD (atV b p low high r)) B
inductive R_placed : Rel
  | mk (s c e : Int) (B : Bag) : R_placed [.da (Va.num s c e).d] B (Va.num (if c = 0 then 0 else s) c e).d B
theorem sh_noneP : SeqAt.shaped noneP = true := (sh_sp .none).shaped
theorem pick_ex {α : Type} (xs : List α) (f : α → PyData) (B : Bag) (h : 0 < xs.length) : ∃ x ∈ xs, pick (xs.map f) B = f x := by
  have h0 := tkV_ge B (m := (xs.map f).length) (by rw [List.length_map]; omega)
  have h1 := tkV_lt B (m := (xs.map f).length) (by rw [List.length_map]; omega)
  have hlt : (tkV B (xs.map f).length).toNat < xs.length := by rw [List.length_map] at h1 ⊢; rw [List.length_map] at h0; omega
  refine ⟨xs[(tkV B (xs.map f).length).toNat], List.getElem_mem hlt, ?_⟩
  unfold pick
  rw [List.getD_eq_getElem?_getD, List.getElem?_map, List.getElem?_eq_getElem hlt]
  rfl
end Lw
namespace PySem
theorem runs_det {M : Model} {Γ : Ctx} {p : Pos} {t : Sem Fin} {fs : List Frame} {s s' : Shared} {e : End} (h : Runs M Γ p t fs s e s') : ∀ {e2 s2}, Runs M Γ p t fs s e2 s2 → e = e2 ∧ s' = s2 := by
  induction h with
  | done => intro e2 s2 h2; cases h2; exact ⟨rfl, rfl⟩
  | raise => intro e2 s2 h2; cases h2; exact ⟨rfl, rfl⟩
  | yield => intro e2 s2 h2; cases h2; exact ⟨rfl, rfl⟩
  | again _ _ ih => intro e2 s2 h2; cases h2 with | again _ r => exact ih r
  | load ho _ ih => intro e2 s2 h2; cases h2 with | load ho2 r => rw [ho] at ho2; cases ho2; exact ih r
  | update _ _ ih => intro e2 s2 h2; cases h2 with | update _ r => exact ih r
  | choose _ _ ih => intro e2 s2 h2; cases h2 with | choose _ r => exact ih r
  | genState hg _ ih => intro e2 s2 h2; cases h2 with | genState hg2 r => rw [hg] at hg2; cases hg2; exact ih r
  | rule _ ih => intro e2 s2 h2; cases h2 with | rule r => exact ih r
  | «at» _ ih => intro e2 s2 h2; cases h2 with | «at» r => exact ih r
  | loadIfAlive _ ih => intro e2 s2 h2; cases h2 with | loadIfAlive r => exact ih r
  | point _ ih => intro e2 s2 h2; cases h2 with | point r => exact ih r
  | alloc _ ih => intro e2 s2 h2; cases h2 with | alloc r => exact ih r
  | fresh _ ih => intro e2 s2 h2; cases h2 with | fresh r => exact ih r
  | ask _ ih => intro e2 s2 h2; cases h2 with | ask r => exact ih r
  | os _ ih => intro e2 s2 h2; cases h2 with | os r => exact ih r
  | handled _ ih => intro e2 s2 h2; cases h2 with | handled r => exact ih r
  | stack _ ih => intro e2 s2 h2; cases h2 with | stack r => exact ih r
  | thread _ ih => intro e2 s2 h2; cases h2 with | thread r => exact ih r
  | newGen _ ih => intro e2 s2 h2; cases h2 with | newGen r => exact ih r
  | call _ _ ih1 ih2 =>
    intro e2 s2 h2
    cases h2 with
    | call r1 r2 => obtain ⟨e1, e2⟩ := ih1 r1; cases e1; subst e2; exact ih2 r2
    | callSusp r1 => obtain ⟨e1, _⟩ := ih1 r1; cases e1
  | callSusp _ ih1 =>
    intro e2 s2 h2
    cases h2 with
    | call r1 r2 => obtain ⟨e1, _⟩ := ih1 r1; cases e1
    | callSusp r1 => obtain ⟨e1, e2⟩ := ih1 r1; cases e1; subst e2; exact ⟨rfl, rfl⟩
  | resumeFresh hg _ _ _ ih1 ih2 =>
    intro e2 s2 h2
    cases h2 with
    | resumeFresh hg2 r1 _ r2 => rw [hg] at hg2; cases hg2; obtain ⟨e1, e2⟩ := ih1 r1; subst e1; subst e2; exact ih2 r2
    | resumeSuspended hg2 r1 _ r2 => rw [hg] at hg2; cases hg2
    | resumeJustStarted hg2 hv r => exact absurd rfl hv
    | resumeRunning hg2 r => rw [hg] at hg2; cases hg2
    | resumeFinished hg2 r => rw [hg] at hg2; cases hg2
  | resumeSuspended hg _ _ _ ih1 ih2 =>
    intro e2 s2 h2
    cases h2 with
    | resumeFresh hg2 r1 _ r2 => rw [hg] at hg2; cases hg2
    | resumeSuspended hg2 r1 _ r2 => rw [hg] at hg2; cases hg2; obtain ⟨e1, e2⟩ := ih1 r1; subst e1; subst e2; exact ih2 r2
    | resumeJustStarted hg2 hv r => rw [hg] at hg2; cases hg2
    | resumeThrowFresh hg2 r => rw [hg] at hg2; cases hg2
    | resumeRunning hg2 r => rw [hg] at hg2; cases hg2
    | resumeFinished hg2 r => rw [hg] at hg2; cases hg2
  | resumeJustStarted hg hv _ ih =>
    intro e2 s2 h2
    cases h2 with
    | resumeFresh hg2 r1 _ r2 => exact absurd rfl hv
    | resumeSuspended hg2 r1 _ r2 => rw [hg] at hg2; cases hg2
    | resumeJustStarted hg2 hv2 r => exact ih r
    | resumeRunning hg2 r => rw [hg] at hg2; cases hg2
    | resumeFinished hg2 r => rw [hg] at hg2; cases hg2
  | resumeThrowFresh hg _ ih =>
    intro e2 s2 h2
    cases h2 with
    | resumeSuspended hg2 r1 _ r2 => rw [hg] at hg2; cases hg2
    | resumeThrowFresh hg2 r => exact ih r
    | resumeRunning hg2 r => rw [hg] at hg2; cases hg2
    | resumeFinished hg2 r => rw [hg] at hg2; cases hg2
  | resumeRunning hg _ ih =>
    intro e2 s2 h2
    cases h2 with
    | resumeFresh hg2 r1 _ r2 => rw [hg] at hg2; cases hg2
    | resumeSuspended hg2 r1 _ r2 => rw [hg] at hg2; cases hg2
    | resumeJustStarted hg2 hv2 r => rw [hg] at hg2; cases hg2
    | resumeThrowFresh hg2 r => rw [hg] at hg2; cases hg2
    | resumeRunning hg2 r => exact ih r
    | resumeFinished hg2 r => rw [hg] at hg2; cases hg2
  | resumeFinished hg _ ih =>
    intro e2 s2 h2
    cases h2 with
    | resumeFresh hg2 r1 _ r2 => rw [hg] at hg2; cases hg2
    | resumeSuspended hg2 r1 _ r2 => rw [hg] at hg2; cases hg2
    | resumeJustStarted hg2 hv2 r => rw [hg] at hg2; cases hg2
    | resumeThrowFresh hg2 r => rw [hg] at hg2; cases hg2
    | resumeRunning hg2 r => rw [hg] at hg2; cases hg2
    | resumeFinished hg2 r => exact ih r
  | segRet _ _ ih1 ih2 =>
    intro e2 s2 h2
    cases h2 with
    | segRet r1 r2 => obtain ⟨e1, e2⟩ := ih1 r1; cases e1; subst e2; exact ih2 r2
    | segSuspOut hn r1 => obtain ⟨e1, _⟩ := ih1 r1; cases e1
    | segSuspGen hn r1 hq r2 => obtain ⟨e1, _⟩ := ih1 r1; cases e1
  | segGen _ _ ih1 ih2 =>
    intro e2 s2 h2
    cases h2 with
    | segGen r1 r2 => obtain ⟨e1, e2⟩ := ih1 r1; cases e1; subst e2; exact ih2 r2
    | segSuspOut hn r1 => obtain ⟨e1, _⟩ := ih1 r1; cases e1
    | segSuspGen hn r1 hq r2 => obtain ⟨e1, _⟩ := ih1 r1; cases e1
  | segSuspOut hn _ ih1 =>
    intro e2 s2 h2
    cases h2 with
    | segRet r1 r2 => obtain ⟨e1, _⟩ := ih1 r1; cases e1
    | segGen r1 r2 => obtain ⟨e1, _⟩ := ih1 r1; cases e1
    | segSuspOut hn2 r1 => obtain ⟨e1, e2⟩ := ih1 r1; cases e1; subst e2; exact ⟨rfl, rfl⟩
    | segSuspGen hn2 r1 hq r2 => rw [hn] at hn2; cases hn2
  | segSuspGen hn _ hq _ ih1 ih2 =>
    intro e2 s2 h2
    cases h2 with
    | segRet r1 r2 => obtain ⟨e1, _⟩ := ih1 r1; cases e1
    | segGen r1 r2 => obtain ⟨e1, _⟩ := ih1 r1; cases e1
    | segSuspOut hn2 r1 => rw [hn] at hn2; cases hn2
    | segSuspGen hn2 r1 hq2 r2 => rw [hn] at hn2; cases hn2; obtain ⟨e1, e2⟩ := ih1 r1; cases e1; subst e2; exact ih2 r2
theorem codeAny_all {ι : Type} {M : Model} {A : Around} {c : Code} {R : ι → Result → Shared → Prop} {s : Shared} (i0 : ι) (h : ∀ i, codeAny M A c (R i) s) : codeAny M A c (fun r s' => ∀ i, R i r s') s := fun Γ p hc hb => by
  obtain ⟨r, s', h1, h2⟩ := h i0 Γ p hc hb
  refine ⟨r, s', h1, fun i => ?_⟩
  obtain ⟨r2, s2, g1, g2⟩ := h i Γ p hc hb
  obtain ⟨e1, e2⟩ := runs_det h1 g1
  cases e1
  subst e2
  exact g2
end PySem
namespace Gd
open PySem PySem.Spec PyProof.Rows L2
theorem inv_moved {X : Cx} {pins : List (Addr × Obj)} {σ : L2.St} {H : Hp} {s s' : Shared} {ch : List Addr} (I : Inv X pins σ H s) (hf : ∀ b ∈ ch, FpOk X pins H b) (hm : Moved ch (fun a b => b = a) s s') : Inv X pins σ H s' := by
  rw [Moved.eq_with hm]
  have k := hm.heap
  have nit : ∀ b u, H b = some u → b ∉ ch := fun b u e z => by
    have q := (hf b z).1
    rw [q] at e; cases e
  refine I.step (g' := s.gens) (d' := s.drawn) (ch := ch) (fun b hb => ⟨(hf b hb).2.2.2.1, (hf b hb).2.1, (hf b hb).2.2.2.2.1, (hf b hb).2.2.2.2.2⟩) (fun b o _ _ hc e _ => k b o hc e) (fun b o _ _ hc e _ => ⟨o.slots, k b o hc e⟩)
    (fun _ _ _ _ n => n) (fun b o hc e => ⟨o, k b o hc e⟩) (fun _ _ e => e) (fun _ _ _ e => e) (fun b ps e => ⟨#[], by rw [e]; simp⟩) (fun m hm2 => ?_) (fun b u e => ?_) I.bare
  · obtain ⟨o, es, ep, ho, r⟩ := hm2
    exact ⟨o, es, ep, k _ o (fun z => (hf _ z).2.1 rfl) ho, r⟩
  · refine (I.hok b u e).stay (fun c v hc q => k c v ?_ q) (fun _ q => q) fun _ _ q => q
    rcases hc with z | z
    · rw [z]; exact nit b u e
    · exact nit c _ z
end Gd
namespace Gd
open PySem PySem.Spec PyProof.Rows L2
theorem walks_tupV {prog : Program} {w : World} {A : Around} (hh : A.handled = none) (it t : Addr) (hne : t ≠ it) (xs : List V) :
    Walks prog w A it [it, t] [it] xs.length (fun i v => ∃ x, xs[i]? = some x ∧ RelV x v) (fun i h => h.IsTupleIter it t i ∧ ∃ vs : List Value, h.IsTuple t vs.toArray ∧ Vals xs vs) where
  sub := fun b hb => by simp at hb; simp [hb]
  frame := fun _ _ _ st hk => ⟨st.1.at fun o e => hk it (by simp) o e, let ⟨vs, h2, hv⟩ := st.2; ⟨vs, h2.at fun o e => hk t (by simp) o e, hv⟩⟩
  item := fun i s Q E hi st hQ => by
    obtain ⟨h1, vs, h2, hv⟩ := st
    have hx : xs[i]? = some xs[i] := List.getElem?_eq_getElem hi
    obtain ⟨u, hu, ru⟩ := hv.get hx
    refine wpAny_pyNext_tuple_item h1 h2 (x := u) (by simpa using hu) fun h' hit' hs' => ?_
    exact hQ _ h' s.toks ⟨_, hx, ru⟩ ⟨hit', vs, h2.extBut hs'.extBut hne, hv⟩ fun b o hb e => hs'.extBut b o (fun h => hb (by simp [h])) e
  done := fun s Q E st hQ => by
    obtain ⟨h1, vs, h2, hv⟩ := st
    have hl := hv.length
    exact wpAny_pyNext_tuple_end hh h1 h2 (by simp; omega) fun h' he' => hQ h' s.toks fun b o hb e => he' b o (fun h => hb (by simp [h])) e
  self := fun _ _ _ _ st hQ => wpAny_pyIter_tupleiter st.1 hQ
structure Good (X : Cx) (pins : List (Addr × Obj)) (σ : L2.St) (g : Gh) (B : Bag) (H0 H : Hp) (it S : Addr) (s : Shared) (Z : Hp × Hp) : Prop where
  inv : Inv X pins σ Z.2 s
  to : To g H0 H Z.1 Z.2
  on : On X.K g B Z.1 Z.2
  ni : Z.2 it = none
  ns : Z.2 S = none
theorem key_turn {X : Cx} {pins : List (Addr × Obj)} {σ : L2.St} {g : Gh} {B : Bag} {H0 H : Hp} {it S f : Addr} {s : Shared} {fd : FuncData} {ps : List Str} {R : Rel} {k : Nat} {x : V} {v : Value} {d kd : PyData} {o oi : Obj} {Q E : Value → Shared → Prop}
    (F : FnG X.prog X.w X.K X.mg X.base k f fd ps (DefSp X.K R)) (gx : Gx (k + 1) X) (hb : Binds X.K fd ps []) (hx : Rp X.K H0 x d) (hR : R [.da d] B kd B) (rv : RelV x v)
    (fs : S ∉ X.fs ∧ S ≠ X.env.locals) (fi : it ∉ X.fs ∧ it ≠ X.env.locals) (hJ : ∃ Z, Good X pins σ g B H0 H it S s Z) (hS : s.heap.get? S = some o) (hI : s.heap.get? it = some oi)
    (hQ : ∀ u s', s'.heap.get? S = some o → s'.heap.get? it = some oi → (∀ Z, Good X pins σ g B H0 H it S s Z → ∃ Z' z, Good X pins σ g B H0 H it S s' Z' ∧ To g Z.1 Z.2 Z'.1 Z'.2 ∧ RelV z u ∧ Rp X.K Z'.1 z kd) → Q u s') :
    wpAny (model X.prog X.w) X.A.in1 (call (.ref f) [v]) Q E s := by
  obtain ⟨Z0, G0⟩ := hJ
  have cc : ∀ Z : {Z // Good X pins σ g B H0 H it S s Z}, codeAny (model X.prog X.w) X.A.in1 (.call (.ref f) ⟨[v], []⟩) (fun r s' => ∃ u, r = .ok (.ret u) ∧ s'.heap.get? S = some o ∧ s'.heap.get? it = some oi ∧
      ∃ Z' z, Good X pins σ g B H0 H it S s' Z' ∧ To g Z.1.1 Z.1.2 Z'.1 Z'.2 ∧ RelV z u ∧ Rp X.K Z'.1 z kd) s := fun ⟨Z, G⟩ => by
    have I := G.inv
    have hsp : DefSp X.K R [x] Z.2 (fun z H' => ∃ H0', To g Z.1 Z.2 H0' H' ∧ On X.K g B H0' H' ∧ Rp X.K H0' z kd) E0 :=
      ⟨g, [.da d], B, Z.1, kd, B, ⟨hx.mono G.to.ex, trivial⟩, G.on, hR, fun z H0' H' t o' r => ⟨H0', t, o', r⟩⟩
    have e : [v].length = ps.length := by have := F.len _ _ _ _ hsp; simpa using this
    have hz := hb s [v] I.kIn (by rw [List.append_nil]; exact e)
    rw [List.append_nil] at hz
    have cc := F.run X.A.in1 X.stack s Z.2 ⟨[v], []⟩ [v] [x] _ E0 gx.gd gx.rm.in1 I.env0.in1 hz (.cons rv .nil) hsp
    refine codeAny_mono cc fun res s2 q => ?_
    match res, q with
    | .ok (.ret u), q =>
      have q2 := q
      obtain ⟨z, H', os, bare, un, hok, r, H0', t, o', rz⟩ := q
      obtain ⟨hh, gg, dd, tt, os'⟩ := s2
      obtain rfl : os' = s.os := os
      have I2 : Inv X pins σ H' ⟨hh, gg, dd, tt, s.os⟩ := I.call (h' := hh) (g' := gg) (d' := dd) (t' := tt) (ch := []) un hok bare (fun b z => absurd z (by simp))
      have nf : ∀ b, b ∉ X.fs → b ≠ X.env.locals → b ∉ frs X.stack := fun b h1 h2 h3 => by
        rcases List.mem_cons.mp (I.stkSub b h3) with z | z
        · exact h2 z
        · exact h1 z
      exact ⟨u, rfl, un.keep S o hS G.ns (nf S fs.1 fs.2) (by simp), un.keep it oi hI G.ni (nf it fi.1 fi.2) (by simp), (H0', H'), z, ⟨I2, G.to.trans t, o', un.free it oi hI G.ni (by simp), un.free S o hS G.ns (by simp)⟩, t, r, rz⟩
    | .ok .next, q => exact q.elim
    | .ok .brk, q => exact q.elim
    | .ok .cont, q => exact q.elim
    | .error _, q => exact q.elim
  refine wpAny_call (codeAny_mono (codeAny_all ⟨Z0, G0⟩ cc) fun res s2 q => ?_)
  obtain ⟨u, rfl, h1, h2, _⟩ := q ⟨Z0, G0⟩
  refine hQ u s2 h1 h2 fun Z G => ?_
  obtain ⟨u2, e, _, _, Z', z, h3, h4, h5, h6⟩ := q ⟨Z, G⟩
  cases e
  exact ⟨Z', z, h3, h4, h5, h6⟩
end Gd
namespace Gd
open PySem PySem.Spec PyProof.Rows L2
def rMinK (X : Cx) : List V → List V → Hp → VK → Prop := fun vs zs H Q =>
  ∃ (t f : Addr) (x y : V) (fd : FuncData) (ps : List Str) (R : Rel) (k : Nat) (g : Gh) (B : Bag) (H0 : Hp) (d1 d2 k1 k2 : PyData),
    vs = [.ref t] ∧ zs = [.ref f] ∧ SqT X.K H0 t [x, y] ∧ FnG X.prog X.w X.K X.mg X.base k f fd ps (DefSp X.K R) ∧ Gx (k + 1) X ∧ Binds X.K fd ps [] ∧ On X.K g B H0 H ∧ Rp X.K H0 x d1 ∧ Rp X.K H0 y d2 ∧
    R [.da d1] B k1 B ∧ R [.da d2] B k2 B ∧ (∀ a ∈ [k1, k2], ∀ b ∈ [k1, k2], PySem.W.alike a b = true) ∧ (∀ a ∈ [k1, k2], a ≠ .none ∧ a.depth ≤ 8) ∧
    ∀ H0' H', To g H0 H H0' H' → On X.K g B H0' H' → Q (if PySem.W.dataLt k2 k1 = true then y else x) H'
theorem cr_min2K {X : Cx} (hc : X.calm = true) : CallRK X (.builtin "min") [Str.ofString "key"] (rMinK X) := by
  intro pins s σ H vs zs us ws Q I r rz h
  obtain ⟨t, f, x, y, fd, ps, R, k, g, B, H0, d1, d2, k1, k2, rfl, rfl, ht, F, gx, hb, O, r1, r2, R1, R2, al, kn, q⟩ := h
  obtain rfl := Vals.ref1 r
  obtain rfl := Vals.ref1 rz
  obtain ⟨its, rv, p, hz⟩ := I.tuple (seqT O.ex ht)
  have p' : s.heap.IsTuple t its.toArray := p
  have hlt : t < s.heap.objs.size := by obtain ⟨_, e, _⟩ := p'; exact Heap.lt_size e
  show wpAny _ _ (call (.builtin "min") [.ref t] [(Str.ofString "key", .ref f)]) _ _ _
  refine call_min_walkK (wpAny_pyIter_tuple p' ?_)
  obtain ⟨it, hit⟩ : ∃ it, s.heap.objs.size = it := ⟨_, rfl⟩
  rw [hit] at hlt ⊢
  generalize hs2 : ({ s with heap := s.heap.push { cls := .type "tuple_iterator", data := .fields #[.ref t, .int 0 0] } } : Shared) = s2
  have hk2 : ∀ b o, s.heap.get? b = some o → s2.heap.get? b = some o := fun b o e => by rw [← hs2]; exact Heap.get?_push_of_some _ e
  have I2 : Inv X pins σ H s2 := by rw [← hs2]; exact I.kept (t' := s.toks) fun b o e => Heap.get?_push_of_some _ e
  have hsz : s2.heap.objs.size = it + 1 := by rw [← hs2, ← hit]; exact Heap.size_push ..
  have hI : s2.heap.IsTupleIter it t 0 := by rw [← hs2, ← hit]; exact ⟨_, Heap.get?_push_size _ rfl, rfl, rfl⟩
  rw [hsz]
  have fit : FpOk X pins H it := I.fpOk (by omega) (I.hok.fresh (by omega))
  have fS : FpOk X pins H (it + 1) := I.fpOk (by omega) (I.hok.fresh (by omega))
  have fpZ : ∀ Z : Hp, Z it = none → Z (it + 1) = none → ∀ b ∈ [it + 1, it], FpOk X pins Z b := fun Z h1 h2 b hb => by
    rcases List.mem_cons.mp hb with rfl | hb
    · exact ⟨h2, fS.2⟩
    · rw [List.mem_singleton.mp hb]; exact ⟨h1, fit.2⟩
  let Gd := fun s Z => Good X pins σ g B H0 H it (it + 1) s Z
  have keep : ∀ s s' Z, Moved ((it + 1) :: [it]) (fun a b => b = a) s s' → Gd s Z → Gd s' Z := fun s s' Z hm G => ⟨inv_moved G.inv (fpZ _ G.ni G.ns) hm, G.to, G.on, G.ni, G.ns⟩
  let dd := fun i : Nat => if i = 0 then k1 else k2
  have hm : ∀ i, dd i ∈ [k1, k2] := fun i => by
    show (if i = 0 then k1 else k2) ∈ _
    split <;> simp
  have hal : ∀ i j, PySem.W.alike (dd i) (dd j) = true := fun i j => al _ (hm i) _ (hm j)
  have hkn : ∀ i, dd i ≠ .none := fun i => (kn _ (hm i)).1
  have hdp : ∀ i j, min (dd i).depth (dd j).depth ≤ 8 := fun i j => Nat.le_trans (Nat.min_le_left _ _) (kn _ (hm i)).2
  refine ⟨it, [it, t], [it], (fun a b => b = a), 2, _, _, (fun s => ∃ Z, Gd s Z), (fun i ky s => ∃ Z z, Gd s Z ∧ RelV z ky ∧ Rp X.K Z.1 z (dd i)), (fun i j => PySem.W.dataLt (dd i) (dd j)), rfl, (walks_tupV (A := X.A.in1) (I.ok.hd hc) it t (Nat.ne_of_lt hlt) [x, y]).toS, ⟨hI, its, by obtain ⟨o, ho, hh⟩ := p'; exact ⟨o, hk2 _ _ ho, hh⟩, rv⟩, ?_, by decide, ?_, ⟨(H0, H), I2, To.refl, O, fit.1, fS.1⟩, ?_⟩
  · intro b hb
    rcases List.mem_cons.mp hb with rfl | hb
    · exact Nat.lt_succ_self _
    · rw [List.mem_singleton.mp hb]; exact Nat.lt_succ_of_lt hlt
  · refine ⟨fun s s' hJ hm => ?_, fun i ky s s' hV hm => ?_, fun i v s o Q E hi hP hJ hst hS hQ => ?_, fun i j ki kj s Q E hJ hVi hVj hq => ?_⟩
    · obtain ⟨Z, G⟩ := hJ; exact ⟨Z, keep _ _ _ hm G⟩
    · obtain ⟨Z, z, G, h⟩ := hV; exact ⟨Z, z, keep _ _ _ hm G, h⟩
    · obtain ⟨x', hx', rx'⟩ := hP
      obtain ⟨hit1, vs1, htv, hvv⟩ := hst
      obtain ⟨oi, ho1, ho2⟩ := id hit1
      have hJ2 := hJ
      have hxr : ∃ d, Rp X.K H0 x' d ∧ R [.da d] B (dd i) B := by
        match i, hi, hx' with
        | 0, _, hx' => injection hx' with hx'; exact ⟨d1, hx' ▸ r1, R1⟩
        | 1, _, hx' => injection hx' with hx'; exact ⟨d2, hx' ▸ r2, R2⟩
      obtain ⟨d, hd, hR⟩ := hxr
      refine key_turn F gx hb hd hR rx' ⟨fS.2.2.1, fS.2.1⟩ ⟨fit.2.2.1, fit.2.1⟩ hJ hS ho1 fun u s' hS' hI' hall => ?_
      obtain ⟨Z0, G0⟩ := hJ2
      obtain ⟨Z1, z1, G1, t1, ru1, rz1⟩ := hall Z0 G0
      have ht' : SqT X.K Z1.2 t [x, y] := seqT G1.on.ex (seqT G1.to.ex ht)
      obtain ⟨its2, rv2, p2, _⟩ := G1.inv.tuple ht'
      refine hQ u s' ⟨Z1, G1⟩ ⟨⟨oi, hI', ho2⟩, its2, p2, rv2⟩ hS' ⟨Z1, z1, G1, ru1, rz1⟩ fun j k' hV => ?_
      obtain ⟨Z, z, G, rz2, hz2⟩ := hV
      obtain ⟨Z', z', G', t', ru', rz'⟩ := hall Z G
      exact ⟨Z', z, G', rz2, hz2.mono t'.ex⟩
    · obtain ⟨Z1, z1, G1, ri, ki'⟩ := hVi
      obtain ⟨Z2, z2, G2, rj, kj'⟩ := hVj
      obtain ⟨as1, a1⟩ := Dp.reads G1.inv _ _ _ (Rp.mono G1.on.ex ki').dp ri
      obtain ⟨as2, a2⟩ := Dp.reads G2.inv _ _ _ (Rp.mono G2.on.ex kj').dp rj
      exact PySem.W.rcLt_alike _ _ X.A.in1 s ki kj as1 as2 a1 a2 (hal i j) (hkn i) (by have := hdp i j; have := gx.hu; show X.A.units + 1 + _ < _; omega) _ _ E Q hq
  · intro v s' hP hJ
    obtain ⟨Z, G⟩ := hJ
    obtain ⟨x', hx', rx'⟩ := hP
    refine ⟨x', Z.2, G.inv, rx', ?_⟩
    have e : x' = if PySem.W.dataLt k2 k1 = true then y else x := by
      have hb1 : argBest (fun i j => PySem.W.dataLt (dd i) (dd j)) 1 = if PySem.W.dataLt k2 k1 = true then 1 else 0 := rfl
      rw [show 2 - 1 = 1 from rfl, hb1] at hx'
      by_cases c : PySem.W.dataLt k2 k1 = true
      · rw [if_pos c] at hx' ⊢; injection hx' with hx'; exact hx'.symm
      · rw [if_neg c] at hx' ⊢; injection hx' with hx'; exact hx'.symm
    rw [e]
    exact q Z.1 Z.2 G.to G.on
def rMaxK (X : Cx) : List V → List V → Hp → VK → Prop := fun vs zs H Q =>
  ∃ (t f : Addr) (x y : V) (fd : FuncData) (ps : List Str) (R : Rel) (k : Nat) (g : Gh) (B : Bag) (H0 : Hp) (d1 d2 k1 k2 : PyData),
    vs = [.ref t] ∧ zs = [.ref f] ∧ SqT X.K H0 t [x, y] ∧ FnG X.prog X.w X.K X.mg X.base k f fd ps (DefSp X.K R) ∧ Gx (k + 1) X ∧ Binds X.K fd ps [] ∧ On X.K g B H0 H ∧ Rp X.K H0 x d1 ∧ Rp X.K H0 y d2 ∧
    R [.da d1] B k1 B ∧ R [.da d2] B k2 B ∧ (∀ a ∈ [k1, k2], ∀ b ∈ [k1, k2], PySem.W.alike a b = true) ∧ (∀ a ∈ [k1, k2], a ≠ .none ∧ a.depth ≤ 8) ∧
    ∀ H0' H', To g H0 H H0' H' → On X.K g B H0' H' → Q (if PySem.W.dataLt k1 k2 = true then y else x) H'
theorem cr_max2K {X : Cx} (hc : X.calm = true) : CallRK X (.builtin "max") [Str.ofString "key"] (rMaxK X) := by
  intro pins s σ H vs zs us ws Q I r rz h
  obtain ⟨t, f, x, y, fd, ps, R, k, g, B, H0, d1, d2, k1, k2, rfl, rfl, ht, F, gx, hb, O, r1, r2, R1, R2, al, kn, q⟩ := h
  obtain rfl := Vals.ref1 r
  obtain rfl := Vals.ref1 rz
  obtain ⟨its, rv, p, hz⟩ := I.tuple (seqT O.ex ht)
  have p' : s.heap.IsTuple t its.toArray := p
  have hlt : t < s.heap.objs.size := by obtain ⟨_, e, _⟩ := p'; exact Heap.lt_size e
  show wpAny _ _ (call (.builtin "max") [.ref t] [(Str.ofString "key", .ref f)]) _ _ _
  refine call_max_walkK (wpAny_pyIter_tuple p' ?_)
  obtain ⟨it, hit⟩ : ∃ it, s.heap.objs.size = it := ⟨_, rfl⟩
  rw [hit] at hlt ⊢
  generalize hs2 : ({ s with heap := s.heap.push { cls := .type "tuple_iterator", data := .fields #[.ref t, .int 0 0] } } : Shared) = s2
  have hk2 : ∀ b o, s.heap.get? b = some o → s2.heap.get? b = some o := fun b o e => by rw [← hs2]; exact Heap.get?_push_of_some _ e
  have I2 : Inv X pins σ H s2 := by rw [← hs2]; exact I.kept (t' := s.toks) fun b o e => Heap.get?_push_of_some _ e
  have hsz : s2.heap.objs.size = it + 1 := by rw [← hs2, ← hit]; exact Heap.size_push ..
  have hI : s2.heap.IsTupleIter it t 0 := by rw [← hs2, ← hit]; exact ⟨_, Heap.get?_push_size _ rfl, rfl, rfl⟩
  rw [hsz]
  have fit : FpOk X pins H it := I.fpOk (by omega) (I.hok.fresh (by omega))
  have fS : FpOk X pins H (it + 1) := I.fpOk (by omega) (I.hok.fresh (by omega))
  have fpZ : ∀ Z : Hp, Z it = none → Z (it + 1) = none → ∀ b ∈ [it + 1, it], FpOk X pins Z b := fun Z h1 h2 b hb => by
    rcases List.mem_cons.mp hb with rfl | hb
    · exact ⟨h2, fS.2⟩
    · rw [List.mem_singleton.mp hb]; exact ⟨h1, fit.2⟩
  let Gd := fun s Z => Good X pins σ g B H0 H it (it + 1) s Z
  have keep : ∀ s s' Z, Moved ((it + 1) :: [it]) (fun a b => b = a) s s' → Gd s Z → Gd s' Z := fun s s' Z hm G => ⟨inv_moved G.inv (fpZ _ G.ni G.ns) hm, G.to, G.on, G.ni, G.ns⟩
  let dd := fun i : Nat => if i = 0 then k1 else k2
  have hm : ∀ i, dd i ∈ [k1, k2] := fun i => by
    show (if i = 0 then k1 else k2) ∈ _
    split <;> simp
  have hal : ∀ i j, PySem.W.alike (dd i) (dd j) = true := fun i j => al _ (hm i) _ (hm j)
  have hkn : ∀ i, dd i ≠ .none := fun i => (kn _ (hm i)).1
  have hdp : ∀ i j, min (dd i).depth (dd j).depth ≤ 8 := fun i j => Nat.le_trans (Nat.min_le_left _ _) (kn _ (hm i)).2
  refine ⟨it, [it, t], [it], (fun a b => b = a), 2, _, _, (fun s => ∃ Z, Gd s Z), (fun i ky s => ∃ Z z, Gd s Z ∧ RelV z ky ∧ Rp X.K Z.1 z (dd i)), (fun i j => PySem.W.dataLt (dd j) (dd i)), rfl, (walks_tupV (A := X.A.in1) (I.ok.hd hc) it t (Nat.ne_of_lt hlt) [x, y]).toS, ⟨hI, its, by obtain ⟨o, ho, hh⟩ := p'; exact ⟨o, hk2 _ _ ho, hh⟩, rv⟩, ?_, by decide, ?_, ⟨(H0, H), I2, To.refl, O, fit.1, fS.1⟩, ?_⟩
  · intro b hb
    rcases List.mem_cons.mp hb with rfl | hb
    · exact Nat.lt_succ_self _
    · rw [List.mem_singleton.mp hb]; exact Nat.lt_succ_of_lt hlt
  · refine ⟨fun s s' hJ hm => ?_, fun i ky s s' hV hm => ?_, fun i v s o Q E hi hP hJ hst hS hQ => ?_, fun i j ki kj s Q E hJ hVi hVj hq => ?_⟩
    · obtain ⟨Z, G⟩ := hJ; exact ⟨Z, keep _ _ _ hm G⟩
    · obtain ⟨Z, z, G, h⟩ := hV; exact ⟨Z, z, keep _ _ _ hm G, h⟩
    · obtain ⟨x', hx', rx'⟩ := hP
      obtain ⟨hit1, vs1, htv, hvv⟩ := hst
      obtain ⟨oi, ho1, ho2⟩ := id hit1
      have hJ2 := hJ
      have hxr : ∃ d, Rp X.K H0 x' d ∧ R [.da d] B (dd i) B := by
        match i, hi, hx' with
        | 0, _, hx' => injection hx' with hx'; exact ⟨d1, hx' ▸ r1, R1⟩
        | 1, _, hx' => injection hx' with hx'; exact ⟨d2, hx' ▸ r2, R2⟩
      obtain ⟨d, hd, hR⟩ := hxr
      refine key_turn F gx hb hd hR rx' ⟨fS.2.2.1, fS.2.1⟩ ⟨fit.2.2.1, fit.2.1⟩ hJ hS ho1 fun u s' hS' hI' hall => ?_
      obtain ⟨Z0, G0⟩ := hJ2
      obtain ⟨Z1, z1, G1, t1, ru1, rz1⟩ := hall Z0 G0
      have ht' : SqT X.K Z1.2 t [x, y] := seqT G1.on.ex (seqT G1.to.ex ht)
      obtain ⟨its2, rv2, p2, _⟩ := G1.inv.tuple ht'
      refine hQ u s' ⟨Z1, G1⟩ ⟨⟨oi, hI', ho2⟩, its2, p2, rv2⟩ hS' ⟨Z1, z1, G1, ru1, rz1⟩ fun j k' hV => ?_
      obtain ⟨Z, z, G, rz2, hz2⟩ := hV
      obtain ⟨Z', z', G', t', ru', rz'⟩ := hall Z G
      exact ⟨Z', z, G', rz2, hz2.mono t'.ex⟩
    · obtain ⟨Z1, z1, G1, ri, ki'⟩ := hVi
      obtain ⟨Z2, z2, G2, rj, kj'⟩ := hVj
      obtain ⟨as1, a1⟩ := Dp.reads G1.inv _ _ _ (Rp.mono G1.on.ex ki').dp ri
      obtain ⟨as2, a2⟩ := Dp.reads G2.inv _ _ _ (Rp.mono G2.on.ex kj').dp rj
      exact PySem.W.rcGt_alike _ _ X.A.in1 s ki kj as1 as2 a1 a2 (hal i j) (hkn i) (by have := hdp i j; have := gx.hu; show X.A.units + 1 + _ < _; omega) _ _ E Q hq
  · intro v s' hP hJ
    obtain ⟨Z, G⟩ := hJ
    obtain ⟨x', hx', rx'⟩ := hP
    refine ⟨x', Z.2, G.inv, rx', ?_⟩
    have e : x' = if PySem.W.dataLt k1 k2 = true then y else x := by
      have hb1 : argBest (fun i j => PySem.W.dataLt (dd j) (dd i)) 1 = if PySem.W.dataLt k1 k2 = true then 1 else 0 := rfl
      rw [show 2 - 1 = 1 from rfl, hb1] at hx'
      by_cases c : PySem.W.dataLt k1 k2 = true
      · rw [if_pos c] at hx' ⊢; injection hx' with hx'; exact hx'.symm
      · rw [if_neg c] at hx' ⊢; injection hx' with hx'; exact hx'.symm
    rw [e]
    exact q Z.1 Z.2 G.to G.on
section
variable {X : Cx} {Γ : List VD} {B B1 : Bag} {a : Expr} {p p' kp pos : Pos}
theorem ej_minK2 {fn : Str} {k : Nat} {R : Rel} {d1 d2 k1 k2 : PyData} (c : Cal X.prog X.w X.K X.mg X.base fn k R) (gx : Gx (k + 1) X) (hm : X.mg "min" = none) (ha : EJ X Γ B a (.da (.tuple [d1, d2])) B1) (R1 : R [.da d1] B1 k1 B1) (R2 : R [.da d2] B1 k2 B1)
    (al : ∀ a ∈ [k1, k2], ∀ b ∈ [k1, k2], PySem.W.alike a b = true) (kn : ∀ a ∈ [k1, k2], a ≠ .none ∧ a.depth ≤ 8) (hg : Gl X "min" := by rfl) (hgf : Gl X fn := by rfl) (hdf : (fn == ("__debug__" : Str)) = false := by decide)
    (hs : starEach [a] X.env = [(false, eval a X.env)] := by rfl)
    (he : backTo pos (starEach [a] X.env) = (false, eval a X.env) :: backTo pos (starEach [] X.env) := by rfl) (hpl : (backTo pos (starEach [a] X.env)).any (·.1) = false := by rfl)
    (hall : (backToKw pos (keywordEach [⟨some (Str.ofString "key"), .Name fn p', kp⟩] X.env)).all (·.1.isSome) = true := by rfl) (hnone : (backToKw pos (keywordEach [⟨some (Str.ofString "key"), .Name fn p', kp⟩] X.env)).any (·.1.isNone) = false := by rfl)
    (hks : (backToKw pos (keywordEach [⟨some (Str.ofString "key"), .Name fn p', kp⟩] X.env)).filterMap (·.1) = [Str.ofString "key"] := by rfl) :
    EJ X Γ B (.Call (.Name "min" p) [a] [⟨some (Str.ofString "key"), .Name fn p', kp⟩] pos) (.da (if PySem.W.dataLt k2 k1 = true then d2 else d1)) B1 := fun g σ H0 H E O Q q => by
  obtain ⟨f, fd, ps, F, hmf, hk, hb⟩ := c
  exact ⟨_, pe_callBK (cr_min2K gx.calm) hg hm (by decide +kernel) (wa [a]) (pk_cons (pe_glob (v := .ref f) hgf hmf rfl hdf) pk_nil) (by decide) (by decide) he hpl hall hnone hks, (aj_cons (ds := []) ha aj_nil hs) g σ H0 H E O _ fun vs H1 H' t o r => by
    obtain ⟨v, rfl, h⟩ := rv1 r
    obtain ⟨tp, xs, rfl, hx, rs⟩ := rvT h
    cases rs with
    | cons r1 rs =>
      cases rs with
      | cons r2 rs =>
        cases rs
        refine ⟨tp, f, _, _, fd, ps, R, k, g, B1, H1, d1, d2, k1, k2, rfl, rfl, hx, F, gx, hb, o, r1, r2, R1, R2, al, kn, fun H0' H2 t2 o2 => ?_⟩
        refine q _ H0' H2 (t.trans t2) o2 ?_
        by_cases c : PySem.W.dataLt k2 k1 = true
        · rw [if_pos c, if_pos c]; exact r2.mono t2.ex
        · rw [if_neg c, if_neg c]; exact r1.mono t2.ex⟩
theorem ej_maxK2 {fn : Str} {k : Nat} {R : Rel} {d1 d2 k1 k2 : PyData} (c : Cal X.prog X.w X.K X.mg X.base fn k R) (gx : Gx (k + 1) X) (hm : X.mg "max" = none) (ha : EJ X Γ B a (.da (.tuple [d1, d2])) B1) (R1 : R [.da d1] B1 k1 B1) (R2 : R [.da d2] B1 k2 B1)
    (al : ∀ a ∈ [k1, k2], ∀ b ∈ [k1, k2], PySem.W.alike a b = true) (kn : ∀ a ∈ [k1, k2], a ≠ .none ∧ a.depth ≤ 8) (hg : Gl X "max" := by rfl) (hgf : Gl X fn := by rfl) (hdf : (fn == ("__debug__" : Str)) = false := by decide)
    (hs : starEach [a] X.env = [(false, eval a X.env)] := by rfl)
    (he : backTo pos (starEach [a] X.env) = (false, eval a X.env) :: backTo pos (starEach [] X.env) := by rfl) (hpl : (backTo pos (starEach [a] X.env)).any (·.1) = false := by rfl)
    (hall : (backToKw pos (keywordEach [⟨some (Str.ofString "key"), .Name fn p', kp⟩] X.env)).all (·.1.isSome) = true := by rfl) (hnone : (backToKw pos (keywordEach [⟨some (Str.ofString "key"), .Name fn p', kp⟩] X.env)).any (·.1.isNone) = false := by rfl)
    (hks : (backToKw pos (keywordEach [⟨some (Str.ofString "key"), .Name fn p', kp⟩] X.env)).filterMap (·.1) = [Str.ofString "key"] := by rfl) :
    EJ X Γ B (.Call (.Name "max" p) [a] [⟨some (Str.ofString "key"), .Name fn p', kp⟩] pos) (.da (if PySem.W.dataLt k1 k2 = true then d2 else d1)) B1 := fun g σ H0 H E O Q q => by
  obtain ⟨f, fd, ps, F, hmf, hk, hb⟩ := c
  exact ⟨_, pe_callBK (cr_max2K gx.calm) hg hm (by decide +kernel) (wa [a]) (pk_cons (pe_glob (v := .ref f) hgf hmf rfl hdf) pk_nil) (by decide) (by decide) he hpl hall hnone hks, (aj_cons (ds := []) ha aj_nil hs) g σ H0 H E O _ fun vs H1 H' t o r => by
    obtain ⟨v, rfl, h⟩ := rv1 r
    obtain ⟨tp, xs, rfl, hx, rs⟩ := rvT h
    cases rs with
    | cons r1 rs =>
      cases rs with
      | cons r2 rs =>
        cases rs
        refine ⟨tp, f, _, _, fd, ps, R, k, g, B1, H1, d1, d2, k1, k2, rfl, rfl, hx, F, gx, hb, o, r1, r2, R1, R2, al, kn, fun H0' H2 t2 o2 => ?_⟩
        refine q _ H0' H2 (t.trans t2) o2 ?_
        by_cases c : PySem.W.dataLt k1 k2 = true
        · rw [if_pos c, if_pos c]; exact r2.mono t2.ex
        · rw [if_neg c, if_neg c]; exact r1.mono t2.ex⟩
end
end Gd
set_option exponentiation.threshold 20000
namespace Lw
open PySem PySem.Spec PyProof.Rows L2 Gd Fr
open scoped Rat
def plT : Va → Int × Int × Int
  | .nan => (2, 0, 0)
  | .inf s => if s = 0 then (1, 0, 0) else (-2, 0, 0)
  | .num s c e => if s = 0 then (0, e, c) else (-1, -e, -c)
def t3 (x : Int × Int × Int) : PyData := .tuple [.int x.1, .int x.2.1, .int x.2.2]
def plD (v : Va) : PyData := t3 (plT v)
theorem t3_alike (x y : Int × Int × Int) : PySem.W.alike (t3 x) (t3 y) = true := rfl
theorem pl_al (u v : Va) : ∀ a ∈ [plD u, plD v], ∀ b ∈ [plD u, plD v], PySem.W.alike a b = true := by
  intro a ha b hb
  simp only [List.mem_cons, List.not_mem_nil, or_false] at ha hb
  rcases ha with rfl | rfl <;> rcases hb with rfl | rfl <;> exact t3_alike _ _
theorem pl_ok (u v : Va) : ∀ a ∈ [plD u, plD v], a ≠ PyData.none ∧ a.depth ≤ 8 := by
  intro a ha
  simp only [List.mem_cons, List.not_mem_nil, or_false] at ha
  have h : ∀ x : Int × Int × Int, t3 x ≠ PyData.none ∧ (t3 x).depth ≤ 8 := fun x => ⟨fun z => PyData.noConfusion z, by show _ ≤ 8; simp only [t3, PyData.depth, PyData.depthAll]; decide⟩
  rcases ha with rfl | rfl
  · exact h _
  · exact h _
def minV (x y : Va) : Va := if PySem.W.dataLt (plD y) (plD x) = true then y else x
def maxV (x y : Va) : Va := if PySem.W.dataLt (plD x) (plD y) = true then y else x
theorem min_d (x y : Va) : (if PySem.W.dataLt (plD y) (plD x) = true then y.d else x.d) = (minV x y).d := by unfold minV; split <;> rfl
theorem max_d (x y : Va) : (if PySem.W.dataLt (plD x) (plD y) = true then y.d else x.d) = (maxV x y).d := by unfold maxV; split <;> rfl
end Lw
set_option exponentiation.threshold 20000
namespace Lw
open PySem PySem.Spec PyProof.Rows L2 Gd Fr
open scoped Rat
theorem wQ_num_opp (b : Nat) {s c e : Int} (hs : s = 0 ∨ s = 1) : (Va.num (1 - s) c e).wQ b = - (Va.num s c e).wQ b := by
  show ((if 1 - s = 1 then -c else c : Int) : Rat) * pw b e = -(((if s = 1 then -c else c : Int) : Rat) * pw b e)
  rcases hs with rfl | rfl
  · rw [if_pos (by decide), if_neg (by decide), Rat.intCast_neg, Rat.neg_mul]
  · rw [if_neg (by decide), if_pos (by decide), Rat.intCast_neg, Rat.neg_mul, Rat.neg_neg]
section
variable {b p : Nat} {low high : Int} (F : Fm b p low high)
include F
end
section
variable {b p : Nat} {low high : Int} (F : Fm b p low high)
include F
end
end Lw
set_option exponentiation.threshold 20000
namespace Gd
open PySem PySem.Spec PyProof.Rows L2
section
variable {X : Cx} {Γ : List VD} {B B1 B2 B' : Bag} {e a b c : Expr} {pos : Pos}
end
end Gd
set_option exponentiation.threshold 20000
namespace Lw
open PySem PySem.Spec PyProof.Rows L2 Gd Fr
open scoped Rat
def lex3 (x y : Int × Int × Int) : Prop := x.1 < y.1 ∨ (x.1 = y.1 ∧ (x.2.1 < y.2.1 ∨ (x.2.1 = y.2.1 ∧ x.2.2 < y.2.2)))
instance (x y : Int × Int × Int) : Decidable (lex3 x y) := by unfold lex3; infer_instance
theorem lex3_asym {x y : Int × Int × Int} (h : lex3 x y) : ¬ lex3 y x := by unfold lex3 at *; omega
section
variable {b p : Nat} {low high : Int} (F : Fm b p low high)
include F
theorem rkS_eq (s c e : Int) : rkS b p low high (.num s c e) = c + (e - low) * (((b ^ p : Nat) : Int) - ((b ^ (p - 1) : Nat) : Int)) := by
  have P := F.pows
  have e' : fmI b p = ((b ^ p : Nat) : Int) - ((b ^ (p - 1) : Nat) : Int) := by
    unfold fmI
    rw [P.eq, Int.natCast_mul, Int.sub_mul, Int.one_mul, Int.mul_comm]
  show c + (e - low) * fmI b p = _
  rw [e']
theorem rkS_lex {s s' c e c' e' : Int} (h : Can b p low c e) (h' : Can b p low c' e') (hl : e < e' ∨ (e = e' ∧ c ≤ c')) : rkS b p low high (.num s c e) ≤ rkS b p low high (.num s' c' e') := by
  rw [rkS_eq F, rkS_eq F]
  have P := F.pows
  have h1 : ((b ^ (p - 1) : Nat) : Int) * 2 ≤ ((b ^ p : Nat) : Int) := by have := P.ge; omega
  have h2 : (2 : Int) ≤ ((b ^ (p - 1) : Nat) : Int) := by have := P.l2; omega
  obtain ⟨a1, a2, a3, a4⟩ := h
  obtain ⟨b1, b2, b3, b4⟩ := h'
  generalize ((b ^ (p - 1) : Nat) : Int) = L at *
  generalize ((b ^ p : Nat) : Int) = M at *
  rcases hl with h | ⟨rfl, h⟩
  · have h3 : L ≤ c' := by omega
    have h4 : (e - low + 1) * (M - L) ≤ (e' - low) * (M - L) := Int.mul_le_mul_of_nonneg_right (by omega) (by omega)
    rw [Int.add_mul, Int.one_mul] at h4
    omega
  · omega
theorem rkS_nn {s c e : Int} (h : Can b p low c e) : 0 ≤ rkS b p low high (.num s c e) := by
  rw [rkS_eq F]
  have P := F.pows
  have h1 : ((b ^ (p - 1) : Nat) : Int) * 2 ≤ ((b ^ p : Nat) : Int) := by have := P.ge; omega
  have h2 : (2 : Int) ≤ ((b ^ (p - 1) : Nat) : Int) := by have := P.l2; omega
  have := Int.mul_nonneg (a := e - low) (b := ((b ^ p : Nat) : Int) - ((b ^ (p - 1) : Nat) : Int)) (by have := h.2.2.1; omega) (by omega)
  have := h.1
  omega
theorem pl_rk {u v : Va} (hu : Vcan b p low high u) (hv : Vcan b p low high v) (nu : u.isNan = false) (nv : v.isNan = false) (h : ¬ lex3 (plT v) (plT u)) : rkI b p low high u ≤ rkI b p low high v := by
  have key : ∀ {s c e : Int}, Vcan b p low high (.num s c e) → -mostI b p low high < rkI b p low high (.num s c e) ∧ rkI b p low high (.num s c e) < mostI b p low high := fun h => rk_num_lt F h.2.1 h.2.2
  have m0 : 0 ≤ mostI b p low high := by
    have := key (zero_can F (s := 0) (.inl rfl)); omega
  cases u with
  | nan => cases nu
  | inf s =>
    cases v with
    | nan => cases nv
    | inf t =>
      rw [rk_inf hu, rk_inf hv]
      rcases hu with rfl | rfl <;> rcases hv with rfl | rfl
      · exact Int.le_refl _
      · exact absurd (show lex3 (plT (.inf 1)) (plT (.inf 0)) by decide) h
      · rw [if_pos rfl, if_neg (by decide)]; omega
      · exact Int.le_refl _
    | num t c e =>
      have k := key hv
      rw [rk_inf hu]
      rcases hu with rfl | rfl
      · refine absurd ?_ h
        unfold plT lex3
        rcases hv.1 with rfl | rfl
        · exact .inl (by show (0 : Int) < 1; decide)
        · exact .inl (by show (-1 : Int) < 1; decide)
      · rw [if_pos rfl]; omega
  | num s c e =>
    have k := key hu
    cases v with
    | nan => cases nv
    | inf t =>
      rw [rk_inf hv]
      rcases hv with rfl | rfl
      · rw [if_neg (by decide)]; omega
      · refine absurd ?_ h
        unfold plT lex3
        rcases hu.1 with rfl | rfl
        · exact .inl (by show (-2 : Int) < 0; decide)
        · exact .inl (by show (-2 : Int) < -1; decide)
    | num t c' e' =>
      have n1 := rkS_nn F (s := 0) hu.2.1
      have n2 := rkS_nn F (s := 0) hv.2.1
      have n3 := rkS_nn F (s := 1) hu.2.1
      have n4 := rkS_nn F (s := 1) hv.2.1
      rcases hu.1 with rfl | rfl <;> rcases hv.1 with rfl | rfl
      · rw [rk_n0, rk_n0]
        have h : ¬ ((0 : Int) < 0 ∨ ((0 : Int) = 0 ∧ (e' < e ∨ (e' = e ∧ c' < c)))) := h
        exact rkS_lex F hu.2.1 hv.2.1 (by omega)
      · exact absurd (.inl (by show (-1 : Int) < 0; decide)) h
      · rw [rk_n1, rk_n0]; omega
      · rw [rk_n1, rk_n1]
        have h : ¬ ((-1 : Int) < -1 ∨ ((-1 : Int) = -1 ∧ (-e' < -e ∨ (-e' = -e ∧ -c' < -c)))) := h
        have := rkS_lex F (s := 1) (s' := 1) hv.2.1 hu.2.1 (by omega)
        omega
theorem pl_ord {u v : Va} (hu : Vcan b p low high u) (hv : Vcan b p low high v) (nu : u.isNan = false) (nv : v.isNan = false) (h : ¬ lex3 (plT v) (plT u)) : ordI b b u v ≤ 0 := by
  rw [ord_rk F hu hv nu nv]
  have := pl_rk F hu hv nu nv h
  unfold cmpI
  rw [if_neg (by omega)]
  split <;> omega
end
section
variable {b p : Nat} {low high : Int} (F : Fm b p low high)
include F
end
end Lw
namespace Lw
open PySem PySem.Spec PyProof.Rows L2 Gd Fr
end Lw
namespace Lw
open PySem PySem.Spec PyProof.Rows L2 Gd Fr
end Lw
namespace Lw
open PySem PySem.Spec PyProof.Rows L2 Gd Fr
end Lw
namespace Lw
open PySem PySem.Spec PyProof.Rows L2 Gd Fr
open scoped Rat
end Lw
namespace Lw
open PySem PySem.Spec PyProof.Rows L2 Gd Fr
open scoped Rat
end Lw
namespace Lw
open PySem PySem.Spec PyProof.Rows L2 Gd Fr
end Lw
set_option exponentiation.threshold 20000
namespace Gd
open PySem PySem.Spec PyProof.Rows L2
section
variable {X : Cx} {Γ : List VD} {B B1 B2 B' : Bag} {e a b c : Expr} {pos p : Pos}
def rIsq : List V → Hp → VK → Prop := fun vs H Q => ∃ a : Int, vs = [.int a] ∧ 0 ≤ a ∧ a.toNat < 2 ^ 9000 ∧ Q (.int ((Float64.isqrt a.toNat : Nat) : Int)) H
theorem cr_isqrt : CallR X (.builtin "math.isqrt") rIsq := by
  intro pins s σ H vs us Q I r h
  obtain ⟨a, rfl, h0, h1, q⟩ := h
  cases r with
  | cons r1 rs =>
    cases rs
    obtain ⟨t, rfl⟩ := r1
    have hl : a.toNat.log2 ≤ 8999 := PySem.W.mg_log (by show a.toNat < 2 ^ 9000; exact h1)
    exact PySem.call_function_meets PySem.W.MGF.kind_isqrt PySem.W.MGF.plain_isqrt PySem.W.MGF.entry_isqrt (PySem.W.MGF.args_isqrt _) (PySem.W.mg_run_isqrt a t (by omega) (by omega) (by omega)).meets ⟨.int _, H, I.tok _, ⟨_, rfl⟩, q⟩
theorem ej_isqrt {i : Int} (hm : X.mg "isqrt" = some (.builtin "math.isqrt")) (ha : EJ X Γ B a (.da (.int i)) B1) (h0 : 0 ≤ i) (hb : i.toNat < 2 ^ 9000) (hg : Gl X "isqrt" := by rfl)
    (h1 : starEach [a] X.env = (false, eval a X.env) :: starEach [] X.env := by rfl)
    (hpl : (backTo pos (starEach [] X.env)).any (·.1) = false := by rfl) :
    EJ X Γ B (.Call (.Name "isqrt" p) [a] [] pos) (.da (.int ((Float64.isqrt i.toNat : Nat) : Int))) B1 := fun g σ H0 H E O Q q =>
  ⟨_, pe_callBfun cr_isqrt hg hm (wa [a]) (by decide) h1 hpl, (aj_cons ha aj_nil h1) g σ H0 H E O _ fun vs H1 H' t o r => by
    obtain ⟨v, rfl, r1⟩ := rv1 r
    exact ⟨i, by rw [rvI r1], h0, hb, q _ _ _ t o (Rp.int _)⟩⟩
end
end Gd
set_option exponentiation.threshold 20000
namespace Lw
open PySem PySem.Spec PyProof.Rows L2 Gd Fr
open scoped Rat
def IsR (b p : Nat) (low : Int) (q : Rat) (e : Int) : Prop := low ≤ e ∧ q < pw b (2 * (p + e)) ∧ (e = low ∨ pw b (2 * (p + e - 1)) ≤ q)
section
variable {b p : Nat} (h2 : 2 ≤ b)
include h2
theorem isR_le {low e e' : Int} {q : Rat} (h : IsR b p low q e) (h' : IsR b p low q e') : e' ≤ e := by
  rcases Int.lt_or_le e e' with hl | hl
  · exfalso
    rcases h'.2.2 with z | z
    · have := h.1; omega
    · have h1 := h.2.1
      have h3 := pw_mono h2 (show 2 * ((p : Int) + e) ≤ 2 * ((p : Int) + e' - 1) by omega)
      grind
  · exact hl
theorem isR_uniq {low e e' : Int} {q : Rat} (h : IsR b p low q e) (h' : IsR b p low q e') : e = e' := by
  have := isR_le h2 h h'; have := isR_le h2 h' h; omega
theorem isR_log {low k : Int} {q : Rat} (h1 : pw b k ≤ q) (h3 : q < pw b (k + 1)) : IsR b p low q (max low (k / 2 - p + 1)) := by
  refine ⟨by omega, ?_, ?_⟩
  · have := pw_mono h2 (show k + 1 ≤ 2 * ((p : Int) + max low (k / 2 - p + 1)) by omega)
    grind
  · by_cases h : max low (k / 2 - p + 1) = low
    · exact .inl h
    · right
      have := pw_mono h2 (show 2 * ((p : Int) + max low (k / 2 - p + 1) - 1) ≤ k by omega)
      grind
theorem isR_ex (low : Int) {q : Rat} (h0 : 0 < q) : ∃ e, IsR b p low q e := by
  obtain ⟨k, k1, k2⟩ := log_ex h2 h0
  exact ⟨_, isR_log h2 k1 k2⟩
end
open Classical in
noncomputable def eR (b p : Nat) (low : Int) (q : Rat) : Int := if h : ∃ e, IsR b p low q e then h.choose else low
theorem eR_is {b p : Nat} (h2 : 2 ≤ b) (low : Int) {q : Rat} (h0 : 0 < q) : IsR b p low q (eR b p low q) := by
  unfold eR
  have h := isR_ex (p := p) h2 low h0
  rw [dif_pos h]
  exact h.choose_spec
theorem eR_of {b p : Nat} (h2 : 2 ≤ b) {low e : Int} {q : Rat} (h : IsR b p low q e) : eR b p low q = e := by
  unfold eR
  rw [dif_pos ⟨e, h⟩]
  exact isR_uniq h2 (Exists.choose_spec (⟨e, h⟩ : ∃ e, IsR b p low q e)) h
def cR (b : Nat) (e : Int) (q : Rat) : Int := ((Float64.isqrt (cQ b (2 * e) q).toNat : Nat) : Int)
theorem sq_nat (c : Nat) : (((c : Nat) : Int) : Rat) * (((c : Nat) : Int) : Rat) = (((c * c : Nat) : Int) : Rat) := by
  rw [Int.natCast_mul, Rat.intCast_mul]
section
variable {b p : Nat} (h2 : 2 ≤ b)
include h2
theorem cR_nn (e : Int) (q : Rat) : 0 ≤ cR b e q := Int.natCast_nonneg _
theorem cR_lo {q : Rat} (h0 : 0 ≤ q) (e : Int) : (cR b e q : Rat) * (cR b e q : Rat) * pw b (2 * e) ≤ q := by
  have hm := c_ge h2 h0 (2 * e)
  have h1 := c_le h2 (2 * e) q
  have s := (Float64.isqrt_spec (cQ b (2 * e) q).toNat).1
  unfold cR
  rw [sq_nat]
  generalize Float64.isqrt (cQ b (2 * e) q).toNat = c at *
  have : ((c * c : Nat) : Int) ≤ cQ b (2 * e) q := by omega
  have h3 := Rat.mul_le_mul_of_nonneg_right (cast_le.mpr this) (Rat.le_of_lt (pw_pos h2 (2 * e)))
  grind
theorem cR_up {q : Rat} (h0 : 0 ≤ q) (e : Int) : q < ((cR b e q : Rat) + 1) * ((cR b e q : Rat) + 1) * pw b (2 * e) := by
  have hm := c_ge h2 h0 (2 * e)
  have h1 := c_up h2 (2 * e) q
  have s := (Float64.isqrt_spec (cQ b (2 * e) q).toNat).2
  unfold cR
  generalize Float64.isqrt (cQ b (2 * e) q).toNat = c at *
  have e1 : (((c : Nat) : Int) : Rat) + 1 = (((c + 1 : Nat) : Int) : Rat) := by rw [Int.natCast_add, Rat.intCast_add]; rfl
  rw [e1, sq_nat]
  have : cQ b (2 * e) q + 1 ≤ (((c + 1) * (c + 1) : Nat) : Int) := by omega
  have h3 := Rat.mul_le_mul_of_nonneg_right (cast_le.mpr this) (Rat.le_of_lt (pw_pos h2 (2 * e)))
  rw [cast_s] at h3
  grind
theorem pw_sq (n : Nat) (e : Int) : pw b (2 * ((n : Int) + e)) = (((b ^ n : Nat) : Int) : Rat) * (((b ^ n : Nat) : Int) : Rat) * pw b (2 * e) := by
  have e1 : 2 * ((n : Int) + e) = (n : Int) + ((n : Int) + 2 * e) := by omega
  rw [e1, pw_p h2, pw_p h2, Rat.mul_assoc]
theorem sq_lt {x y : Int} (hx : 0 ≤ x) (hy : 0 ≤ y) (h : (x : Rat) * (x : Rat) < (y : Rat) * (y : Rat)) : x < y := by
  rw [← Rat.intCast_mul, ← Rat.intCast_mul, cast_lt] at h
  rcases Int.lt_or_le x y with z | z
  · exact z
  · have := Int.mul_le_mul z z hy hx; omega
theorem cR_can {low e : Int} {q : Rat} (hp : 1 ≤ p) (h0 : 0 ≤ q) (h : IsR b p low q e) : Can b p low (cR b e q) e := by
  have lo := cR_lo h2 h0 e
  have up := cR_up h2 h0 e
  have c0 := cR_nn h2 e q
  have pp := pw_pos h2 (2 * e)
  refine ⟨c0, ?_, h.1, ?_⟩
  · refine sq_lt h2 c0 (Int.natCast_nonneg _) ((mul_lt_u h2 (2 * e)).mp ?_)
    have h1 := h.2.1
    rw [pw_sq h2] at h1
    grind
  · rcases h.2.2 with z | z
    · exact .inl z
    · right
      have e1 : 2 * ((p : Int) + e - 1) = 2 * (((p - 1 : Nat) : Int) + e) := by omega
      rw [e1, pw_sq h2] at z
      have := sq_lt h2 (x := ((b ^ (p - 1) : Nat) : Int)) (y := cR b e q + 1) (Int.natCast_nonneg _) (by omega) ((mul_lt_u h2 (2 * e)).mp (by rw [cast_s]; grind))
      omega
end
def rpN (c n d : Int) : Int := if c * c * d = n then 0 else if 4 * n < (2 * c + 1) * (2 * c + 1) * d then 1 else if 4 * n = (2 * c + 1) * (2 * c + 1) * d then 2 else 3
def prR (b : Nat) (e : Int) (q : Rat) : Int := rpN (cR b e q) (q * pw b (-(2 * e))).num ((q * pw b (-(2 * e))).den : Int)
noncomputable def rtP (b p : Nat) (low high : Int) (way : Str) (q : Rat) : PyData :=
  if q = 0 then .tuple [nm 0 0 low, .tuple []] else outP b p high way 0 (eR b p low q) (cR b (eR b p low q) q) (prR b (eR b p low q) q)
end Lw
set_option exponentiation.threshold 20000
namespace Lw
open PySem PySem.Spec PyProof.Rows L2 Gd Fr
open scoped Rat
structure RtOk (b : Nat) (low : Int) (q : Rat) (n d : Nat) : Prop where
  h0 : 0 < q
  hq : Qz n d q
  hn : n ≤ 8800
  hd : d ≤ 8800
  hL : q.den * b ^ (2 * low).toNat < 2 ^ 8800
theorem two_sizes {A B K : Nat} (hA : 0 < A) (hB : 0 < B) (h : A * B < 2 ^ K) : ∃ d c : Nat, A < 2 ^ d ∧ B < 2 ^ c ∧ d + c ≤ K + 1 ∧ 1 ≤ d ∧ 1 ≤ c := by
  refine ⟨A.log2 + 1, B.log2 + 1, Nat.lt_log2_self, Nat.lt_log2_self, ?_, by omega, by omega⟩
  have h1 := Nat.log2_self_le (n := A) (by omega)
  have h2 := Nat.log2_self_le (n := B) (by omega)
  have h3 := Nat.mul_le_mul h1 h2
  rw [← Nat.pow_add] at h3
  have h4 : 2 ^ (A.log2 + B.log2) < 2 ^ K := Nat.lt_of_le_of_lt h3 h
  have := (Nat.pow_lt_pow_iff_right (by decide : 1 < 2)).mp h4
  omega
section
variable {b p : Nat} {low high : Int} (F : Fm b p low high)
include F
theorem eR_bd {q : Rat} {e : Int} {n d : Nat} (hq : Qz n d q) (hE : IsR b p low q e) : (q.den * b ^ (2 * (p + e - 1)).toNat < 2 ^ n ∧ 0 < e ∧ low < e) ∨ (e ≤ 0 ∨ e = low) := by
  by_cases h : 0 < e ∧ low < e
  · refine .inl ⟨?_, h⟩
    have h5 : pw b (2 * (p + e - 1)) ≤ q := by
      rcases hE.2.2 with z | z
      · omega
      · exact z
    have hd0 : (0 : Rat) ≤ ((q.den : Int) : Rat) := cast_le.mpr (Int.le_of_lt (den_pos q))
    have h6 := Rat.mul_le_mul_of_nonneg_right h5 hd0
    rw [num_den, pw_of (by omega), ← Rat.intCast_natCast, ← Rat.intCast_mul] at h6
    have h7 := cast_le.mp h6
    have h8 := hq.nu
    unfold Bd at h8
    have h9 : (q.den : Int) * ((b ^ (2 * (p + e - 1)).toNat : Nat) : Int) ≤ q.num := by rw [Int.mul_comm]; exact h7
    have h10 : ((q.den * b ^ (2 * (p + e - 1)).toNat : Nat) : Int) ≤ q.num := by rw [Int.natCast_mul]; exact h9
    omega
  · exact .inr (by have := hE.1; omega)
theorem DR_bd {q : Rat} {e : Int} {n d : Nat} (ok : RtOk b low q n d) (hE : IsR b p low q e) : q.den * b ^ (2 * e).toNat < 2 ^ 8800 := by
  have b2 := F.b2
  have p2 := F.p2
  rcases eR_bd F ok.hq hE with ⟨h, _, _⟩ | h | h
  · have h1 : b ^ (2 * e).toNat ≤ b ^ (2 * (p + e - 1)).toNat := Nat.pow_le_pow_right (by omega) (by omega)
    have h3 := Nat.mul_le_mul_left q.den h1
    have h4 : 2 ^ n ≤ 2 ^ 8800 := Nat.pow_le_pow_right (by decide) ok.hn
    omega
  · have : (2 * e).toNat = 0 := by omega
    rw [this, Nat.pow_zero, Nat.mul_one]
    have h8 := ok.hq.de
    unfold Bd at h8
    have h4 : 2 ^ d ≤ 2 ^ 8800 := Nat.pow_le_pow_right (by decide) ok.hd
    omega
  · rw [h]; exact ok.hL
theorem eR_hi {q : Rat} {e : Int} {n d : Nat} (ok : RtOk b low q n d) (hE : IsR b p low q e) : e ≤ 5000 := by
  have b2 := F.b2
  have h1 := DR_bd F ok hE
  by_cases h : e ≤ 0
  · omega
  have h3 : 2 ^ (2 * e).toNat ≤ b ^ (2 * e).toNat := Nat.pow_le_pow_left b2 _
  have h4 : b ^ (2 * e).toNat ≤ q.den * b ^ (2 * e).toNat := Nat.le_mul_of_pos_left _ q.den_pos
  have h5 : 2 ^ (2 * e).toNat < 2 ^ 8800 := by omega
  have := (Nat.pow_lt_pow_iff_right (by decide : 1 < 2)).mp h5
  omega
theorem NR_bd {e : Int} (h : low ≤ e) : b ^ (-(2 * e)).toNat < 2 ^ 4680 := by
  have b2 := F.b2
  have h1 := F.pow_lo h
  have h3 : b ^ (-(2 * e)).toNat ≤ b ^ ((-e).toNat + (-e).toNat) := Nat.pow_le_pow_right (by omega) (by omega)
  rw [Nat.pow_add] at h3
  have h4 : b ^ (-e).toNat * b ^ (-e).toNat < 2 ^ 2340 * 2 ^ 2340 := Nat.mul_lt_mul'' h1 h1
  have h7 : 2 ^ 2340 * 2 ^ 2340 = 2 ^ 4680 := by rw [← Nat.pow_add]
  rw [h7] at h4
  omega
theorem mR_bd {q : Rat} {e : Int} (h0 : 0 ≤ q) (hE : IsR b p low q e) : (cQ b (2 * e) q).toNat < 2 ^ 1400 := by
  have b2 := F.b2
  have h1 := c_le b2 (2 * e) q
  have h3 := hE.2.1
  rw [pw_sq b2] at h3
  have h4 : (cQ b (2 * e) q : Rat) * pw b (2 * e) < (((b ^ p : Nat) : Int) : Rat) * (((b ^ p : Nat) : Int) : Rat) * pw b (2 * e) := by grind
  have h5 := (mul_lt_u b2 (2 * e)).mp h4
  rw [← Rat.intCast_mul, cast_lt, ← Int.natCast_mul] at h5
  have h6 := F.bp
  have h8 : b ^ p * b ^ p < 2 ^ 700 * 2 ^ 700 := Nat.mul_lt_mul'' h6 h6
  have h7 : 2 ^ 700 * 2 ^ 700 = 2 ^ 1400 := by rw [← Nat.pow_add]
  rw [h7] at h8
  omega
end
theorem floor_is {x : Rat} {k : Int} (h1 : (k : Rat) ≤ x) (h3 : x < (k : Rat) + 1) : x.num / (x.den : Int) = k := by
  have hd := den_pos x
  have e := num_den x
  have hd0 : (0 : Rat) < ((x.den : Int) : Rat) := by rw [← Rat.intCast_zero]; exact cast_lt.mpr hd
  have a1 := Rat.mul_le_mul_of_nonneg_right h1 (Rat.le_of_lt hd0)
  have a2 := (Rat.mul_lt_mul_right hd0).mpr h3
  rw [e, ← Rat.intCast_mul, cast_le] at a1
  rw [e, ← cast_s, ← Rat.intCast_mul, cast_lt] at a2
  have b1 := Int.le_ediv_of_mul_le hd a1
  have b3 := Int.ediv_lt_of_lt_mul hd a2
  omega
theorem floor_X {b : Nat} (h2 : 2 ≤ b) (e : Int) (q : Rat) : (q * pw b (-e)).num / ((q * pw b (-e)).den : Int) = cQ b e q := by
  have h := unit_split h2 e q
  have t0 := t_ge h2 e q
  have t1 := t_lt1 h2 e q
  exact floor_is (by rw [h]; grind) (by rw [h]; grind)
inductive R_rpart : Rel
  | mk (c n d : Int) (B : Bag) (hc : Bd 1400 c) (hn : Bd 90000 n) (hd : Bd 9000 d) : R_rpart [.da (.int c), .da (.int n), .da (.int d)] B (.int (rpN c n d)) B
inductive R_rspot : Rel
  | mk (b p : Nat) (low high : Int) (q : Rat) (n d : Nat) (B : Bag) (F : Fm b p low high) (ok : RtOk b low q n d) :
      R_rspot [.da (fmP b p low high), .da (fq q)] B (.tuple [.int (eR b p low q), .int (cR b (eR b p low q) q), .int (prR b (eR b p low q) q)]) B
inductive R_rroot : Rel
  | zero (b p : Nat) (low high : Int) (way : Str) (B : Bag) (F : Fm b p low high) (hw : way ∈ wayList) : R_rroot [.da (fmP b p low high), .da (.str way), .da (fq 0)] B (rtP b p low high way 0) B
  | mk (b p : Nat) (low high : Int) (way : Str) (q : Rat) (n d : Nat) (B : Bag) (F : Fm b p low high) (hw : way ∈ wayList) (ok : RtOk b low q n d) :
      R_rroot [.da (fmP b p low high), .da (.str way), .da (fq q)] B (rtP b p low high way q) B
end Lw
set_option exponentiation.threshold 20000
namespace Lw
open PySem PySem.Spec PyProof.Rows L2 Gd Fr
open scoped Rat
section
variable {b : Nat} (h2 : 2 ≤ b)
include h2
end
end Lw
set_option exponentiation.threshold 20000
namespace Lw
open PySem PySem.Spec PyProof.Rows L2 Gd Fr
open scoped Rat
theorem wQ_pos {b : Nat} (h2 : 2 ≤ b) {c e : Int} (h : 0 < c) : 0 < (Va.num 0 c e).wQ b := by
  show (0 : Rat) < ((if (0 : Int) = 1 then -c else c : Int) : Rat) * pw b e
  rw [if_neg (by decide)]
  exact Rat.mul_pos (by rw [← Rat.intCast_zero]; exact cast_lt.mpr h) (pw_pos h2 e)
section
variable {b p : Nat} {low high : Int} (F : Fm b p low high)
include F
end
theorem rtP_eq {b p : Nat} {low high : Int} {way : Str} {q : Rat} (h0 : 0 < q) : rtP b p low high way q = .tuple [(outV b p high way 0 (eR b p low q) (cR b (eR b p low q) q) (prR b (eR b p low q) q)).d, words (outF b p high way 0 (eR b p low q) (cR b (eR b p low q) q) (prR b (eR b p low q) q))] := by
  have hq0 : ¬ q = 0 := fun z => by rw [z] at h0; exact absurd h0 (by decide)
  unfold rtP
  rw [if_neg hq0, outP_eq]
section
variable (b p : Nat) (low high : Int)
end
end Lw
set_option exponentiation.threshold 20000
namespace Gd
open PySem PySem.Spec PyProof.Rows L2
section
variable {X : Cx} {Γ : List VD} {B B1 B2 B' : Bag} {e a b c : Expr} {pos p : Pos} {rest s1 : List Stmt} {E : En} {Φ : Post}
end
end Gd
set_option exponentiation.threshold 20000
namespace Lw
open PySem PySem.Spec PyProof.Rows L2 Gd Fr
open scoped Rat
def isLess (b : Nat) (x y : Va) : Prop := plI x < plI y ∨ (plI x = plI y ∧ (hqQ b x < hqQ b y ∨ (hqQ b x = hqQ b y ∧ 1 - x.sg ≤ 1 - y.sg)))
theorem less_iff {b p : Nat} {low high : Int} (F : Fm b p low high) {x y : Va} (hx : Vcan b p low high x) (hy : Vcan b p low high y) (nx : x.isNan = false) (ny : y.isNan = false) : isLess b x y ↔ ¬ lex3 (plT y) (plT x) := by
  cases x with
  | nan => cases nx
  | inf s =>
    cases y with
    | nan => cases ny
    | inf t =>
      unfold isLess lex3 plT plI hqQ
      rcases hx with rfl | rfl <;> rcases hy with rfl | rfl <;> simp [Va.isNum, Va.sg]
    | num t c e =>
      unfold isLess lex3 plT plI
      rcases hx with rfl | rfl <;> rcases hy.1 with rfl | rfl <;> simp [Va.isNum, Va.sg]
  | num s c e =>
    cases y with
    | nan => cases ny
    | inf t =>
      unfold isLess lex3 plT plI
      rcases hx.1 with rfl | rfl <;> rcases hy with rfl | rfl <;> simp [Va.isNum, Va.sg]
    | num t c' e' =>
      have o1 := fun h => pl_ord F hx hy nx ny h
      have o2 := fun h => pl_ord F hy hx ny nx h
      rw [ord_num] at o1 o2
      have key : isLess b (.num s c e) (.num t c' e') ↔ ((Va.num s c e).wQ b < (Va.num t c' e').wQ b ∨ ((Va.num s c e).wQ b = (Va.num t c' e').wQ b ∧ 1 - s ≤ 1 - t)) := by
        unfold isLess
        have e1 : plI (.num s c e) = 0 := rfl
        have e2 : plI (.num t c' e') = 0 := rfl
        have e3 : hqQ b (.num s c e) = (Va.num s c e).wQ b := rfl
        have e4 : hqQ b (.num t c' e') = (Va.num t c' e').wQ b := rfl
        rw [e1, e2, e3, e4]
        constructor
        · rintro (h | ⟨_, h⟩)
          · omega
          · exact h
        · exact fun h => .inr ⟨rfl, h⟩
      rw [key]
      have inj : (Va.num s c e).wQ b = (Va.num t c' e').wQ b → s = t → Va.num s c e = .num t c' e' := by
        intro hw hst
        have h1 := ord_rk F hx hy nx ny
        rw [ord_num, hw, cmp_self] at h1
        refine rk_inj F hx hy nx ny hst ?_
        unfold cmpI at h1
        split at h1 <;> split at h1 <;> omega
      generalize (Va.num s c e).wQ b = wx at *
      generalize (Va.num t c' e').wQ b = wy at *
      have hc : ∀ {u v : Rat}, cmp u v ≤ 0 → u ≤ v := fun {u v} h => by
        refine Rat.not_lt.mp fun z => ?_
        unfold cmp at h
        rw [if_neg (by grind), if_pos z] at h
        omega
      constructor
      · rintro (h | ⟨h, h2⟩) hl
        · have := hc (o2 (lex3_asym hl)); grind
        · by_cases hst : s = t
          · have := inj h hst
            rw [this] at hl
            exact lex3_asym hl hl
          · have hs := hx.1; have ht := hy.1
            have : s = 1 ∧ t = 0 := by omega
            obtain ⟨rfl, rfl⟩ := this
            have hl : (0 : Int) < -1 ∨ ((0 : Int) = -1 ∧ (e' < -e ∨ (e' = -e ∧ c' < -c))) := hl
            omega
      · intro hl
        have h1 := hc (o1 hl)
        by_cases hw : wx = wy
        · right
          refine ⟨hw, ?_⟩
          have hs := hx.1; have ht := hy.1
          by_cases hst : s = 0 ∧ t = 1
          · exfalso
            obtain ⟨rfl, rfl⟩ := hst
            refine hl (.inl ?_)
            show (-1 : Int) < 0
            decide
          · omega
        · left; grind
end Lw
namespace Lw
open PySem PySem.Spec PyProof.Rows L2 Gd Fr
open scoped Rat
end Lw
namespace Lw
open PySem PySem.Spec PyProof.Rows L2 Gd Fr
open scoped Rat
end Lw
set_option exponentiation.threshold 20000
namespace Lw
open PySem PySem.Spec PyProof.Rows L2 Gd Fr
open scoped Rat
structure Sz (b p : Nat) (low high : Int) (P H J : Nat) : Prop where
  hP : b ^ p < 2 ^ P
  hH : b ^ high.toNat < 2 ^ H
  hL : b ^ (-low).toNat < 2 ^ J
  pj : P + H ≤ J
  p1 : 1 ≤ P
  h1 : 1 ≤ H
section
variable {b p : Nat} {low high : Int} {P H J : Nat} (F : Fm b p low high) (Z : Sz b p low high P H J)
include F Z
theorem Sz.pw {e : Int} (h : low ≤ e) (h' : e ≤ high) : Qz H J (pw b e) := by
  have b2 := F.b2
  refine pw_bd b2 ?_ ?_ Z.h1 (by have := Z.pj; have := Z.p1; omega)
  · exact Nat.lt_of_le_of_lt (Nat.pow_le_pow_right (by omega) (by omega)) Z.hH
  · exact Nat.lt_of_le_of_lt (Nat.pow_le_pow_right (by omega) (by omega)) Z.hL
theorem Sz.c {c : Int} (h0 : 0 ≤ c) (h1 : c < ((b ^ p : Nat) : Int)) : Qz P 1 (c : Rat) := by
  have := Z.hP
  exact ⟨by rw [Rat.num_intCast]; unfold Bd; omega, by rw [Rat.den_intCast]; unfold Bd; decide⟩
theorem Sz.half {q : Rat} (h0 : 0 ≤ q) (hq : Qz (J + 540) (J + 540) q) : Qz (P + 2 + (J + 540)) (2 + J) (((2 * cQ b (eQ b p low q) q + 1 : Int) : Rat) / 2 * Lw.pw b (eQ b p low q)) := by
  have b2 := F.b2
  have pj := Z.pj; have p1 := Z.p1; have z1 := Z.h1
  have hE := eQ_is (p := p) b2 low q
  have c0 := c_ge b2 h0 (eQ b p low q)
  have c1 := c_lt b2 hE
  have ebd := F.e_bd hq h0 hE
  have el := hE.1
  generalize eQ b p low q = e at *
  have hu : Qz (J + 540) J (Lw.pw b e) := by
    refine pw_bd b2 ?_ ?_ (by omega) (by omega)
    · have h3 : 2 ^ H ≤ 2 ^ (J + 540) := Nat.pow_le_pow_right (by decide) (by omega)
      rcases ebd with ⟨h, _, _⟩ | h | h
      · exact Nat.lt_of_le_of_lt (Nat.le_mul_of_pos_left _ q.den_pos) h
      · have : e.toNat = 0 := by omega
        rw [this, Nat.pow_zero]; exact Nat.one_lt_two_pow (by omega)
      · have h5 : b ^ e.toNat ≤ b ^ high.toNat := Nat.pow_le_pow_right (by omega) (by have := F.lh; omega)
        have := Z.hH
        omega
    · exact Nat.lt_of_le_of_lt (Nat.pow_le_pow_right (by omega) (by omega)) Z.hL
  have hc : Qz (P + 2) 1 ((2 * cQ b e q + 1 : Int) : Rat) := by
    have := Z.hP
    have e4 : 2 ^ (P + 2) = 2 ^ P * 4 := by rw [Nat.pow_add]
    exact ⟨by rw [Rat.num_intCast]; unfold Bd; omega, by rw [Rat.den_intCast]; unfold Bd; decide⟩
  have h2 : Qz 2 1 (2 : Rat) := ⟨by unfold Bd; decide, by unfold Bd; decide⟩
  have h2' : Qz (P + 2) 2 (((2 * cQ b e q + 1 : Int) : Rat) / 2) := by
    rw [Rat.div_def]
    have hi : Qz 1 2 ((2 : Rat)⁻¹) := ⟨by unfold Bd; decide +kernel, by unfold Bd; decide +kernel⟩
    have e1 : ((2 * cQ b e q + 1 : Int) : Rat) * (2 : Rat)⁻¹ = (2 * cQ b e q + 1) /. 2 := by rw [← Rat.div_def, Rat.divInt_eq_div]; rfl
    rw [e1]
    have hn : Bd (P + 2) (2 * cQ b e q + 1) := by have := hc.nu; rwa [Rat.num_intCast] at this
    obtain ⟨z1, z2⟩ := divInt_bd (n := 2 * cQ b e q + 1) (d := 2) (by decide) hn (b := 2) (by unfold Bd; decide)
    exact ⟨z1, z2⟩
  exact (h2'.mul hu).le (by omega) (by omega)
end
end Lw
set_option exponentiation.threshold 20000
namespace Gd
open PySem PySem.Spec PyProof.Rows L2
section
variable {X : Cx} {Γ : List VD} {B B1 B2 B' : Bag} {e a b c : Expr} {pos : Pos}
end
end Gd
set_option exponentiation.threshold 20000
namespace Lw
open PySem PySem.Spec PyProof.Rows L2 Gd Fr
open scoped Rat
section
variable {X : Cx} {Γ : List VD} {B B1 B2 B' : Bag} {e a b c : Expr} {pos : Pos} {x y : Int × Int × Int}
end
def plc (v : Va) : Prop := v.isZ = true → v.sg = 0
def Sp.gd (b : Nat) : Sp → Prop
  | .none => True
  | .span u v => plc u ∧ plc v ∧ u ≠ .inf 0 ∧ v ≠ .inf 1 ∧ ¬ lex3 (plT v) (plT u)
def Sp.ok2 (b p : Nat) (low high : Int) (s : Sp) : Prop := s.ok b p low high ∧ s.gd b
def xeD (b : Nat) : Va → PyData
  | .inf s => if s = 0 then .tuple [.int 1, .int 0] else .tuple [.int (-1), .int 0]
  | v => fq (v.wQ b)
def wbV (b : Nat) : Va → Va → Bool
  | .inf s, .inf t => decide (s = 1) && decide (t = 0)
  | .inf s, _ => decide (s = 1)
  | _, .inf t => decide (t = 0)
  | u, v => decide (u.wQ b < v.wQ b)
theorem wb_iff {b p : Nat} {low high : Int} (F : Fm b p low high) {u v : Va} (hu : Vcan b p low high u) (hv : Vcan b p low high v) (nu : u.isNan = false) (nv : v.isNan = false) (pu : plc u) (pv : plc v) : wbV b u v = decide (lex3 (plT u) (plT v)) := by
  have h := less_iff F hv hu nv nu
  cases u with
  | nan => cases nu
  | inf s =>
    cases v with
    | nan => cases nv
    | inf t => rcases hu with rfl | rfl <;> rcases hv with rfl | rfl <;> rfl
    | num t c e =>
      show decide (s = 1) = _
      rcases hu with rfl | rfl <;> rcases hv.1 with rfl | rfl
      · exact (decide_eq_false (show ¬ ((1 : Int) < 0 ∨ ((1 : Int) = 0 ∧ (0 < e ∨ (0 = e ∧ 0 < c)))) by omega)).symm
      · exact (decide_eq_false (show ¬ ((1 : Int) < -1 ∨ ((1 : Int) = -1 ∧ (0 < -e ∨ (0 = -e ∧ 0 < -c)))) by omega)).symm
      · exact (decide_eq_true (show ((-2 : Int) < 0 ∨ ((-2 : Int) = 0 ∧ (0 < e ∨ (0 = e ∧ 0 < c)))) by omega)).symm
      · exact (decide_eq_true (show ((-2 : Int) < -1 ∨ ((-2 : Int) = -1 ∧ (0 < -e ∨ (0 = -e ∧ 0 < -c)))) by omega)).symm
  | num s c e =>
    cases v with
    | nan => cases nv
    | inf t =>
      show decide (t = 0) = _
      rcases hv with rfl | rfl <;> rcases hu.1 with rfl | rfl
      · exact (decide_eq_true (show ((0 : Int) < 1 ∨ ((0 : Int) = 1 ∧ (e < 0 ∨ (e = 0 ∧ c < 0)))) by omega)).symm
      · exact (decide_eq_true (show ((-1 : Int) < 1 ∨ ((-1 : Int) = 1 ∧ (-e < 0 ∨ (-e = 0 ∧ -c < 0)))) by omega)).symm
      · exact (decide_eq_false (show ¬ ((0 : Int) < -2 ∨ ((0 : Int) = -2 ∧ (e < 0 ∨ (e = 0 ∧ c < 0)))) by omega)).symm
      · exact (decide_eq_false (show ¬ ((-1 : Int) < -2 ∨ ((-1 : Int) = -2 ∧ (-e < 0 ∨ (-e = 0 ∧ -c < 0)))) by omega)).symm
    | num t c' e' =>
      show decide ((Va.num s c e).wQ b < (Va.num t c' e').wQ b) = _
      refine decide_eq_decide.mpr ?_
      have h2 : ¬ isLess b (.num t c' e') (.num s c e) ↔ lex3 (plT (.num s c e)) (plT (.num t c' e')) := by rw [h]; exact Decidable.not_not
      rw [← h2]
      unfold isLess
      have e1 : plI (.num s c e) = 0 := rfl
      have e2 : plI (.num t c' e') = 0 := rfl
      have e3 : hqQ b (.num s c e) = (Va.num s c e).wQ b := rfl
      have e4 : hqQ b (.num t c' e') = (Va.num t c' e').wQ b := rfl
      rw [e1, e2, e3, e4]
      have sgn_same : (Va.num s c e).wQ b = (Va.num t c' e').wQ b → s = t := by
        intro hw
        have w1 := wQ_sign F.b2 (c := c) (e := e) hu.1 hu.2.1.1
        have w2 := wQ_sign F.b2 (c := c') (e := e') hv.1 hv.2.1.1
        by_cases hz : c = 0
        · have p1 : s = 0 := pu (decide_eq_true hz)
          have z0 : (Va.num s c e).wQ b = 0 := by
            subst hz
            show ((if s = 1 then -0 else 0 : Int) : Rat) * pw b e = 0
            have : (if s = 1 then -0 else 0 : Int) = 0 := by split <;> rfl
            rw [this, Rat.intCast_zero, Rat.zero_mul]
          by_cases hz' : c' = 0
          · have p2 : t = 0 := pv (decide_eq_true hz')
            rw [p1, p2]
          · exfalso
            exact wQ_ne F.b2 (s := t) (e := e') (decide_eq_false hz') (by rw [← hw, z0])
        · have n1 := wQ_ne F.b2 (s := s) (e := e) (decide_eq_false hz)
          rcases hu.1 with rfl | rfl <;> rcases hv.1 with rfl | rfl
          · rfl
          · exfalso
            have : 0 < (Va.num 0 c e).wQ b := wQ_pos F.b2 (by have := hu.2.1.1; omega)
            have h3 := wQ_num_opp b (s := 0) (c := c') (e := e') (.inl rfl)
            have h4 : 0 ≤ (Va.num 0 c' e').wQ b := by
              rcases Int.lt_or_eq_of_le hv.2.1.1 with z | z
              · exact Rat.le_of_lt (wQ_pos F.b2 z)
              · show (0 : Rat) ≤ ((if (0 : Int) = 1 then -c' else c' : Int) : Rat) * pw b e'
                rw [if_neg (by decide), ← z, Rat.intCast_zero, Rat.zero_mul]; exact Rat.le_refl
            have h5 : (Va.num 1 c' e').wQ b = -(Va.num 0 c' e').wQ b := h3
            grind
          · exfalso
            have h3 := wQ_num_opp b (s := 0) (c := c) (e := e) (.inl rfl)
            have h5 : (Va.num 1 c e).wQ b = -(Va.num 0 c e).wQ b := h3
            have : 0 < (Va.num 0 c e).wQ b := wQ_pos F.b2 (by have := hu.2.1.1; omega)
            have h4 : 0 ≤ (Va.num 0 c' e').wQ b := by
              rcases Int.lt_or_eq_of_le hv.2.1.1 with z | z
              · exact Rat.le_of_lt (wQ_pos F.b2 z)
              · show (0 : Rat) ≤ ((if (0 : Int) = 1 then -c' else c' : Int) : Rat) * pw b e'
                rw [if_neg (by decide), ← z, Rat.intCast_zero, Rat.zero_mul]; exact Rat.le_refl
            grind
          · rfl
      constructor
      · rintro hl (z | ⟨_, z | ⟨z1, z2⟩⟩)
        · omega
        · grind
        · grind
      · intro hn
        refine Rat.not_le.mp fun z => hn ?_
        right
        refine ⟨rfl, ?_⟩
        by_cases hw : (Va.num t c' e').wQ b = (Va.num s c e).wQ b
        · right
          have := sgn_same hw.symm
          refine ⟨hw, ?_⟩
          show 1 - t ≤ 1 - s
          omega
        · left; grind
end Lw
namespace Lw
open PySem PySem.Spec PyProof.Rows L2 Gd Fr
open scoped Rat
def hullS : Sp → Sp → Sp
  | .none, t => t
  | s, .none => s
  | .span a b, .span c d => .span (minV a c) (maxV b d)
def liesB : Sp → Sp → Bool
  | .none, _ => true
  | _, .none => false
  | .span a b, .span c d => !decide (lex3 (plT a) (plT c)) && !decide (lex3 (plT d) (plT b))
section
variable {b p : Nat} {low high : Int} (F : Fm b p low high)
theorem Sp.u2 {u v : Va} (h : (Sp.span u v).ok2 b p low high) : Vcan b p low high u ∧ u.isNan = false ∧ plc u := ⟨h.1.1.1, h.1.1.2, h.2.1⟩
theorem Sp.v2 {u v : Va} (h : (Sp.span u v).ok2 b p low high) : Vcan b p low high v ∧ v.isNan = false ∧ plc v := ⟨h.1.2.1, h.1.2.2, h.2.2.1⟩
include F
omit F in
theorem lex3_trans {x y z : Int × Int × Int} (h1 : ¬ lex3 y x) (h2 : ¬ lex3 z y) : ¬ lex3 z x := by unfold lex3 at *; omega
end
inductive R_sp2 (f : Nat → Nat → Int → Int → Sp → Sp → PyData) : Rel
  | mk (b p : Nat) (low high : Int) (s t : Sp) (B : Bag) (F : Fm b p low high) (hs : s.ok2 b p low high) (ht : t.ok2 b p low high) : R_sp2 f [.da (fmP b p low high), .da s.d, .da t.d] B (f b p low high s t) B
def hullD (_ _ : Nat) (_ _ : Int) (s t : Sp) : PyData := (hullS s t).d
noncomputable def loV (b p : Nat) (low high : Int) (x : Rat) : Va := rdV b p low high "down" x 0
noncomputable def upV (b p : Nat) (low high : Int) (x : Rat) : Va := if (rdV b p low high "up" x 0).isZ = true then .num 0 0 low else rdV b p low high "up" x 0
inductive R_endx (f : Nat → Nat → Int → Int → Rat → Va) : Rel
  | mk (b p : Nat) (low high : Int) (x : Rat) (n d : Nat) (B : Bag) (F : Fm b p low high) (hx : Qz n d x) (hn : n ≤ 8900) (hd : d ≤ 6500) : R_endx f [.da (fmP b p low high), .da (fq x)] B (f b p low high x).d B
section
variable {b p : Nat} {low high : Int} (F : Fm b p low high)
include F
omit F in
theorem outV_inf {way : Str} {s e c k t : Int} : outV b p high way s e c k = .inf t → isInf way s = true := by
  intro z
  unfold outV at z
  by_cases h1 : high < (nb b p (outw way s c k) c e).2
  · rw [if_pos h1] at z
    by_cases h2 : isInf way s = true
    · exact h2
    · rw [if_neg h2] at z; cases z
  · rw [if_neg h1] at z; cases z
theorem lo_can (x : Rat) : Vcan b p low high (loV b p low high x) ∧ (loV b p low high x).isNan = false ∧ plc (loV b p low high x) ∧ loV b p low high x ≠ .inf 0 := by
  have h := rdV_can F (way := "down") (x := x) (s := 0) (.inl rfl)
  have hs := rdV_sg F (way := "down") (x := x) (s := 0)
  unfold loV
  refine ⟨h.1, h.2, fun hz => ?_, fun z => ?_⟩
  · rw [hs]
    by_cases hx : x = 0
    · rw [if_pos hx]
    · rw [if_neg hx, sgn_eq]
      by_cases hn : x < 0
      · exfalso
        obtain ⟨s', c, e, ev⟩ : ∃ s c e, rdV b p low high "down" x 0 = .num s c e := by
          generalize rdV b p low high "down" x 0 = v at *
          cases v <;> first | exact ⟨_, _, _, rfl⟩ | cases hz
        have hd := down_le F (.inl rfl) ev
        rw [ev] at hz
        have hc : c = 0 := of_decide_eq_true hz
        subst hc
        have w0 : (Va.num s' 0 e).wQ b = 0 := by
          show ((if s' = 1 then -0 else 0 : Int) : Rat) * pw b e = 0
          have : (if s' = 1 then -0 else 0 : Int) = 0 := by split <;> rfl
          rw [this, Rat.intCast_zero, Rat.zero_mul]
        rw [w0] at hd
        grind
      · rw [if_neg hn]
  · rw [z] at hs
    have e0 : (0 : Int) = if x = 0 then 0 else sgn x := hs
    have hi := outV_inf z
    rw [← e0] at hi
    revert hi; decide
theorem up_can (x : Rat) : Vcan b p low high (upV b p low high x) ∧ (upV b p low high x).isNan = false ∧ plc (upV b p low high x) ∧ upV b p low high x ≠ .inf 1 := by
  have h := rdV_can F (way := "up") (x := x) (s := 0) (.inl rfl)
  have hs := rdV_sg F (way := "up") (x := x) (s := 0)
  unfold upV
  by_cases hz : (rdV b p low high "up" x 0).isZ = true
  · rw [if_pos hz]
    exact ⟨zero_can F (.inl rfl), rfl, fun _ => rfl, fun z => Va.noConfusion z⟩
  · rw [if_neg hz]
    refine ⟨h.1, h.2, fun z => absurd z hz, fun z => ?_⟩
    rw [z] at hs
    have e0 : (1 : Int) = if x = 0 then 0 else sgn x := hs
    have hi := outV_inf z
    rw [← e0] at hi
    revert hi; decide
end
end Lw
set_option exponentiation.threshold 20000
namespace Lw
open PySem PySem.Spec PyProof.Rows L2 Gd Fr
open scoped Rat
def holdB (b : Nat) (s : Sp) (x : Rat) : Bool :=
  match s with
  | .none => false
  | .span u v => !(u.isNum && decide (x < u.wQ b)) && (v.isInf || !decide (v.wQ b < x))
section
variable {b p : Nat} {low high : Int} (F : Fm b p low high)
include F
theorem lo_iff {u : Va} (hu : Vcan b p low high u) (nu : u.isNan = false) (pu : plc u) (iu : u ≠ .inf 0) (x : Rat) : decide (lex3 (plT (loV b p low high x)) (plT u)) = (u.isNum && decide (x < u.wQ b)) := by
  obtain ⟨c1, n1, p1, i1⟩ := lo_can F x
  rw [← wb_iff F c1 hu n1 nu p1 pu]
  have hm := fun y t ht h => rd_mono F (way := "down") (by decide) (x := y) (y := x) (s := t) (t := 0) ht (.inl rfl) h
  have hd : ∀ {s c e : Int}, loV b p low high x = .num s c e → (Va.num s c e).wQ b ≤ x := fun h => down_le F (.inl rfl) h
  have hom := fun y t ht h => ord_mono F (way := "down") (by decide) (x := y) (y := x) (s := t) (t := 0) ht (.inl rfl) h
  have el : rdV b p low high "down" x 0 = loV b p low high x := rfl
  rw [el] at hm hom
  generalize loV b p low high x = L at *
  cases u with
  | nan => cases nu
  | inf s =>
    have hs : s = 1 := by rcases hu with rfl | rfl <;> first | exact absurd rfl iu | rfl
    subst hs
    cases L with
    | nan => cases n1
    | inf t => show (decide (t = 1) && decide ((1 : Int) = 0)) = false; rw [Bool.and_eq_false_iff]; exact .inr rfl
    | num t c e => rfl
  | num s c e =>
    obtain ⟨r1, _⟩ := rd_self F (way := "down") hu.1 hu.2.1 hu.2.2
    cases L with
    | nan => cases n1
    | inf t =>
      have ht : t = 1 := by rcases c1 with rfl | rfl <;> first | exact absurd rfl i1 | rfl
      subst ht
      show decide ((1 : Int) = 1) = decide (x < (Va.num s c e).wQ b)
      refine (decide_eq_true ?_).symm
      refine Rat.not_le.mp fun z => ?_
      have h := hm _ s hu.1 z
      rw [r1, rk_inf (.inr rfl), if_pos rfl] at h
      have := rk_num_lt F (s := s) hu.2.1 hu.2.2
      omega
    | num t c' e' =>
      show decide ((Va.num t c' e').wQ b < (Va.num s c e).wQ b) = decide (x < (Va.num s c e).wQ b)
      have h1 := hd rfl
      refine decide_eq_decide.mpr ⟨fun h => ?_, fun h => by grind⟩
      refine Rat.not_le.mp fun z => ?_
      have h3 := hom _ s hu.1 z
      rw [r1, ord_num] at h3
      unfold cmp at h3
      rw [if_neg (by grind), if_pos h] at h3
      omega
theorem up_iff {v : Va} (hv : Vcan b p low high v) (nv : v.isNan = false) (pv : plc v) (iv : v ≠ .inf 1) (x : Rat) : decide (lex3 (plT v) (plT (upV b p low high x))) = (!(v.isInf || !decide (v.wQ b < x))) := by
  obtain ⟨c1, n1, p1, i1⟩ := up_can F x
  rw [← wb_iff F hv c1 nv n1 pv p1]
  have hw : (upV b p low high x = .inf 0 ∧ rdV b p low high "up" x 0 = .inf 0) ∨ ∃ s c e s' c' e', upV b p low high x = .num s c e ∧ rdV b p low high "up" x 0 = .num s' c' e' ∧ (Va.num s c e).wQ b = (Va.num s' c' e').wQ b := by
    unfold upV at *
    by_cases hz : (rdV b p low high "up" x 0).isZ = true
    · rw [if_pos hz]
      right
      generalize rdV b p low high "up" x 0 = U at *
      cases U with
      | num s' c' e' =>
        refine ⟨_, _, _, _, _, _, rfl, rfl, ?_⟩
        have hc : c' = 0 := of_decide_eq_true hz
        subst hc
        have w0 : ∀ t f : Int, (Va.num t 0 f).wQ b = 0 := fun t f => by
          show ((if t = 1 then -0 else 0 : Int) : Rat) * pw b f = 0
          have : (if t = 1 then -0 else 0 : Int) = 0 := by split <;> rfl
          rw [this, Rat.intCast_zero, Rat.zero_mul]
        rw [w0, w0]
      | _ => cases hz
    · rw [if_neg hz] at *
      generalize rdV b p low high "up" x 0 = U at *
      cases U with
      | nan => cases n1
      | inf t =>
        left
        have : t = 0 := by rcases c1 with rfl | rfl <;> first | rfl | exact absurd rfl i1
        subst this
        exact ⟨rfl, rfl⟩
      | num s' c' e' => right; exact ⟨_, _, _, _, _, _, rfl, rfl, rfl⟩
  have hm := fun y t ht h => rd_mono F (way := "up") (by decide) (x := x) (y := y) (s := 0) (t := t) (.inl rfl) ht h
  have hd : ∀ {s c e : Int}, rdV b p low high "up" x 0 = .num s c e → x ≤ (Va.num s c e).wQ b := fun h => up_ge F (.inl rfl) h
  have hom := fun y t ht h => ord_mono F (way := "up") (by decide) (x := x) (y := y) (s := 0) (t := t) (.inl rfl) ht h
  generalize upV b p low high x = L at *
  generalize rdV b p low high "up" x 0 = U at *
  cases v with
  | nan => cases nv
  | inf s =>
    have hs : s = 0 := by rcases hv with rfl | rfl <;> first | rfl | exact absurd rfl iv
    subst hs
    cases L with
    | nan => cases n1
    | inf t => rfl
    | num t c e => rfl
  | num s c e =>
    obtain ⟨r1, _⟩ := rd_self F (way := "up") hv.1 hv.2.1 hv.2.2
    show _ = !(false || !decide ((Va.num s c e).wQ b < x))
    rw [Bool.false_or, Bool.not_not]
    rcases hw with ⟨rfl, rfl⟩ | ⟨s1, c1', e1, s2, c2, e2, rfl, rfl, hww⟩
    · show decide ((0 : Int) = 0) = _
      refine (decide_eq_true ?_).symm
      refine Rat.not_le.mp fun z => ?_
      have h := hm _ s hv.1 z
      rw [r1, rk_inf (.inl rfl), if_neg (by decide)] at h
      have := rk_num_lt F (s := s) hv.2.1 hv.2.2
      omega
    · show decide ((Va.num s c e).wQ b < (Va.num s1 c1' e1).wQ b) = decide ((Va.num s c e).wQ b < x)
      have h1 := hd rfl
      rw [hww]
      refine decide_eq_decide.mpr ⟨fun h => ?_, fun h => by grind⟩
      refine Rat.not_le.mp fun z => ?_
      have h3 := hom _ s hv.1 z
      rw [r1, ord_num] at h3
      unfold cmp at h3
      rw [if_neg (by grind), if_pos h] at h3
      omega
theorem hold_iff {s : Sp} (hs : s.ok2 b p low high) (x : Rat) : liesB (.span (loV b p low high x) (upV b p low high x)) s = holdB b s x := by
  cases s with
  | none => rfl
  | span u v =>
    obtain ⟨cu, nu, pu⟩ := Sp.u2 hs
    obtain ⟨cv, nv, pv⟩ := Sp.v2 hs
    show (!decide (lex3 (plT (loV b p low high x)) (plT u)) && !decide (lex3 (plT v) (plT (upV b p low high x)))) = _
    rw [lo_iff F cu nu pu hs.2.2.2.1 x, up_iff F cv nv pv hs.2.2.2.2.1 x, Bool.not_not]
    rfl
theorem lo_up {x y : Rat} (h : x ≤ y) : (Sp.span (loV b p low high x) (upV b p low high y)).ok2 b p low high := by
  obtain ⟨c1, n1, p1, i1⟩ := lo_can F x
  obtain ⟨c2, n2, p2, i2⟩ := up_can F y
  refine ⟨⟨⟨c1, n1⟩, c2, n2⟩, p1, p2, i1, i2, fun z => ?_⟩
  cases hL : loV b p low high x with
  | nan => rw [hL] at n1; cases n1
  | inf t =>
    have ht : t = 1 := by rw [hL] at c1 i1; rcases c1 with rfl | rfl <;> first | exact absurd rfl i1 | rfl
    subst ht
    rw [hL] at z
    cases hU : upV b p low high y with
    | nan => rw [hU] at n2; cases n2
    | inf t2 =>
      rw [hU] at z i2 c2
      rcases c2 with rfl | rfl
      · revert z; decide
      · exact i2 rfl
    | num s c e =>
      rw [hU] at z c2
      rcases c2.1 with rfl | rfl
      · have z : (0 : Int) < -2 ∨ ((0 : Int) = -2 ∧ (e < 0 ∨ (e = 0 ∧ c < 0))) := z
        omega
      · have z : (-1 : Int) < -2 ∨ ((-1 : Int) = -2 ∧ (-e < 0 ∨ (-e = 0 ∧ -c < 0))) := z
        omega
  | num s c e =>
    have hd : (Va.num s c e).wQ b ≤ x := down_le F (.inl rfl) hL
    have hu := up_iff F (v := .num s c e) (by rw [← hL]; exact c1) rfl (by rw [← hL]; exact p1) (fun q => Va.noConfusion q) y
    have hu2 : decide (lex3 (plT (upV b p low high y)) (plT (.num s c e))) = true := decide_eq_true (by rw [← hL]; exact z)
    have hl := wb_iff F c2 (v := .num s c e) (by rw [← hL]; exact c1) n2 rfl p2 (by rw [← hL]; exact p1)
    rw [hu2] at hl
    cases hU : upV b p low high y with
    | nan => rw [hU] at n2; cases n2
    | inf t2 =>
      rw [hU] at hl i2 c2
      have hl : decide (t2 = 1) = true := hl
      exact i2 (by rw [of_decide_eq_true hl])
    | num s2 c2' e2 =>
      rw [hU] at hl hu
      have hl : decide ((Va.num s2 c2' e2).wQ b < (Va.num s c e).wQ b) = true := hl
      have hl := of_decide_eq_true hl
      have hy : y ≤ (Va.num s2 c2' e2).wQ b := by
        have hU2 := hU
        unfold upV at hU2
        by_cases hz : (rdV b p low high "up" y 0).isZ = true
        · rw [if_pos hz] at hU2
          have ez : Va.num 0 0 low = Va.num s2 c2' e2 := hU2
          obtain ⟨s', c', e', ev⟩ : ∃ s c e, rdV b p low high "up" y 0 = .num s c e := by
            generalize rdV b p low high "up" y 0 = v at *
            cases v <;> first | exact ⟨_, _, _, rfl⟩ | cases hz
          have h1 := up_ge F (.inl rfl) ev
          rw [ev] at hz
          have hc : c' = 0 := of_decide_eq_true hz
          subst hc
          have w0 : ∀ t f : Int, (Va.num t 0 f).wQ b = 0 := fun t f => by
            show ((if t = 1 then -0 else 0 : Int) : Rat) * pw b f = 0
            have : (if t = 1 then -0 else 0 : Int) = 0 := by split <;> rfl
            rw [this, Rat.intCast_zero, Rat.zero_mul]
          rw [w0] at h1
          rw [← ez, w0]; exact h1
        · rw [if_neg hz] at hU2
          exact up_ge F (.inl rfl) hU2
      grind
end
def plcV : Va → Va
  | .num s c e => .num (if c = 0 then 0 else s) c e
  | v => v
inductive R_placedV : Rel
  | mk (v : Va) (B : Bag) (nv : v.isNan = false) : R_placedV [.da v.d] B (plcV v).d B
theorem plc_lo {b p : Nat} {low high : Int} (F : Fm b p low high) (x : Rat) : plcV (loV b p low high x) = loV b p low high x := by
  obtain ⟨c1, n1, p1, i1⟩ := lo_can F x
  generalize loV b p low high x = L at *
  cases L with
  | num s c e =>
    show Va.num (if c = 0 then 0 else s) c e = _
    by_cases hc : c = 0
    · rw [if_pos hc]
      have : s = 0 := p1 (decide_eq_true hc)
      rw [this]
    · rw [if_neg hc]
  | _ => rfl
theorem plc_up {b p : Nat} {low high : Int} (F : Fm b p low high) (x : Rat) : plcV (rdV b p low high "up" x 0) = upV b p low high x := by
  have h := (rdV_can F (way := "up") (x := x) (s := 0) (.inl rfl)).1
  unfold upV
  generalize rdV b p low high "up" x 0 = L at *
  cases L with
  | num s c e =>
    show Va.num (if c = 0 then 0 else s) c e = if decide (c = 0) = true then _ else _
    by_cases hc : c = 0
    · rw [if_pos hc, decide_eq_true hc, if_pos rfl]
      subst hc
      have : e = low := by
        rcases h.2.1.2.2.2 with z | z
        · exact z
        · have := F.pows.l2; omega
      rw [this]
    · rw [if_neg hc, decide_eq_false hc, if_neg Bool.false_ne_true]
  | _ => rfl
def intoS (b0 b p : Nat) (low high : Int) (LO UP : Rat → Va) : Sp → Sp
  | .none => .none
  | .span u v => .span (if u.isNum = true then LO (u.wQ b0) else u) (if v.isNum = true then UP (v.wQ b0) else v)
noncomputable def intoD (b0 b p : Nat) (low high : Int) (s : Sp) : PyData := (intoS b0 b p low high (loV b p low high) (upV b p low high) s).d
inductive R_wbel : Rel
  | mk (b p : Nat) (low high : Int) (u v : Va) (B : Bag) (F : Fm b p low high) (hu : Vok b p low high u) (hv : Vok b p low high v) (nu : u.isNan = false) (nv : v.isNan = false) : R_wbel [.da (xeD b u), .da (xeD b v)] B (.bool (wbV b u v)) B
inductive R_lspan : Rel
  | none (b p : Nat) (low high : Int) (B : Bag) (F : Fm b p low high) : R_lspan [.da (fmP b p low high), .da .none] B (Sp.d .none) B
  | fr (b p : Nat) (low high : Int) (x y : Rat) (n d : Nat) (B : Bag) (F : Fm b p low high) (hx : Qz n d x) (hy : Qz n d y) (hn : n ≤ 8900) (hd : d ≤ 6500) :
      R_lspan [.da (fmP b p low high), .da (.tuple [fq x, fq y])] B (Sp.d (.span (loV b p low high x) (upV b p low high y))) B
  | ends (b p : Nat) (low high : Int) (b' p' : Nat) (low' high' : Int) (u v : Va) (B : Bag) (F : Fm b p low high) (F' : Fm b' p' low' high') (hs : (Sp.span u v).ok2 b p low high) :
      R_lspan [.da (fmP b' p' low' high'), .da (.tuple [xeD b u, xeD b v])] B (intoD b b' p' low' high' (.span u v)) B
inductive R_dhold : Rel
  | mk (b p : Nat) (low high : Int) (s : Sp) (x : Rat) (n d : Nat) (B : Bag) (F : Fm b p low high) (hs : s.ok2 b p low high) (hx : Qz n d x) (hn : n ≤ 8900) (hd : d ≤ 8900) : R_dhold [.da (fmP b p low high), .da s.d, .da (fq x)] B (.bool (holdB b s x)) B
end Lw
namespace Lw
open PySem PySem.Spec PyProof.Rows L2 Gd Fr
open scoped Rat
def xn (b : Nat) : Va → Int
  | .inf s => if s = 0 then 1 else -1
  | v => (v.wQ b).num
def xd (b : Nat) : Va → Int
  | .inf _ => 0
  | v => ((v.wQ b).den : Int)
theorem xe_pair (b : Nat) (u : Va) : xeD b u = .tuple [.int (xn b u), .int (xd b u)] := by
  cases u with
  | inf s => unfold xeD xn xd; by_cases h : s = 0 <;> simp [h]
  | _ => rfl
def wbP (b : Nat) (u v : Va) : Bool := !(decide (xn b u = xn b v) && decide (xd b u = xd b v)) && ((decide (xn b u = -1) && decide (xd b u = 0)) || (decide (xn b v = 1) && decide (xd b v = 0)))
theorem wb_pair {b p : Nat} {low high : Int} {u v : Va} (hu : Vok b p low high u) (hv : Vok b p low high v) (nu : u.isNan = false) (nv : v.isNan = false) (h : (decide (xd b u = 0) || decide (xd b v = 0)) = true) : wbP b u v = wbV b u v := by
  have dz : ∀ s c e : Int, ¬ (((Va.num s c e).wQ b).den : Int) = 0 := fun s c e => den_ne _
  cases u with
  | nan => cases nu
  | inf s =>
    cases v with
    | nan => cases nv
    | inf t => rcases hu with rfl | rfl <;> rcases hv with rfl | rfl <;> rfl
    | num t c e =>
      have e1 : decide (xd b (.num t c e) = 0) = false := decide_eq_false (dz t c e)
      have e2 : decide (xd b (.inf s) = xd b (.num t c e)) = false := decide_eq_false (fun z => dz t c e z.symm)
      unfold wbP
      rw [e1, e2, Bool.and_false, Bool.and_false, Bool.or_false]
      rcases hu with rfl | rfl <;> rfl
  | num s c e =>
    have e1 : decide (xd b (.num s c e) = 0) = false := decide_eq_false (dz s c e)
    cases v with
    | nan => cases nv
    | inf t =>
      have e2 : decide (xd b (.num s c e) = xd b (.inf t)) = false := decide_eq_false (dz s c e)
      unfold wbP
      rw [e1, e2, Bool.and_false, Bool.and_false, Bool.false_or]
      rcases hv with rfl | rfl <;> rfl
    | num t c' e' =>
      have e2 : decide (xd b (.num t c' e') = 0) = false := decide_eq_false (dz t c' e')
      rw [e1, e2] at h; cases h
end Lw
set_option exponentiation.threshold 20000
namespace Lw
open PySem PySem.Spec PyProof.Rows L2 Gd Fr
open scoped Rat
theorem plc_inf (s : Int) : plc (.inf s) := fun h => by cases h
theorem lex_irr (x : Int × Int × Int) : ¬ lex3 x x := fun h => lex3_asym h h
theorem low_lex {b p : Nat} {low high : Int} {v : Va} (hv : Vcan b p low high v) (nv : v.isNan = false) : ¬ lex3 (plT v) (plT (.inf 1)) := by
  have e : plT (.inf 1) = (-2, 0, 0) := rfl
  rw [e]
  cases v with
  | nan => cases nv
  | inf t => rcases hv with rfl | rfl <;> decide
  | num t c e =>
    rcases hv.1 with rfl | rfl
    · exact fun z => by have z : (0 : Int) < -2 ∨ ((0 : Int) = -2 ∧ (e < 0 ∨ (e = 0 ∧ c < 0))) := z; omega
    · exact fun z => by have z : (-1 : Int) < -2 ∨ ((-1 : Int) = -2 ∧ (-e < 0 ∨ (-e = 0 ∧ -c < 0))) := z; omega
theorem top_lex {b p : Nat} {low high : Int} {v : Va} (hv : Vcan b p low high v) (nv : v.isNan = false) : ¬ lex3 (plT (.inf 0)) (plT v) := by
  have e : plT (.inf 0) = (1, 0, 0) := rfl
  rw [e]
  cases v with
  | nan => cases nv
  | inf t => rcases hv with rfl | rfl <;> decide
  | num t c e =>
    rcases hv.1 with rfl | rfl
    · exact fun z => by have z : (1 : Int) < 0 ∨ ((1 : Int) = 0 ∧ (0 < e ∨ (0 = e ∧ 0 < c))) := z; omega
    · exact fun z => by have z : (1 : Int) < -1 ∨ ((1 : Int) = -1 ∧ (0 < -e ∨ (0 = -e ∧ 0 < -c))) := z; omega
def Cm (N k : Nat) (x : Rat) : Prop := ∃ m : Int, x * ((N : Int) : Rat) = (m : Rat) ∧ Bd k m
theorem Cm.add {N k j : Nat} {x y : Rat} (h : Cm N k x) (h' : Cm N j y) : Cm N (k + j + 1) (x + y) := by
  obtain ⟨m, e, b⟩ := h
  obtain ⟨m', e', b'⟩ := h'
  exact ⟨m + m', by rw [Rat.intCast_add, ← e, ← e']; grind, b.add b'⟩
theorem bd_sum2 {n : Nat} {i j : Int} (h : Bd n i) (k : Bd n j) : Bd (n + 1) (i + j) := by
  unfold Bd at *
  have : 2 ^ (n + 1) = 2 ^ n * 2 := Nat.pow_succ 2 n
  omega
theorem Cm.add' {N k : Nat} {x y : Rat} (h : Cm N k x) (h' : Cm N k y) : Cm N (k + 1) (x + y) := by
  obtain ⟨m, e, b⟩ := h
  obtain ⟨m', e', b'⟩ := h'
  exact ⟨m + m', by rw [Rat.intCast_add, ← e, ← e']; grind, bd_sum2 b b'⟩
theorem Cm.neg {N k : Nat} {x : Rat} (h : Cm N k x) : Cm N k (-x) := by
  obtain ⟨m, e, b⟩ := h
  exact ⟨-m, by rw [Rat.intCast_neg, ← e]; grind, b.neg⟩
theorem Cm.sub' {N k : Nat} {x y : Rat} (h : Cm N k x) (h' : Cm N k y) : Cm N (k + 1) (x - y) := by
  rw [Rat.sub_eq_add_neg]; exact h.add' h'.neg
theorem Cm.le {N k j : Nat} {x : Rat} (h : Cm N k x) (e : k ≤ j) : Cm N j x := by
  obtain ⟨m, e1, b⟩ := h
  exact ⟨m, e1, b.le e⟩
theorem Cm.more {N k j : Nat} {x : Rat} (M : Nat) (hM : M < 2 ^ j) (h : Cm N k x) : Cm (M * N) (j + k) x := by
  obtain ⟨m, e1, b⟩ := h
  exact ⟨(M : Int) * m, by rw [Int.natCast_mul, Rat.intCast_mul, Rat.intCast_mul, ← e1]; grind, (Bd.nat hM).mul b⟩
theorem Cm.qz {N k d : Nat} {x : Rat} (h : Cm N k x) (hN : 0 < N) (hd : N < 2 ^ d) : Qz k d x := by
  obtain ⟨m, e, b⟩ := h
  rw [Rat.intCast_natCast] at e
  have h1 := den_le hN e
  refine ⟨?_, Bd.nat (Nat.lt_of_le_of_lt h1 hd)⟩
  have e2 : x.num * (N : Int) = m * (x.den : Int) := by
    rw [← Rat.intCast_inj, Rat.intCast_mul, Rat.intCast_mul, ← e, ← num_den x, Rat.intCast_natCast, Rat.intCast_natCast]; grind
  have e3 : x.num.natAbs * N = m.natAbs * x.den := by
    have := congrArg Int.natAbs e2
    rwa [Int.natAbs_mul, Int.natAbs_mul, Int.natAbs_natCast, Int.natAbs_natCast] at this
  have h3 : m.natAbs * x.den ≤ m.natAbs * N := Nat.mul_le_mul_left _ h1
  have h4 : x.num.natAbs ≤ m.natAbs := by
    rw [← e3] at h3
    exact Nat.le_of_mul_le_mul_right h3 hN
  unfold Bd at *
  omega
theorem worth_cm {b p : Nat} {low high : Int} (F : Fm b p low high) {v : Va} (h : Vok b p low high v) : Cm (b ^ (-low).toNat) 5380 (v.wQ b) := by
  obtain ⟨m, e⟩ := w_int F h
  have qz := F.wz h
  refine ⟨m, by rw [Rat.intCast_natCast]; exact e, ?_⟩
  have hL : b ^ (-low).toNat < 2 ^ 2340 := F.bl
  generalize b ^ (-low).toNat = L at *
  have e2 : (v.wQ b).num * (L : Int) = m * ((v.wQ b).den : Int) := by
    rw [← Rat.intCast_inj, Rat.intCast_mul, Rat.intCast_mul, ← e, ← num_den (v.wQ b), Rat.intCast_natCast, Rat.intCast_natCast]; grind
  have e3 : (v.wQ b).num.natAbs * L = m.natAbs * (v.wQ b).den := by
    have := congrArg Int.natAbs e2
    rwa [Int.natAbs_mul, Int.natAbs_mul, Int.natAbs_natCast, Int.natAbs_natCast] at this
  have h1 := qz.nu
  unfold Bd at *
  have h3 : m.natAbs ≤ m.natAbs * (v.wQ b).den := Nat.le_mul_of_pos_right _ (v.wQ b).den_pos
  have h4 : (v.wQ b).num.natAbs * L < 2 ^ 3040 * 2 ^ 2340 := Nat.mul_lt_mul'' h1 hL
  rw [← Nat.pow_add] at h4
  omega
def farL : List Rat := [1, 3, 1 / 7]
def witL : List Rat := [0, 1, 1 / 2, 1 / 3, 1 / 1000, 999 / 1000]
theorem far_is : PyData.list [.tuple [.int 1, .int 1], .tuple [.int 3, .int 1], .tuple [.int 1, .int 7]] = .list (farL.map fq) := by
  unfold farL
  simp only [List.map_cons, List.map_nil]
  rw [← fq_mk (q := 1) (n := 1) (d := 1) (by decide +kernel) (by decide +kernel), ← fq_mk (q := 3) (n := 3) (d := 1) (by decide +kernel) (by decide +kernel), ← fq_mk (q := 1 / 7) (n := 1) (d := 7) (by decide +kernel) (by decide +kernel)]
theorem wit_is : PyData.list [.tuple [.int 0, .int 1], .tuple [.int 1, .int 1], .tuple [.int 1, .int 2], .tuple [.int 1, .int 3], .tuple [.int 1, .int 1000], .tuple [.int 999, .int 1000]] = .list (witL.map fq) := by
  unfold witL
  simp only [List.map_cons, List.map_nil]
  rw [← fq_mk (q := 0) (n := 0) (d := 1) (by decide +kernel) (by decide +kernel), ← fq_mk (q := 1) (n := 1) (d := 1) (by decide +kernel) (by decide +kernel), ← fq_mk (q := 1 / 2) (n := 1) (d := 2) (by decide +kernel) (by decide +kernel), ← fq_mk (q := 1 / 3) (n := 1) (d := 3) (by decide +kernel) (by decide +kernel), ← fq_mk (q := 1 / 1000) (n := 1) (d := 1000) (by decide +kernel) (by decide +kernel), ← fq_mk (q := 999 / 1000) (n := 999) (d := 1000) (by decide +kernel) (by decide +kernel)]
theorem wit_cm {N k : Nat} {x : Rat} (h : Cm N k x) : ∀ f ∈ witL, Qz 10 10 f ∧ Cm (3000 * N) (12 + k) (f * x) := by
  intro f hf
  obtain ⟨m, e, hb⟩ := h
  have e3 : ∀ (a : Int) (g : Rat), g * 3000 = (a : Rat) → g * x * (((3000 * N : Nat) : Int) : Rat) = ((a * m : Int) : Rat) := by
    intro a g hg
    rw [Int.natCast_mul, Rat.intCast_mul, Rat.intCast_mul, ← e, ← hg]
    have : (((3000 : Nat) : Int) : Rat) = 3000 := rfl
    rw [this]; grind
  have bm : ∀ a : Int, Bd 12 a → Bd (12 + k) (a * m) := fun a ha => ha.mul hb
  unfold witL at hf
  simp only [List.mem_cons, List.not_mem_nil, or_false] at hf
  rcases hf with rfl | rfl | rfl | rfl | rfl | rfl
  · exact ⟨⟨by unfold Bd; decide +kernel, by unfold Bd; decide +kernel⟩, 0 * m, e3 0 0 (by decide +kernel), bm 0 (by unfold Bd; decide)⟩
  · exact ⟨⟨by unfold Bd; decide +kernel, by unfold Bd; decide +kernel⟩, 3000 * m, e3 3000 1 (by decide +kernel), bm 3000 (by unfold Bd; decide)⟩
  · exact ⟨⟨by unfold Bd; decide +kernel, by unfold Bd; decide +kernel⟩, 1500 * m, e3 1500 (1 / 2) (by decide +kernel), bm 1500 (by unfold Bd; decide)⟩
  · exact ⟨⟨by unfold Bd; decide +kernel, by unfold Bd; decide +kernel⟩, 1000 * m, e3 1000 (1 / 3) (by decide +kernel), bm 1000 (by unfold Bd; decide)⟩
  · exact ⟨⟨by unfold Bd; decide +kernel, by unfold Bd; decide +kernel⟩, 3 * m, e3 3 (1 / 1000) (by decide +kernel), bm 3 (by unfold Bd; decide)⟩
  · exact ⟨⟨by unfold Bd; decide +kernel, by unfold Bd; decide +kernel⟩, 2997 * m, e3 2997 (999 / 1000) (by decide +kernel), bm 2997 (by unfold Bd; decide)⟩
inductive R_alikeT : Rel
  | mk (d : PyData) (B : Bag) (h : OkB d) (hb : boxed d = true ∨ d = .none ∨ ∃ b, d = .bool b) : R_alikeT [.da d, .da d] B (.bool true) B
end Lw
set_option exponentiation.threshold 20000
namespace Gd
open PySem PySem.Spec PyProof.Rows L2
section
variable {X : Cx} {Γ : List VD} {B B1 B2 B' : Bag} {e a b c : Expr} {pos p : Pos} {Φ : Post}
end
end Gd
set_option exponentiation.threshold 20000
namespace Lw
open PySem PySem.Spec PyProof.Rows L2 Gd Fr
open scoped Rat
section
variable {b p : Nat} {low high : Int} (F : Fm b p low high)
include F
end
end Lw
set_option exponentiation.threshold 20000
namespace Lw
open PySem PySem.Spec PyProof.Rows L2 Gd Fr
open scoped Rat
inductive Xe | lo | hi | q (r : Rat)
deriving DecidableEq
namespace Xe
def d : Xe → PyData
  | .lo => .tuple [.int (-1), .int 0]
  | .hi => .tuple [.int 1, .int 0]
  | .q r => fq r
def n : Xe → Int
  | .lo => -1
  | .hi => 1
  | .q r => r.num
def e : Xe → Int
  | .q r => (r.den : Int)
  | _ => 0
theorem pair (x : Xe) : x.d = .tuple [.int x.n, .int x.e] := by cases x <;> rfl
def bd (n d : Nat) : Xe → Prop
  | .q r => Qz n d r
  | _ => True
def lt : Xe → Xe → Bool
  | .q a, .q b => decide (a < b)
  | .lo, .lo => false
  | .lo, _ => true
  | .q _, .hi => true
  | _, _ => false
def add : Xe → Xe → Xe
  | .q a, .q b => .q (a + b)
  | .q _, y => y
  | x, _ => x
def neg : Xe → Xe
  | .lo => .hi
  | .hi => .lo
  | .q a => .q (-a)
def mul (x y : Xe) : Xe :=
  if x.n = 0 ∨ y.n = 0 then .q 0 else match x, y with
    | .q a, .q b => .q (a * b)
    | _, _ => if decide (0 < x.n) = decide (0 < y.n) then .hi else .lo
def min (x y : Xe) : Xe := if y.lt x = true then y else x
def max (x y : Xe) : Xe := if x.lt y = true then y else x
theorem eqs (x y : Xe) : (decide (x.n = y.n) && decide (x.e = y.e)) = true ↔ x = y := by
  rw [Bool.and_eq_true, decide_eq_true_eq, decide_eq_true_eq]
  refine ⟨fun ⟨h1, h2⟩ => ?_, fun h => by rw [h]; exact ⟨rfl, rfl⟩⟩
  cases x with
  | q a =>
    have da : ¬ (a.den : Int) = 0 := den_ne a
    cases y with
    | q b =>
      have h1 : a.num = b.num := h1
      have h2 : (a.den : Int) = (b.den : Int) := h2
      congr 1
      exact Rat.ext h1 (by omega)
    | lo => exact absurd h2 da
    | hi => exact absurd h2 da
  | lo =>
    cases y with
    | q b => exact absurd h2.symm (den_ne b)
    | lo => rfl
    | hi => exact absurd h1 (by decide)
  | hi =>
    cases y with
    | q b => exact absurd h2.symm (den_ne b)
    | hi => rfl
    | lo => exact absurd h1 (by decide)
theorem eqv (x y : Xe) : PyData.eqv x.d y.d = true ↔ x = y := by rw [pair x, pair y, eqv_ii]; exact eqs x y
theorem irr (x : Xe) : x.lt x = false := by
  cases x with
  | q a => exact decide_eq_false (by grind)
  | _ => rfl
theorem asym {x y : Xe} (h : x.lt y = true) : y.lt x = false := by
  cases x <;> cases y <;> simp_all [lt] <;> grind
theorem tot {x y : Xe} (h : x.lt y = false) (h2 : y.lt x = false) : x = y := by
  cases x <;> cases y <;> simp_all [lt] <;> grind
theorem trans {x y z : Xe} (h : x.lt y = true) (h2 : y.lt z = true) : x.lt z = true := by
  cases x <;> cases y <;> cases z <;> simp_all [lt] <;> grind
theorem min_self (x : Xe) : min x x = x := by unfold min; split <;> rfl
theorem max_self (x : Xe) : max x x = x := by unfold max; split <;> rfl
theorem neg_pair (x : Xe) : x.neg.d = .tuple [.int (-x.n), .int x.e] := by
  cases x with
  | q a => show fq (-a) = _; unfold fq; rw [Rat.neg_num, Rat.neg_den]; rfl
  | _ => rfl
def cmpR (x y : Xe) : Int := if x.n * y.e < y.n * x.e then -1 else if y.n * x.e < x.n * y.e then 1 else 0
theorem cmpR_lt {x y : Xe} (h : ¬ (x.e = 0 ∧ y.e = 0)) : decide (cmpR x y < 0) = x.lt y := by
  have key : decide (cmpR x y < 0) = decide (x.n * y.e < y.n * x.e) := by
    unfold cmpR
    by_cases h1 : x.n * y.e < y.n * x.e
    · rw [if_pos h1, decide_eq_true h1]; rfl
    · rw [if_neg h1, decide_eq_false h1]; split <;> rfl
  rw [key]
  cases x with
  | q a =>
    have da : (0 : Int) < (a.den : Int) := Int.natCast_pos.mpr a.den_pos
    cases y with
    | q b =>
      show decide (a.num * (b.den : Int) < b.num * (a.den : Int)) = decide (a < b)
      exact decide_eq_decide.mpr (Rat.lt_iff a b).symm
    | lo =>
      show decide (a.num * 0 < -1 * (a.den : Int)) = false
      exact decide_eq_false (by omega)
    | hi =>
      show decide (a.num * 0 < 1 * (a.den : Int)) = true
      exact decide_eq_true (by omega)
  | lo =>
    cases y with
    | q b =>
      have db : (0 : Int) < (b.den : Int) := Int.natCast_pos.mpr b.den_pos
      show decide (-1 * (b.den : Int) < b.num * 0) = true
      exact decide_eq_true (by omega)
    | lo => exact absurd ⟨rfl, rfl⟩ h
    | hi => exact absurd ⟨rfl, rfl⟩ h
  | hi =>
    cases y with
    | q b =>
      have db : (0 : Int) < (b.den : Int) := Int.natCast_pos.mpr b.den_pos
      show decide (1 * (b.den : Int) < b.num * 0) = false
      exact decide_eq_false (by omega)
    | lo => exact absurd ⟨rfl, rfl⟩ h
    | hi => exact absurd ⟨rfl, rfl⟩ h
theorem inf_lt {x y : Xe} (h : x.e = 0 ∧ y.e = 0) : decide (x.n < y.n) = x.lt y := by
  cases x with
  | q a => exact absurd h.1 (den_ne a)
  | lo => cases y with
    | q b => exact absurd h.2 (den_ne b)
    | _ => rfl
  | hi => cases y with
    | q b => exact absurd h.2 (den_ne b)
    | _ => rfl
theorem wb_lt {x y : Xe} (h : (decide (x.e = 0) || decide (y.e = 0)) = true) : (!(decide (x.n = y.n) && decide (x.e = y.e)) && ((decide (x.n = -1) && decide (x.e = 0)) || (decide (y.n = 1) && decide (y.e = 0)))) = x.lt y := by
  cases x with
  | q a =>
    have e1 : decide (Xe.e (.q a) = 0) = false := decide_eq_false (den_ne a)
    cases y with
    | q b =>
      have e2 : decide (Xe.e (.q b) = 0) = false := decide_eq_false (den_ne b)
      rw [e1, e2] at h; cases h
    | lo =>
      have e2 : decide (Xe.e (.q a) = Xe.e .lo) = false := decide_eq_false (den_ne a)
      rw [e1, e2, Bool.and_false, Bool.and_false]; rfl
    | hi =>
      have e2 : decide (Xe.e (.q a) = Xe.e .hi) = false := decide_eq_false (den_ne a)
      rw [e1, e2, Bool.and_false, Bool.and_false]; rfl
  | lo =>
    cases y with
    | q b =>
      have e2 : decide (Xe.e .lo = Xe.e (.q b)) = false := decide_eq_false fun z => den_ne b z.symm
      rw [e2, Bool.and_false]; rfl
    | _ => rfl
  | hi =>
    cases y with
    | q b =>
      have e1 : decide (Xe.e (.q b) = 0) = false := decide_eq_false (den_ne b)
      have e2 : decide (Xe.e .hi = Xe.e (.q b)) = false := decide_eq_false fun z => den_ne b z.symm
      rw [e1, e2, Bool.and_false, Bool.and_false, Bool.or_false]; rfl
    | _ => rfl
def of (b : Nat) : Va → Xe
  | .inf s => if s = 0 then .hi else .lo
  | v => .q (v.wQ b)
theorem sh (x : Xe) : SeqAt.shaped x.d = true := by rw [pair]; exact shaped_ii _ _
theorem eqvB (x y : Xe) : PyData.eqv x.d y.d = decide (x = y) := by
  by_cases h : x = y
  · rw [decide_eq_true h]; exact (eqv x y).mpr h
  · rw [decide_eq_false h]
    cases c : PyData.eqv x.d y.d with
    | true => exact absurd ((eqv x y).mp c) h
    | false => rfl
theorem bds {x : Xe} {n d : Nat} (h : x.bd n d) (h0 : 1 ≤ n ∧ 1 ≤ d) : Bd n x.n ∧ Bd d x.e := by
  have one : ∀ {k : Nat}, 1 ≤ k → 1 < 2 ^ k := fun {k} hk => Nat.lt_of_lt_of_le (show 1 < 2 ^ 1 by decide) (Nat.pow_le_pow_right (by decide) hk)
  have zero : ∀ k : Nat, 0 < 2 ^ k := fun k => Nat.pow_pos (by decide)
  cases x with
  | q r => exact ⟨h.nu, h.de⟩
  | lo => exact ⟨one h0.1, zero d⟩
  | hi => exact ⟨one h0.1, zero d⟩
def minL : List Xe → Xe
  | [] => .lo
  | x :: L => L.foldl min x
def maxL : List Xe → Xe
  | [] => .hi
  | x :: L => L.foldl max x
theorem min_hi {x y : Xe} (h : min x y = .hi) : x = .hi ∧ y = .hi := by
  unfold min at h
  split at h
  · rename_i c; subst h; cases x <;> simp_all [lt]
  · rename_i c; subst h; cases y <;> simp_all [lt]
theorem max_lo {x y : Xe} (h : max x y = .lo) : x = .lo ∧ y = .lo := by
  unfold max at h
  split at h
  · rename_i c; subst h; cases x <;> simp_all [lt]
  · rename_i c; subst h; cases y <;> simp_all [lt]
theorem minL4_hi {a b c d : Xe} (h : minL [a, b, c, d] = .hi) : a = .hi ∧ b = .hi ∧ c = .hi ∧ d = .hi := by
  obtain ⟨h, h4⟩ := min_hi (show min (min (min a b) c) d = .hi from h)
  obtain ⟨h, h3⟩ := min_hi h
  obtain ⟨h1, h2⟩ := min_hi h
  exact ⟨h1, h2, h3, h4⟩
theorem maxL4_lo {a b c d : Xe} (h : maxL [a, b, c, d] = .lo) : a = .lo ∧ b = .lo ∧ c = .lo ∧ d = .lo := by
  obtain ⟨h, h4⟩ := max_lo (show max (max (max a b) c) d = .lo from h)
  obtain ⟨h, h3⟩ := max_lo h
  obtain ⟨h1, h2⟩ := max_lo h
  exact ⟨h1, h2, h3, h4⟩
theorem min_abs (a b : Xe) : min (min a b) a = min a b ∧ min (min a b) b = min a b := by
  unfold min
  by_cases c : b.lt a = true
  · have := asym c; simp [c, this, irr]
  · have c' : b.lt a = false := by simpa using c
    simp [c', irr]
theorem max_abs (a b : Xe) : max (max a b) a = max a b ∧ max (max a b) b = max a b := by
  unfold max
  by_cases c : a.lt b = true
  · have := asym c; simp [c, this, irr]
  · have c' : a.lt b = false := by simpa using c
    simp [c', irr]
def ends (x y : Xe) : List Xe := if x = y then [x] else [x, y]
theorem min_ends (x1 x2 y1 y2 : Xe) : minL ((ends x1 x2).flatMap fun x => (ends y1 y2).map (mul x)) = minL [mul x1 y1, mul x1 y2, mul x2 y1, mul x2 y2] := by
  unfold ends
  have ab := fun a b => (min_abs a b).1
  have ab2 := fun a b => (min_abs a b).2
  by_cases h1 : x1 = x2
  · by_cases h2 : y1 = y2
    · subst h1; subst h2; simp [minL, min_self]
    · subst h1; rw [if_pos rfl, if_neg h2]; simp [minL, ab, ab2]
  · by_cases h2 : y1 = y2
    · subst h2; rw [if_neg h1, if_pos rfl]; simp [minL, min_self, ab, ab2]
    · rw [if_neg h1, if_neg h2]; simp [minL]
theorem max_ends (x1 x2 y1 y2 : Xe) : maxL ((ends x1 x2).flatMap fun x => (ends y1 y2).map (mul x)) = maxL [mul x1 y1, mul x1 y2, mul x2 y1, mul x2 y2] := by
  unfold ends
  have ab := fun a b => (max_abs a b).1
  have ab2 := fun a b => (max_abs a b).2
  by_cases h1 : x1 = x2
  · by_cases h2 : y1 = y2
    · subst h1; subst h2; simp [maxL, max_self]
    · subst h1; rw [if_pos rfl, if_neg h2]; simp [maxL, ab, ab2]
  · by_cases h2 : y1 = y2
    · subst h2; rw [if_neg h1, if_pos rfl]; simp [maxL, max_self, ab, ab2]
    · rw [if_neg h1, if_neg h2]; simp [maxL]
theorem mul_hi {x y : Xe} (h : mul x y = .hi) : x.n ≠ 0 ∧ y.n ≠ 0 ∧ (x.e = 0 ∨ y.e = 0) ∧ (0 < x.n ↔ 0 < y.n) := by
  unfold mul at h
  by_cases c : x.n = 0 ∨ y.n = 0
  · rw [if_pos c] at h; cases h
  · rw [if_neg c] at h
    refine ⟨fun z => c (.inl z), fun z => c (.inr z), ?_⟩
    cases x with
    | q a =>
      cases y with
      | q b => cases h
      | lo => refine ⟨.inr rfl, ?_⟩; by_cases z : decide (0 < n (.q a)) = decide (0 < n .lo) <;> simp [z] at h; exact decide_eq_decide.mp z
      | hi => refine ⟨.inr rfl, ?_⟩; by_cases z : decide (0 < n (.q a)) = decide (0 < n .hi) <;> simp [z] at h; exact decide_eq_decide.mp z
    | lo => refine ⟨.inl rfl, ?_⟩; by_cases z : decide (0 < n .lo) = decide (0 < n y) <;> simp [z] at h; exact decide_eq_decide.mp z
    | hi => refine ⟨.inl rfl, ?_⟩; by_cases z : decide (0 < n .hi) = decide (0 < n y) <;> simp [z] at h; exact decide_eq_decide.mp z
theorem mul_lo {x y : Xe} (h : mul x y = .lo) : x.n ≠ 0 ∧ y.n ≠ 0 ∧ (x.e = 0 ∨ y.e = 0) ∧ ¬ (0 < x.n ↔ 0 < y.n) := by
  unfold mul at h
  by_cases c : x.n = 0 ∨ y.n = 0
  · rw [if_pos c] at h; cases h
  · rw [if_neg c] at h
    refine ⟨fun z => c (.inl z), fun z => c (.inr z), ?_⟩
    cases x with
    | q a =>
      cases y with
      | q b => cases h
      | lo => refine ⟨.inr rfl, ?_⟩; by_cases z : decide (0 < n (.q a)) = decide (0 < n .lo) <;> simp [z] at h; exact fun w => z (decide_eq_decide.mpr w)
      | hi => refine ⟨.inr rfl, ?_⟩; by_cases z : decide (0 < n (.q a)) = decide (0 < n .hi) <;> simp [z] at h; exact fun w => z (decide_eq_decide.mpr w)
    | lo => refine ⟨.inl rfl, ?_⟩; by_cases z : decide (0 < n .lo) = decide (0 < n y) <;> simp [z] at h; exact fun w => z (decide_eq_decide.mpr w)
    | hi => refine ⟨.inl rfl, ?_⟩; by_cases z : decide (0 < n .hi) = decide (0 < n y) <;> simp [z] at h; exact fun w => z (decide_eq_decide.mpr w)
theorem mul_zero {x y : Xe} (h : (decide (x.n = 0) || decide (y.n = 0)) = true) : mul x y = .q 0 := by
  unfold mul
  rw [Bool.or_eq_true, decide_eq_true_eq, decide_eq_true_eq] at h
  rw [if_pos h]
theorem mul_inf {x y : Xe} (h : (decide (x.n = 0) || decide (y.n = 0)) = false) (h2 : (decide (x.e = 0) || decide (y.e = 0)) = true) : mul x y = if decide (0 < x.n) = decide (0 < y.n) then .hi else .lo := by
  unfold mul
  rw [Bool.or_eq_false_iff, decide_eq_false_iff_not, decide_eq_false_iff_not] at h
  rw [Bool.or_eq_true, decide_eq_true_eq, decide_eq_true_eq] at h2
  rw [if_neg (fun z => z.elim h.1 h.2)]
  cases x with
  | q a =>
    cases y with
    | q b => rcases h2 with z | z <;> exact absurd z (den_ne _)
    | _ => rfl
  | _ => rfl
theorem mul_q {a b : Rat} (h : (decide (n (.q a) = 0) || decide (n (.q b) = 0)) = false) : mul (.q a) (.q b) = .q (a * b) := by
  unfold mul
  rw [Bool.or_eq_false_iff, decide_eq_false_iff_not, decide_eq_false_iff_not] at h
  rw [if_neg (fun z => z.elim h.1 h.2)]
theorem low_n {x : Xe} (h : x ≠ .hi) : x.e = 0 → x.n = -1 := by
  cases x with
  | q a => exact fun z => absurd z (den_ne a)
  | lo => exact fun _ => rfl
  | hi => exact absurd rfl h
theorem high_n {x : Xe} (h : x ≠ .lo) : x.e = 0 → x.n = 1 := by
  cases x with
  | q a => exact fun z => absurd z (den_ne a)
  | hi => exact fun _ => rfl
  | lo => exact absurd rfl h
theorem prods_lo {x1 x2 y1 y2 : Xe} (h1 : x1 ≠ .hi) (h2 : x2 ≠ .lo) (h3 : y1 ≠ .hi) (h4 : y2 ≠ .lo) : minL [mul x1 y1, mul x1 y2, mul x2 y1, mul x2 y2] ≠ .hi := fun z => by
  obtain ⟨a, b, c, d⟩ := minL4_hi z
  have := mul_hi a; have := mul_hi b; have := mul_hi c; have := mul_hi d
  have := low_n h1; have := high_n h2; have := low_n h3; have := high_n h4
  omega
theorem prods_hi {x1 x2 y1 y2 : Xe} (h1 : x1 ≠ .hi) (h2 : x2 ≠ .lo) (h3 : y1 ≠ .hi) (h4 : y2 ≠ .lo) : maxL [mul x1 y1, mul x1 y2, mul x2 y1, mul x2 y2] ≠ .lo := fun z => by
  obtain ⟨a, b, c, d⟩ := maxL4_lo z
  have := mul_lo a; have := mul_lo b; have := mul_lo c; have := mul_lo d
  have := low_n h1; have := high_n h2; have := low_n h3; have := high_n h4
  omega
end Xe
end Lw
namespace Gd
open PySem PySem.Spec PyProof.Rows L2
theorem EnvD.unset {K : PySem.W.Frag} {g : Gh} {H0 : Hp} {σ : L2.St} {Γ : List VD} (h : EnvD K g H0 σ Γ) (i : Nat) : EnvD K g H0 (σ.set i none) (Γ.set i .no) := by
  refine ⟨by rw [List.length_set, List.length_set, h.len], fun j e h1 h2 => ?_⟩
  by_cases hj : i = j
  · subst hj
    by_cases hi : i < Γ.length
    · rw [List.getElem?_set_self hi] at h1; cases h1; exact absurd rfl h2
    · rw [List.getElem?_eq_none (by rw [List.length_set]; omega)] at h1; cases h1
  · rw [List.getElem?_set_ne hj] at h1 ⊢
    exact h.at' j e h1 h2
theorem wipe12 {σ : L2.St} {j1 j2 : Nat} {v1 v2 : Option V} (h : j1 ≠ j2) : (wipe ((wipe σ [j1, j2]).set j1 v1) [j2]).set j2 v2 = (σ.set j1 v1).set j2 v2 := by
  show (((((σ.set j2 none).set j1 none).set j1 v1).set j2 none).set j2 v2) = _
  rw [List.set_set, List.set_set, List.set_comm none v1 (Ne.symm h), List.set_set]
section
variable {X : Cx} {Γ : List VD} {B B1 : Bag} {e e1 elt : Expr} {scope : Scope} {pos pos' : Pos} {rest : List Stmt} {E : En} {d : VD}
theorem rj_lc2T {α β : Type} {j1 j2 : Nat} (ds : List α) (es : List β) (P : α → PyData) (Q : β → PyData) (z : α → β → PyData) (hj : j1 ≠ j2) (hi : EJ X Γ B e (.da (.tuple (ds.map P))) B1) (hz : ds.length * es.length ≤ 1000)
    (h1 : ∀ d ∈ ds, Blk X scope fun Y => EJ Y ((Γ.set j2 .no).set j1 (.da (P d))) B1 e1 (.da (.tuple (es.map Q))) B1)
    (he : ∀ d ∈ ds, ∀ y ∈ es, Blk X scope fun Y => EJ Y ((Γ.set j1 (.da (P d))).set j2 (.da (Q y))) B1 elt (.da (z d y)) B1) :
    RJ X Γ B (tLc2 (iTup X.K (WE X e)) (gName j1) tYes (iTup X.K (WB X scope e1)) (gName j2) tYes (WB X scope elt) [j1, j2] [j2]) (.da (.list (ds.flatMap fun d => es.map (z d)))) B1 := fun g σ H0 H Ev O QQ q =>
  hi g σ H0 H Ev O _ fun v H1 H' t o r => by
    obtain ⟨p, xs, rfl, hxs, rs⟩ := rvT r
    refine ⟨p, rfl, ⟨xs, seqT o.ex hxs⟩, fun A hA => ?_⟩
    obtain ⟨off, I0⟩ := lcI_start o hA
    have hlen : xs.length = ds.length := by rw [rs.length, List.length_map]
    have lf : ∀ L : List α, (L.flatMap fun d => es.map (z d)).length = L.length * es.length := fun L => by
      induction L with
      | nil => simp
      | cons a L ih => rw [List.flatMap_cons, List.length_append, ih, List.length_map, List.length_cons, Nat.add_mul, Nat.one_mul, Nat.add_comm]
    refine ⟨fun i m H'' => m = xs.length - i ∧ i ≤ xs.length ∧ ∃ H2, LcI X.K g H1 H' A ((ds.take i).flatMap fun d => es.map (z d)) B1 H2 H'', ⟨xs.length, rfl, Nat.zero_le _, H1, I0⟩, ?_⟩
    rintro i m H'' ⟨rfl, hi', H2, I⟩
    have sq := seqT I.on.ex (seqT I.to.ex hxs)
    by_cases hlt : i < xs.length
    · refine .inr ⟨⟨xs, xs[i], sq, by simp [hlt]⟩, fun H3 => ∃ H2, LcI X.K g H1 H' A ((ds.take (i + 1)).flatMap fun d => es.map (z d)) B1 H2 H3, fun H3 p3 => ⟨xs.length - (i + 1), by omega, rfl, hlt, p3⟩, fun x H3 y => ?_⟩
      obtain ⟨eH, y⟩ := y
      subst eH
      obtain ⟨d', hd', rd⟩ := rs.get (y xs sq)
      rw [List.getElem?_map] at hd'
      obtain ⟨d, hd, rfl⟩ := Option.map_eq_some_iff.mp hd'
      have hmem := List.mem_of_getElem? hd
      refine ⟨by show (((((σ.set j2 none).set j1 none).set j1 _).set j2 none).set j1 none) = (σ.set j2 none).set j1 none; rw [List.set_set, List.set_comm none _ (Ne.symm hj), List.set_set, List.set_comm none none hj, List.set_set], ?_⟩
      unfold tYes
      refine iteT ?_
      intro s hH C cl fp
      have rd2 := rd.mono I.to.ex
      have ev1 : EnvD X.K g H2 ((wipe σ [j1, j2]).set j1 (some x)) ((Γ.set j2 .no).set j1 (.da (P d))) := by
        show EnvD X.K g H2 (((σ.set j2 none).set j1 none).set j1 (some x)) _
        rw [List.set_set]
        exact (((Ev.mono t.ex).mono I.to.ex).unset j2).set (d := .da (P d)) j1 rd2
      refine h1 d hmem s hH C cl fp g _ H2 H3 ev1 I.on _ fun v1 H4 H4' t4 o4 r4 => ?_
      obtain ⟨p1, ys, rfl, hys, rs1⟩ := rvT r4
      have I4 := lcI_step off I t4 o4
      have hle : ys.length = es.length := by rw [rs1.length, List.length_map]
      refine ⟨p1, rfl, ⟨ys, seqT o4.ex hys⟩, ?_⟩
      refine ⟨fun j k H => k = ys.length - j ∧ j ≤ ys.length ∧ ∃ H5, Same H4 H5 ∧ LcI X.K g H1 H' A (((ds.take i).flatMap fun d => es.map (z d)) ++ (es.take j).map (z d)) B1 H5 H, ⟨ys.length, rfl, Nat.zero_le _, H4, Same.refl _, by simpa using I4⟩, ?_⟩
      rintro j k H5' ⟨rfl, hj', H5, sm, I5⟩
      have sq5 := seqT I5.on.ex (seqT sm hys)
      by_cases hlt2 : j < ys.length
      · refine .inr ⟨⟨ys, ys[j], sq5, by simp [hlt2]⟩, fun H6 => ∃ H5, Same H4 H5 ∧ LcI X.K g H1 H' A (((ds.take i).flatMap fun d => es.map (z d)) ++ (es.take (j + 1)).map (z d)) B1 H5 H6, fun H6 p6 => ⟨ys.length - (j + 1), by omega, rfl, hlt2, p6⟩, fun x2 H6 y2 => ?_⟩
        obtain ⟨eH, y2⟩ := y2
        subst eH
        obtain ⟨d2', hd2', rd3⟩ := rs1.get (y2 ys sq5)
        rw [List.getElem?_map] at hd2'
        obtain ⟨d2, hd2, rfl⟩ := Option.map_eq_some_iff.mp hd2'
        have hmem2 := List.mem_of_getElem? hd2
        refine ⟨wipe1, ?_⟩
        show (if true = true then _ else _)
        refine iteT ?_
        intro s hH C cl fp
        have ev2 : EnvD X.K g H5 ((wipe ((wipe σ [j1, j2]).set j1 (some x)) [j2]).set j2 (some x2)) ((Γ.set j1 (.da (P d))).set j2 (.da (Q d2))) := by
          rw [wipe12 hj]
          exact (((Ev.mono t.ex).mono I5.to.ex).set (d := .da (P d)) j1 (rd.mono I5.to.ex)).set (d := .da (Q d2)) j2 (rd3.mono sm)
        refine he d hmem d2 hmem2 s hH C cl fp g _ H5 H6 ev2 I5.on _ fun w H7 H7' t7 o7 r7 => ?_
        obtain ⟨zs, h7, h8, J⟩ := lcI_app off I5 t7 o7 r7
        refine ⟨zs, h7, ?_, H7, sm.trans t7.ex, ?_⟩
        · rw [h8, List.length_append, lf, List.length_map, List.length_take, List.length_take]
          refine small1000 (Nat.le_trans ?_ hz)
          have b1 : i + 1 ≤ ds.length := by omega
          have b2 : min j es.length ≤ es.length := Nat.min_le_right _ _
          have b3 : min i ds.length = i := by omega
          rw [b3]
          calc i * es.length + min j es.length ≤ i * es.length + es.length := Nat.add_le_add_left b2 _
            _ = (i + 1) * es.length := by rw [Nat.add_mul, Nat.one_mul]
            _ ≤ _ := Nat.mul_le_mul_right _ b1
        · rw [List.take_add_one, hd2]
          rw [List.append_assoc] at J
          simpa using J
      · have ej : j = ys.length := by omega
        subst ej
        refine .inl ⟨⟨ys, sq5, Nat.le_refl _⟩, H5, ?_⟩
        rw [hle, List.take_length] at I5
        rw [List.take_add_one, hd]
        simpa using I5
    · have ei : i = xs.length := by omega
      subst ei
      rw [hlen, List.take_length] at I
      obtain ⟨H3, t3, o3, r3⟩ := lcI_end off t I
      exact .inl ⟨⟨xs, sq, Nat.le_refl _⟩, q _ H3 H'' t3 o3 r3⟩
theorem sj_setLc2T (i : Nat) {j1 j2 : Nat} {x1 x2 : Str} {px1 px2 : Pos} {y : Str} {py : Pos} (nd : X.N.Nodup) (hc : X.calm = true) (ok : BlkOk X.N X.env.scope scope [(x1, j1), (x2, j2)])
    (hg : ∀ (s : Shared) (H : Hp) (C : Addr) (cl : List (Str × Addr)) (fp : List Addr), PG (X.blk s H scope (compEnvC scope cl C X.env) fp) (.Name x1 px1) (gName j1))
    (hg1 : ∀ (s : Shared) (H : Hp) (C : Addr) (cl : List (Str × Addr)) (fp : List Addr), PG (X.blk s H scope (compEnvC scope cl C X.env) fp) (.Name x2 px2) (gName j2))
    (r : RJ X Γ B (tLc2 (iTup X.K (WE X e)) (gName j1) tYes (iTup X.K (WB X scope e1)) (gName j2) tYes (WB X scope elt) [j1, j2] [j2]) d B1) (k : SJ X (Γ.set i d) B1 rest E)
    (hsw : swapsWith (.ListComp elt [⟨.Name x1 px1, e, [], 0⟩, ⟨.Name x2 px2, e1, [], 0⟩] scope pos) (some (.Name y py)) pos'.line X.env = pure true) (hy : X.N[i]? = some y := by rfl) (hyl : X.env.scope.names.lookup y = some .local := by rfl)
    (hq : ∀ x, foldedSetIterable e X.env x = pure x := by intro _; rfl) (hq1 : ∀ env x, foldedSetIterable e1 env x = pure x := by intro _ _; rfl) :
    SJ X Γ B (.Assign [.Name y py] (.ListComp elt [⟨.Name x1 px1, e, [], 0⟩, ⟨.Name x2 px2, e1, [], 0⟩] scope pos) pos' :: rest) E := fun g σ H0 H Ev O D G =>
  ⟨_, pss_cons (ps_setLc2 (i := i) (own := [(x1, j1), (x2, j2)]) (vs1 := [j2]) hc nd hy hyl hsw (pi_tup (we e)) ok (by simp) hg (fun _ _ _ _ _ => pts_nil) (fun s H C cl fp => pi_tup (wb scope e1 s H C cl fp)) hg1 (fun _ _ _ _ _ => pts_nil) (wb scope elt) hq hq1) (ws rest),
    r g σ H0 H Ev O _ fun v H1 H' t o rv => k g _ H1 H' ((Ev.mono t.ex).set i rv) o D (G.on t)⟩
end
end Gd
namespace Gd
open PySem PySem.Spec PyProof.Rows L2
section
variable {X : Cx} {Γ : List VD} {B B1 B2 : Bag} {e : Expr} {es : List Expr} {p pos : Pos}
theorem ej_fn {x : Str} {f : Addr} (hm : X.mg x = some (.ref f)) (hg : Gl X x := by rfl) (hdb : (x == ("__debug__" : Str)) = false := by decide) : EJ X Γ B (.Name x p) (.fn f) B :=
  fun g σ H0 H E O Q q => ⟨_, pe_glob (v := .ref f) hg hm rfl hdb, q (.ref f) H0 H To.refl O rfl⟩
theorem ej_callV (i : Nat) {x fn : Str} {k : Nat} {f : Addr} {R : Rel} {ds : List VD} {r : PyData} (c : Cal X.prog X.w X.K X.mg X.base fn k R) (hm : X.mg fn = some (.ref f)) (h : Γ[i]? = some (.fn f)) (g : Gx k X) (ha : AJ X Γ B (e :: es) ds B1) (hR : R ds B1 r B2)
    (hN : X.N[i]? = some x := by rfl) (hv : Vis X.env.scope x := by first | exact Or.inl rfl | exact Or.inr (Or.inl rfl) | exact Or.inr (Or.inr rfl))
    (hdb : (x == ("__debug__" : Str)) = false := by decide) (hcd : (x == ("__classdict__" : Str)) = false := by decide) (he : starEach (e :: es) X.env = (false, eval e X.env) :: starEach es X.env := by rfl)
    (hpl : (backTo pos (starEach es X.env)).any (·.1) = false := by rfl) : EJ X Γ B (.Call (.Name x p) (e :: es) [] pos) (.da r) B2 := by
  obtain ⟨f', fd, ps, F, hm', hk, hb⟩ := c
  have ef : f' = f := by
    rw [hm] at hm'
    injection hm' with hm'
    injection hm' with hm'
    exact hm'.symm
  subst ef
  intro gh σ H0 H E O Q q
  obtain ⟨v, hs, rv⟩ := E.at' i _ h (fun z => VD.noConfusion z)
  have rv : v = .ref f' := rv
  subst rv
  refine ⟨fun σ H Q => σ[i]? = some (some (.ref f')) ∧ WA X (e :: es) σ H fun vs H1 => DefSp X.K R vs H1 Q E0, ⟨fun pins s σ H Q I h => ?_⟩, ?_⟩
  · obtain ⟨hs, h⟩ := h
    refine wpAny_Call_Name_kw (thn ((pe_var (pos := p) hN hv hdb hcd).run pins s σ H (fun v H1 => v = .ref f' ∧ H1 = H) I ⟨.ref f', hs, rfl, rfl⟩) fun u s1 ⟨v, H1, I1, r1, q1⟩ => ?_)
    obtain ⟨rfl, rfl⟩ := q1
    cases r1
    refine PySem.W.callWith_K (h₀ := X.base) I1.ok.mod.kin hk (thn ((wa (e :: es)).run pos pins s1 σ H1 _ I1 h) ?_) he hpl
    rintro us s2 ⟨vs, H2, I2, r2, q2⟩
    exact ⟨I2.kIn, runG F g hb I2 r2 q2⟩
  · refine ⟨hs, ha gh σ H0 H E O _ fun vs H1 H' t o rs => ?_⟩
    exact ⟨gh, ds, B1, H1, r, B2, rs, o, hR, fun v H2 H'' t2 o2 rv => q v H2 H'' (t.trans t2) o2 rv⟩
end
end Gd
set_option exponentiation.threshold 20000
namespace Lw
open PySem PySem.Spec PyProof.Rows L2 Gd Fr
open scoped Rat
def rD (a : Xe × Xe) : PyData := .tuple [a.1.d, a.2.d]
def zrX : Xe := .q 0
def sumsX (a b : Xe × Xe) : Xe × Xe := (a.1.add b.1, a.2.add b.2)
def oppsX (a : Xe × Xe) : Xe × Xe := (a.2.neg, a.1.neg)
def prodL (a b : Xe × Xe) : List Xe := [a.1.mul b.1, a.1.mul b.2, a.2.mul b.1, a.2.mul b.2]
def prodX (a b : Xe × Xe) : Xe × Xe := (Xe.minL (prodL a b), Xe.maxL (prodL a b))
def sizX (a : Xe × Xe) : Xe × Xe := if a.1.n < 0 ∧ 0 < a.2.n then (zrX, Xe.max a.1.neg a.2) else if 0 ≤ a.1.n then a else oppsX a
def leaX (a b : Xe × Xe) : Xe × Xe := (Xe.min a.1 b.1, Xe.min a.2 b.2)
def graX (a b : Xe × Xe) : Xe × Xe := (Xe.max a.1 b.1, Xe.max a.2 b.2)
inductive OpX : Str → List (Xe × Xe) → Xe × Xe → Prop
  | add (a b) : OpX "add" [a, b] (sumsX a b)
  | take (a b) : OpX "take" [a, b] (sumsX a (oppsX b))
  | times (a b) : OpX "times" [a, b] (prodX a b)
  | fused (a b c) : OpX "fused" [a, b, c] (sumsX (prodX a b) c)
  | opposite (a) : OpX "opposite" [a] (oppsX a)
  | size (a) : OpX "size" [a] (sizX a)
  | least (a b) : OpX "least" [a, b] (leaX a b)
  | greatest (a b) : OpX "greatest" [a, b] (graX a b)
namespace Xe
theorem n_neg (x : Xe) : x.lt zrX = decide (x.n < 0) := by
  cases x with
  | q a =>
    show decide (a < 0) = decide (a.num < 0)
    exact decide_eq_decide.mpr (num_neg_iff a).symm
  | _ => rfl
theorem n_pos (x : Xe) : zrX.lt x = decide (0 < x.n) := by
  cases x with
  | q a =>
    show decide (0 < a) = decide (0 < a.num)
    refine decide_eq_decide.mpr ?_
    rw [Rat.lt_iff]
    show 0 * (a.den : Int) < a.num * 1 ↔ _
    omega
  | _ => rfl
theorem neg_lt (x y : Xe) : x.neg.lt y.neg = y.lt x := by
  cases x <;> cases y <;> simp [neg, lt] <;> grind
theorem add_bd {x y : Xe} {n d m c N : Nat} (hx : x.bd n d) (hy : y.bd m c) (h1 : n + c < N) (h2 : m + d < N) : (x.add y).bd N (d + c) := by
  cases x with
  | q a => cases y with
    | q b => exact Qz.add hx hy N h1 h2
    | _ => trivial
  | _ => trivial
theorem bd_le {x : Xe} {n d m c : Nat} (hx : x.bd n d) (h1 : n ≤ m) (h2 : d ≤ c) : x.bd m c := by
  cases x with
  | q a => exact Qz.le hx h1 h2
  | _ => trivial
theorem mul_bd {x y : Xe} {n d m c : Nat} (hx : x.bd n d) (hy : y.bd m c) (h : 1 ≤ d + c) (h' : 1 ≤ n + m) : (x.mul y).bd (n + m) (d + c) := by
  unfold mul
  split
  · show Qz _ _ 0
    refine ⟨?_, ?_⟩
    · show Bd _ 0
      unfold Bd
      exact Nat.pow_pos (by decide)
    · show Bd _ 1
      unfold Bd
      exact Nat.lt_of_lt_of_le (show 1 < 2 ^ 1 by decide) (Nat.pow_le_pow_right (by decide) h)
  · cases x with
    | q a =>
      cases y with
      | q b => exact Qz.mul hx hy
      | lo => show bd _ _ (if _ then _ else _); split <;> trivial
      | hi => show bd _ _ (if _ then _ else _); split <;> trivial
    | lo => show bd _ _ (if _ then _ else _); split <;> trivial
    | hi => show bd _ _ (if _ then _ else _); split <;> trivial
theorem neg_bd {x : Xe} {n d : Nat} (hx : x.bd n d) : x.neg.bd n d := by
  cases x with
  | q a => exact Qz.neg hx
  | _ => trivial
theorem min_mem (x y : Xe) : min x y = x ∨ min x y = y := by unfold min; split <;> simp
theorem max_mem (x y : Xe) : max x y = x ∨ max x y = y := by unfold max; split <;> simp
theorem fold_mem (f : Xe → Xe → Xe) (hf : ∀ x y, f x y = x ∨ f x y = y) : ∀ (L : List Xe) (x : Xe), L.foldl f x = x ∨ L.foldl f x ∈ L
  | [], x => .inl rfl
  | y :: L, x => by
    rw [List.foldl_cons]
    rcases fold_mem f hf L (f x y) with h | h
    · rw [h]
      rcases hf x y with e | e
      · exact .inl e
      · rw [e]; exact .inr (List.mem_cons_self ..)
    · exact .inr (List.mem_cons_of_mem _ h)
theorem minL_mem {L : List Xe} (h : L ≠ []) : minL L ∈ L := by
  cases L with
  | nil => exact absurd rfl h
  | cons x L =>
    rcases fold_mem min min_mem L x with e | e
    · show L.foldl min x ∈ _; rw [e]; exact List.mem_cons_self ..
    · exact List.mem_cons_of_mem _ e
theorem maxL_mem {L : List Xe} (h : L ≠ []) : maxL L ∈ L := by
  cases L with
  | nil => exact absurd rfl h
  | cons x L =>
    rcases fold_mem max max_mem L x with e | e
    · show L.foldl max x ∈ _; rw [e]; exact List.mem_cons_self ..
    · exact List.mem_cons_of_mem _ e
def cm (N k : Nat) : Xe → Prop
  | .q r => Cm N k r
  | _ => True
theorem cm_qz {N k d : Nat} {x : Xe} (h : x.cm N k) (hN : 0 < N) (hd : N < 2 ^ d) {n c : Nat} (h' : x.bd n c) : x.bd n d := by
  cases x with
  | q r => exact ⟨h'.nu, (Cm.qz h hN hd).de⟩
  | _ => trivial
theorem cm_add {N k j : Nat} {x y : Xe} (h : x.cm N k) (h' : y.cm N j) : (x.add y).cm N (k + j + 1) := by
  cases x with
  | q a => cases y with
    | q b => exact Cm.add h h'
    | _ => trivial
  | _ => trivial
theorem cm_mul {N k j : Nat} {x y : Xe} (h : x.cm N k) (h' : y.cm N j) : (x.mul y).cm (N * N) (k + j) := by
  unfold mul
  split
  · refine ⟨0, by rw [Rat.zero_mul]; rfl, ?_⟩
    unfold Bd; exact Nat.pow_pos (by decide)
  · cases x with
    | q a =>
      cases y with
      | q b =>
        obtain ⟨m, e, bm⟩ := h
        obtain ⟨m', e', bm'⟩ := h'
        exact ⟨m * m', by rw [Int.natCast_mul, Rat.intCast_mul, Rat.intCast_mul, ← e, ← e']; grind, bm.mul bm'⟩
      | lo => show cm _ _ (if _ then _ else _); split <;> trivial
      | hi => show cm _ _ (if _ then _ else _); split <;> trivial
    | lo => show cm _ _ (if _ then _ else _); split <;> trivial
    | hi => show cm _ _ (if _ then _ else _); split <;> trivial
theorem cm_more {N k j : Nat} {x : Xe} (M : Nat) (hM : M < 2 ^ j) (h : x.cm N k) : x.cm (M * N) (j + k) := by
  cases x with
  | q a => exact Cm.more M hM h
  | _ => trivial
end Xe
structure Rok (N : Nat) (a : Xe × Xe) : Prop where
  b1 : a.1.bd 3040 2341
  b2 : a.2.bd 3040 2341
  c1 : a.1.cm N 5380
  c2 : a.2.cm N 5380
  l1 : a.1 ≠ .hi
  l2 : a.2 ≠ .lo
  le : a.2.lt a.1 = false
theorem op_ok {N : Nat} (hN : 0 < N) (hl : N < 2 ^ 2340) {w : Str} {L : List (Xe × Xe)} {r : Xe × Xe} (h : OpX w L r) (hL : ∀ a ∈ L, Rok N a) : r.1.bd 8900 6500 ∧ r.2.bd 8900 6500 ∧ r.1 ≠ .hi ∧ r.2 ≠ .lo := by
  have ad : ∀ {x y : Xe}, x ≠ .hi → y ≠ .hi → x.add y ≠ .hi := fun {x y} hx hy => by
    cases x with
    | q a => cases y with
      | q b => exact fun z => Xe.noConfusion z
      | lo => exact fun z => Xe.noConfusion z
      | hi => exact absurd rfl hy
    | lo => exact fun z => Xe.noConfusion z
    | hi => exact absurd rfl hx
  have ad' : ∀ {x y : Xe}, x ≠ .lo → y ≠ .lo → x.add y ≠ .lo := fun {x y} hx hy => by
    cases x with
    | q a => cases y with
      | q b => exact fun z => Xe.noConfusion z
      | hi => exact fun z => Xe.noConfusion z
      | lo => exact absurd rfl hy
    | hi => exact fun z => Xe.noConfusion z
    | lo => exact absurd rfl hx
  have ng : ∀ {x : Xe}, x ≠ .lo → x.neg ≠ .hi := fun {x} hx => by
    cases x with
    | lo => exact absurd rfl hx
    | _ => exact fun z => Xe.noConfusion z
  have ng' : ∀ {x : Xe}, x ≠ .hi → x.neg ≠ .lo := fun {x} hx => by
    cases x with
    | hi => exact absurd rfl hx
    | _ => exact fun z => Xe.noConfusion z
  have le : ∀ {x : Xe}, x.bd 3040 2341 → x.bd 8900 6500 := fun h => Xe.bd_le h (by decide) (by decide)
  have pb : ∀ {a b : Xe × Xe}, Rok N a → Rok N b → ∀ x ∈ prodL a b, x.bd 6080 4682 ∧ x.cm (N * N) 10760 := fun {a b} ha hb x hx => by
    simp only [prodL, List.mem_cons, List.not_mem_nil, or_false] at hx
    rcases hx with rfl | rfl | rfl | rfl
    · exact ⟨Xe.mul_bd ha.b1 hb.b1 (by decide) (by decide), Xe.cm_mul ha.c1 hb.c1⟩
    · exact ⟨Xe.mul_bd ha.b1 hb.b2 (by decide) (by decide), Xe.cm_mul ha.c1 hb.c2⟩
    · exact ⟨Xe.mul_bd ha.b2 hb.b1 (by decide) (by decide), Xe.cm_mul ha.c2 hb.c1⟩
    · exact ⟨Xe.mul_bd ha.b2 hb.b2 (by decide) (by decide), Xe.cm_mul ha.c2 hb.c2⟩
  have m0 : ∀ a b : Xe × Xe, prodL a b ≠ [] := fun a b z => by cases z
  cases h with
  | add a b =>
    have ha := hL a (by simp); have hb := hL b (by simp)
    exact ⟨Xe.bd_le (Xe.add_bd (N := 5382) ha.b1 hb.b1 (by decide) (by decide)) (by decide) (by decide), Xe.bd_le (Xe.add_bd (N := 5382) ha.b2 hb.b2 (by decide) (by decide)) (by decide) (by decide), ad ha.l1 hb.l1, ad' ha.l2 hb.l2⟩
  | take a b =>
    have ha := hL a (by simp); have hb := hL b (by simp)
    exact ⟨Xe.bd_le (Xe.add_bd (N := 5382) ha.b1 (Xe.neg_bd hb.b2) (by decide) (by decide)) (by decide) (by decide), Xe.bd_le (Xe.add_bd (N := 5382) ha.b2 (Xe.neg_bd hb.b1) (by decide) (by decide)) (by decide) (by decide), ad ha.l1 (ng hb.l2), ad' ha.l2 (ng' hb.l1)⟩
  | times a b =>
    have ha := hL a (by simp); have hb := hL b (by simp)
    exact ⟨Xe.bd_le (pb ha hb _ (Xe.minL_mem (m0 a b))).1 (by decide) (by decide), Xe.bd_le (pb ha hb _ (Xe.maxL_mem (m0 a b))).1 (by decide) (by decide), Xe.prods_lo ha.l1 ha.l2 hb.l1 hb.l2, Xe.prods_hi ha.l1 ha.l2 hb.l1 hb.l2⟩
  | fused a b c =>
    have ha := hL a (by simp); have hb := hL b (by simp); have hc := hL c (by simp)
    have p1 := pb ha hb _ (Xe.minL_mem (m0 a b))
    have p2 := pb ha hb _ (Xe.maxL_mem (m0 a b))
    have hNN : 0 < N * N := Nat.mul_pos hN hN
    have hlN : N * N < 2 ^ 4680 := by
      have := Nat.mul_lt_mul'' hl hl
      rwa [← Nat.pow_add] at this
    have q1 := Xe.cm_add p1.2 (Xe.cm_more N hl hc.c1)
    have q2 := Xe.cm_add p2.2 (Xe.cm_more N hl hc.c2)
    exact ⟨Xe.bd_le (Xe.cm_qz q1 hNN hlN (Xe.add_bd (N := 8422) p1.1 hc.b1 (by decide) (by decide))) (by decide) (by decide), Xe.bd_le (Xe.cm_qz q2 hNN hlN (Xe.add_bd (N := 8422) p2.1 hc.b2 (by decide) (by decide))) (by decide) (by decide),
      ad (Xe.prods_lo ha.l1 ha.l2 hb.l1 hb.l2) hc.l1, ad' (Xe.prods_hi ha.l1 ha.l2 hb.l1 hb.l2) hc.l2⟩
  | opposite a =>
    have ha := hL a (by simp)
    exact ⟨le (Xe.neg_bd ha.b2), le (Xe.neg_bd ha.b1), ng ha.l2, ng' ha.l1⟩
  | size a =>
    have ha := hL a (by simp)
    unfold sizX
    have z0 : Xe.bd 8900 6500 zrX := ⟨by show Bd _ 0; unfold Bd; exact Nat.pow_pos (by decide), by show Bd _ 1; unfold Bd; exact Nat.lt_of_lt_of_le (show 1 < 2 ^ 1 by decide) (Nat.pow_le_pow_right (by decide) (by decide))⟩
    split
    · refine ⟨z0, ?_, fun z => Xe.noConfusion z, ?_⟩
      · rcases Xe.max_mem a.1.neg a.2 with e | e
        · show Xe.bd _ _ (Xe.max a.1.neg a.2); rw [e]; exact le (Xe.neg_bd ha.b1)
        · show Xe.bd _ _ (Xe.max a.1.neg a.2); rw [e]; exact le ha.b2
      · exact fun z => ha.l2 (Xe.max_lo z).2
    · split
      · exact ⟨le ha.b1, le ha.b2, ha.l1, ha.l2⟩
      · exact ⟨le (Xe.neg_bd ha.b2), le (Xe.neg_bd ha.b1), ng ha.l2, ng' ha.l1⟩
  | least a b =>
    have ha := hL a (by simp); have hb := hL b (by simp)
    refine ⟨?_, ?_, fun z => ha.l1 (Xe.min_hi z).1, ?_⟩
    · rcases Xe.min_mem a.1 b.1 with e | e <;> (show Xe.bd _ _ (Xe.min a.1 b.1); rw [e]; exact le (by first | exact ha.b1 | exact hb.b1))
    · rcases Xe.min_mem a.2 b.2 with e | e <;> (show Xe.bd _ _ (Xe.min a.2 b.2); rw [e]; exact le (by first | exact ha.b2 | exact hb.b2))
    · rcases Xe.min_mem a.2 b.2 with e | e <;> (show Xe.min a.2 b.2 ≠ .lo; rw [e]; first | exact ha.l2 | exact hb.l2)
  | greatest a b =>
    have ha := hL a (by simp); have hb := hL b (by simp)
    refine ⟨?_, ?_, ?_, fun z => ha.l2 (Xe.max_lo z).1⟩
    · rcases Xe.max_mem a.1 b.1 with e | e <;> (show Xe.bd _ _ (Xe.max a.1 b.1); rw [e]; exact le (by first | exact ha.b1 | exact hb.b1))
    · rcases Xe.max_mem a.2 b.2 with e | e <;> (show Xe.bd _ _ (Xe.max a.2 b.2); rw [e]; exact le (by first | exact ha.b2 | exact hb.b2))
    · rcases Xe.max_mem a.1 b.1 with e | e <;> (show Xe.max a.1 b.1 ≠ .hi; rw [e]; first | exact ha.l1 | exact hb.l1)
theorem reach_ok {b p : Nat} {low high : Int} (F : Fm b p low high) {u v : Va} (hs : (Sp.span u v).ok2 b p low high) : Rok (b ^ (-low).toNat) (Xe.of b u, Xe.of b v) := by
  obtain ⟨⟨⟨hu, nu⟩, hv, nv⟩, pu, pv, iu, iv, hle⟩ := hs
  have ob : ∀ {x : Va}, Vcan b p low high x → x.isNan = false → (Xe.of b x).bd 3040 2341 ∧ (Xe.of b x).cm (b ^ (-low).toNat) 5380 := fun {x} hx nx => by
    cases x with
    | nan => cases nx
    | inf s => by_cases h : s = 0 <;> simp [Xe.of, h, Xe.bd, Xe.cm]
    | num s c e => exact ⟨F.wz hx.ok, worth_cm F hx.ok⟩
  refine ⟨(ob hu nu).1, (ob hv nv).1, (ob hu nu).2, (ob hv nv).2, ?_, ?_, ?_⟩
  · cases u with
    | nan => cases nu
    | inf s =>
      rcases hu with rfl | rfl
      · exact absurd rfl iu
      · exact fun z => Xe.noConfusion z
    | num s c e => exact fun z => Xe.noConfusion z
  · cases v with
    | nan => cases nv
    | inf s =>
      rcases hv with rfl | rfl
      · exact fun z => Xe.noConfusion z
      · exact absurd rfl iv
    | num s c e => exact fun z => Xe.noConfusion z
  · show (Xe.of b v).lt (Xe.of b u) = false
    have w := wb_iff F hv hu nv nu pv pu
    rw [decide_eq_false hle] at w
    rw [← w]
    cases u with
    | nan => cases nu
    | inf s => cases v with
      | nan => cases nv
      | inf t => rcases hu with rfl | rfl <;> rcases hv with rfl | rfl <;> rfl
      | num t c' e' => rcases hu with rfl | rfl <;> rfl
    | num s c e => cases v with
      | nan => cases nv
      | inf t => rcases hv with rfl | rfl <;> rfl
      | num t c' e' => rfl
inductive R_cmpX : Rel
  | mk (x y : Xe) (n d : Nat) (B : Bag) (hx : x.bd n d) (hy : y.bd n d) (h1 : n ≤ 30000) (h2 : d ≤ 20000) (h0 : 1 ≤ n ∧ 1 ≤ d) : R_cmpX [.da x.d, .da y.d] B (.int (Xe.cmpR x y)) B
inductive R_xlt : Rel
  | mk (x y : Xe) (n d : Nat) (B : Bag) (hx : x.bd n d) (hy : y.bd n d) (h1 : n ≤ 30000) (h2 : d ≤ 20000) (h0 : 1 ≤ n ∧ 1 ≤ d) : R_xlt [.da x.d, .da y.d] B (.bool (x.lt y)) B
inductive R_x2 (f : Xe → Xe → Xe) : Rel
  | mk (x y : Xe) (n d m c : Nat) (B : Bag) (hx : x.bd n d) (hy : y.bd m c) (h1 : n ≤ 30000) (h2 : m ≤ 30000) (h3 : d + c ≤ 8900) : R_x2 f [.da x.d, .da y.d] B (f x y).d B
inductive R_xl (f : List Xe → PyData) : Rel
  | mk (L : List Xe) (n d : Nat) (B : Bag) (h : ∀ x ∈ L, x.bd n d) (h0 : L ≠ []) (hl : L.length ≤ 8) (h1 : n ≤ 30000) (h2 : d ≤ 20000) (h3 : 1 ≤ n ∧ 1 ≤ d) : R_xl f [.da (.list (L.map Xe.d))] B (f L) B
def minLD (L : List Xe) : PyData := (Xe.minL L).d
def maxLD (L : List Xe) : PyData := (Xe.maxL L).d
def bothD (L : List Xe) : PyData := .tuple [(Xe.minL L).d, (Xe.maxL L).d]
inductive R_point : Rel
  | mk (a : Xe × Xe) (B : Bag) : R_point [.da (rD a)] B (.bool (decide (a.1 = a.2))) B
inductive R_ends : Rel
  | mk (a : Xe × Xe) (B : Bag) : R_ends [.da (rD a)] B (.tuple ((Xe.ends a.1 a.2).map Xe.d)) B
inductive R_r2 (f : Xe × Xe → Xe × Xe → Xe × Xe) : Rel
  | mk (a b : Xe × Xe) (n d m c : Nat) (B : Bag) (a1 : a.1.bd n d) (a2 : a.2.bd n d) (b1 : b.1.bd m c) (b2 : b.2.bd m c) (h1 : n ≤ 10000) (h2 : m ≤ 10000) (h3 : d + c ≤ 8900) (h0 : 1 ≤ n ∧ 1 ≤ d) : R_r2 f [.da (rD a), .da (rD b)] B (rD (f a b)) B
inductive R_r1 (f : Xe × Xe → Xe × Xe) : Rel
  | mk (a : Xe × Xe) (n d : Nat) (B : Bag) (a1 : a.1.bd n d) (a2 : a.2.bd n d) (hle : a.2.lt a.1 = false) (h1 : n ≤ 10000) (h2 : d ≤ 8900) (h0 : 1 ≤ n ∧ 1 ≤ d) : R_r1 f [.da (rD a)] B (rD (f a)) B
inductive R_reached : Rel
  | mk (w : Str) (L : List (Xe × Xe)) (r : Xe × Xe) (N : Nat) (B : Bag) (h : OpX w L r) (hL : ∀ a ∈ L, Rok N a) : R_reached [.da (.str w), .da (.list (L.map rD))] B (rD r) B
inductive R_reach : Rel
  | mk (b p : Nat) (low high : Int) (u v : Va) (B : Bag) (F : Fm b p low high) (hs : (Sp.span u v).ok2 b p low high) : R_reach [.da (fmP b p low high), .da (Sp.span u v).d] B (rD (Xe.of b u, Xe.of b v)) B
noncomputable def loX (b p : Nat) (low high : Int) : Xe → Va
  | .q r => loV b p low high r
  | _ => .inf 1
noncomputable def upX (b p : Nat) (low high : Int) : Xe → Va
  | .q r => upV b p low high r
  | _ => .inf 0
inductive R_lsp : Rel
  | mk (b p : Nat) (low high : Int) (a : Xe × Xe) (B : Bag) (F : Fm b p low high) (b1 : a.1.bd 8900 6500) (b2 : a.2.bd 8900 6500) (l1 : a.1 ≠ .hi) (l2 : a.2 ≠ .lo) : R_lsp [.da (fmP b p low high), .da (rD a)] B (Sp.d (.span (loX b p low high a.1) (upX b p low high a.2))) B
inductive R_spres : Rel
  | none (b p : Nat) (low high : Int) (w : Str) (L : List Sp) (B : Bag) (F : Fm b p low high) (hL : ∀ s ∈ L, s.ok2 b p low high) (h : Sp.none ∈ L) (hl : L.length ≤ 3) : R_spres [.da (fmP b p low high), .da (.str w), .da (.tuple (L.map Sp.d))] B (.tuple [Sp.d .none, .bool true]) B
  | some (b p : Nat) (low high : Int) (w : Str) (L : List (Va × Va)) (r : Xe × Xe) (B : Bag) (F : Fm b p low high) (hL : ∀ s ∈ L, (Sp.span s.1 s.2).ok2 b p low high) (h : OpX w (L.map fun s => (Xe.of b s.1, Xe.of b s.2)) r) (hl : L.length ≤ 3) :
      R_spres [.da (fmP b p low high), .da (.str w), .da (.tuple (L.map fun s => (Sp.span s.1 s.2).d))] B (.tuple [Sp.d (.span (loX b p low high r.1) (upX b p low high r.2)), .bool true]) B
end Lw
namespace Gd
open PySem PySem.Spec PyProof.Rows L2
section
variable {X : Cx} {Γ : List VD} {B B1 B2 : Bag} {i f : Expr}
end
end Gd
set_option exponentiation.threshold 20000
namespace Lw
open PySem PySem.Spec PyProof.Rows L2 Gd Fr
open scoped Rat
theorem op_word {w : Str} {L : List (Xe × Xe)} {r : Xe × Xe} (h : OpX w L r) : decide (w = "root") = false ∧ decide (w = "by") = false := by
  cases h <;> exact ⟨by decide, by decide⟩
def opWords : List Str := ["add", "take", "times", "times", "fused", "opposite", "size", "least", "greatest"]
def opMany (w : Str) : Nat := if ("fused" : Str) = w then 3 else if ("opposite" : Str) = w then 1 else if ("size" : Str) = w then 1 else 2
theorem op_le (w : Str) : 1 ≤ opMany w ∧ opMany w ≤ 3 := by
  unfold opMany
  split
  · exact ⟨by decide, by decide⟩
  · split
    · exact ⟨by decide, by decide⟩
    · split <;> exact ⟨by decide, by decide⟩
theorem op_ex {w : Str} (h : w ∈ opWords) {L : List (Xe × Xe)} (hl : L.length = opMany w) : ∃ r, OpX w L r := by
  have two : ∀ {L : List (Xe × Xe)}, L.length = 2 → ∃ a b, L = [a, b] := fun {L} h => match L, h with | [a, b], _ => ⟨a, b, rfl⟩
  have one : ∀ {L : List (Xe × Xe)}, L.length = 1 → ∃ a, L = [a] := fun {L} h => match L, h with | [a], _ => ⟨a, rfl⟩
  have three : ∀ {L : List (Xe × Xe)}, L.length = 3 → ∃ a b c, L = [a, b, c] := fun {L} h => match L, h with | [a, b, c], _ => ⟨a, b, c, rfl⟩
  simp only [opWords, List.mem_cons, List.not_mem_nil, or_false] at h
  rcases h with rfl | rfl | rfl | rfl | rfl | rfl | rfl | rfl | rfl
  · obtain ⟨a, b, rfl⟩ := two (show L.length = 2 from hl); exact ⟨_, .add a b⟩
  · obtain ⟨a, b, rfl⟩ := two (show L.length = 2 from hl); exact ⟨_, .take a b⟩
  · obtain ⟨a, b, rfl⟩ := two (show L.length = 2 from hl); exact ⟨_, .times a b⟩
  · obtain ⟨a, b, rfl⟩ := two (show L.length = 2 from hl); exact ⟨_, .times a b⟩
  · obtain ⟨a, b, c, rfl⟩ := three (show L.length = 3 from hl); exact ⟨_, .fused a b c⟩
  · obtain ⟨a, rfl⟩ := one (show L.length = 1 from hl); exact ⟨_, .opposite a⟩
  · obtain ⟨a, rfl⟩ := one (show L.length = 1 from hl); exact ⟨_, .size a⟩
  · obtain ⟨a, b, rfl⟩ := two (show L.length = 2 from hl); exact ⟨_, .least a b⟩
  · obtain ⟨a, b, rfl⟩ := two (show L.length = 2 from hl); exact ⟨_, .greatest a b⟩
section
variable {b p : Nat} {low high : Int} (F : Fm b p low high)
include F
end
end Lw
set_option exponentiation.threshold 20000
namespace Lw
open PySem PySem.Spec PyProof.Rows L2 Gd Fr
open scoped Rat
namespace Xe
def inv : Xe → Xe
  | .q a => .q (1 / a)
  | _ => .q 0
theorem one_qz : Qz 1 1 (1 : Rat) := ⟨by show Bd 1 1; unfold Bd; decide, by show Bd 1 1; unfold Bd; decide⟩
theorem inv_bd {x : Xe} {n d : Nat} (h : x.bd n d) (h0 : x.n ≠ 0) : x.inv.bd (1 + d) (1 + n) := by
  have z0 : Qz (1 + d) (1 + n) 0 := ⟨by show Bd _ 0; unfold Bd; exact Nat.pow_pos (by decide), by show Bd _ 1; unfold Bd; exact Nat.lt_of_lt_of_le (show 1 < 2 ^ 1 by decide) (Nat.pow_le_pow_right (by decide) (by omega))⟩
  cases x with
  | q a => exact Qz.div one_qz h (fun z => h0 (by rw [z]; rfl))
  | lo => exact z0
  | hi => exact z0
theorem inv_q (x : Xe) : ∃ r, x.inv = .q r := by cases x <;> exact ⟨_, rfl⟩
theorem le_cases {x y : Xe} (h : y.lt x = false) : x = y ∨ x.lt y = true := by
  cases c : x.lt y with
  | true => exact .inr rfl
  | false => exact .inl (tot c h)
theorem le_trans {x y z : Xe} (h : y.lt x = false) (h2 : z.lt y = false) : z.lt x = false := by
  rcases le_cases h with rfl | a
  · exact h2
  · rcases le_cases h2 with rfl | b
    · exact h
    · exact asym (trans a b)
theorem min_le1 (x y : Xe) : x.lt (min x y) = false := by
  unfold min
  by_cases c : y.lt x = true
  · rw [if_pos c]; exact asym c
  · rw [if_neg c]; exact irr x
theorem min_le2 (x y : Xe) : y.lt (min x y) = false := by
  unfold min
  by_cases c : y.lt x = true
  · rw [if_pos c]; exact irr y
  · rw [if_neg c]; simpa using c
theorem max_le1 (x y : Xe) : (max x y).lt x = false := by
  unfold max
  by_cases c : x.lt y = true
  · rw [if_pos c]; exact asym c
  · rw [if_neg c]; exact irr x
theorem max_le2 (x y : Xe) : (max x y).lt y = false := by
  unfold max
  by_cases c : x.lt y = true
  · rw [if_pos c]; exact irr y
  · rw [if_neg c]; simpa using c
theorem minmax (a b c d : Xe) : (maxL [a, b, c, d]).lt (minL [a, b, c, d]) = false := by
  have h1 : a.lt (minL [a, b, c, d]) = false := le_trans (min_le1 _ d) (le_trans (min_le1 _ c) (min_le1 a b))
  have h2 : (maxL [a, b, c, d]).lt a = false := le_trans (le_trans (max_le1 a b) (max_le1 _ c)) (max_le1 _ d)
  exact le_trans h1 h2
end Xe
theorem prod_le (a b : Xe × Xe) : (prodX a b).2.lt (prodX a b).1 = false := Xe.minmax _ _ _ _
def recN (a : Xe × Xe) : Xe × Xe := (if a.2.n < 0 then a.2.inv else .lo, a.1.inv)
def recP (a : Xe × Xe) : Xe × Xe := (a.2.inv, if 0 < a.1.n then a.1.inv else .hi)
structure Pok (a : Xe × Xe) : Prop where
  b1 : a.1.bd 2342 3041
  b2 : a.2.bd 2342 3041
  l1 : a.1 ≠ .hi
  l2 : a.2 ≠ .lo
theorem inv_hi (x : Xe) : x.inv ≠ .hi := by obtain ⟨r, e⟩ := x.inv_q; rw [e]; exact fun z => Xe.noConfusion z
theorem inv_lo (x : Xe) : x.inv ≠ .lo := by obtain ⟨r, e⟩ := x.inv_q; rw [e]; exact fun z => Xe.noConfusion z
theorem recN_ok {N : Nat} {a : Xe × Xe} (h : Rok N a) (h0 : a.1.n < 0) : Pok (recN a) := by
  refine ⟨?_, Xe.inv_bd h.b1 (by omega), ?_, inv_lo _⟩
  · show (if a.2.n < 0 then a.2.inv else .lo).bd _ _
    split
    · exact Xe.inv_bd h.b2 (by omega)
    · trivial
  · show (if a.2.n < 0 then a.2.inv else .lo) ≠ .hi
    split
    · exact inv_hi _
    · exact fun z => Xe.noConfusion z
theorem recP_ok {N : Nat} {a : Xe × Xe} (h : Rok N a) (h0 : 0 < a.2.n) : Pok (recP a) := by
  refine ⟨Xe.inv_bd h.b2 (by omega), ?_, inv_hi _, ?_⟩
  · show (if 0 < a.1.n then a.1.inv else .hi).bd _ _
    split
    · exact Xe.inv_bd h.b1 (by omega)
    · trivial
  · show (if 0 < a.1.n then a.1.inv else .hi) ≠ .lo
    split
    · exact inv_lo _
    · exact fun z => Xe.noConfusion z
theorem quo_ok {N : Nat} {a p : Xe × Xe} (h : Rok N a) (hp : Pok p) : (prodX a p).1.bd 8900 6500 ∧ (prodX a p).2.bd 8900 6500 ∧ (prodX a p).1 ≠ .hi ∧ (prodX a p).2 ≠ .lo := by
  have pb : ∀ x ∈ prodL a p, x.bd 8900 6500 := fun x hx => by
    simp only [prodL, List.mem_cons, List.not_mem_nil, or_false] at hx
    rcases hx with rfl | rfl | rfl | rfl
    · exact Xe.bd_le (Xe.mul_bd h.b1 hp.b1 (by decide) (by decide)) (by decide) (by decide)
    · exact Xe.bd_le (Xe.mul_bd h.b1 hp.b2 (by decide) (by decide)) (by decide) (by decide)
    · exact Xe.bd_le (Xe.mul_bd h.b2 hp.b1 (by decide) (by decide)) (by decide) (by decide)
    · exact Xe.bd_le (Xe.mul_bd h.b2 hp.b2 (by decide) (by decide)) (by decide) (by decide)
  have m0 : prodL a p ≠ [] := fun z => by cases z
  exact ⟨pb _ (Xe.minL_mem m0), pb _ (Xe.maxL_mem m0), Xe.prods_lo h.l1 h.l2 hp.l1 hp.l2, Xe.prods_hi h.l1 h.l2 hp.l1 hp.l2⟩
noncomputable def lspX (b p : Nat) (low high : Int) (a : Xe × Xe) : Sp := .span (loX b p low high a.1) (upX b p low high a.2)
noncomputable def quoS (b p : Nat) (low high : Int) (one other : Xe × Xe) : Sp :=
  if other.1.n < 0 then (if 0 < other.2.n then hullS (lspX b p low high (prodX one (recN other))) (lspX b p low high (prodX one (recP other))) else lspX b p low high (prodX one (recN other)))
  else if 0 < other.2.n then lspX b p low high (prodX one (recP other)) else .none
section
variable {b p : Nat} {low high : Int} (F : Fm b p low high)
include F
theorem loX_ok (x : Xe) : Vcan b p low high (loX b p low high x) ∧ (loX b p low high x).isNan = false ∧ plc (loX b p low high x) ∧ loX b p low high x ≠ .inf 0 := by
  cases x with
  | q r => exact lo_can F r
  | lo => exact ⟨.inr rfl, rfl, plc_inf 1, by show Va.inf 1 ≠ .inf 0; intro z; injection z with z; exact absurd z (by decide)⟩
  | hi => exact ⟨.inr rfl, rfl, plc_inf 1, by show Va.inf 1 ≠ .inf 0; intro z; injection z with z; exact absurd z (by decide)⟩
theorem upX_ok (x : Xe) : Vcan b p low high (upX b p low high x) ∧ (upX b p low high x).isNan = false ∧ plc (upX b p low high x) ∧ upX b p low high x ≠ .inf 1 := by
  cases x with
  | q r => exact up_can F r
  | lo => exact ⟨.inl rfl, rfl, plc_inf 0, by show Va.inf 0 ≠ .inf 1; intro z; injection z with z; exact absurd z (by decide)⟩
  | hi => exact ⟨.inl rfl, rfl, plc_inf 0, by show Va.inf 0 ≠ .inf 1; intro z; injection z with z; exact absurd z (by decide)⟩
theorem lo_mono {x y : Xe} (hy : y ≠ .hi) (h : y.lt x = false) : ¬ lex3 (plT (loX b p low high y)) (plT (loX b p low high x)) := by
  cases x with
  | lo => exact low_lex (loX_ok F y).1 (loX_ok F y).2.1
  | hi =>
    cases y with
    | hi => exact absurd rfl hy
    | lo => cases h
    | q s => cases h
  | q r =>
    cases y with
    | hi => exact absurd rfl hy
    | lo => cases h
    | q s =>
      have hrs : ¬ s < r := of_decide_eq_false h
      obtain ⟨c1, c2, c3, c4⟩ := lo_can F r
      have e1 := lo_iff F c1 c2 c3 c4 r
      have e2 := lo_iff F c1 c2 c3 c4 s
      rw [decide_eq_false (lex_irr _)] at e1
      intro z
      rw [decide_eq_true (show lex3 (plT (loV b p low high s)) (plT (loV b p low high r)) from z)] at e2
      cases hn : (loV b p low high r).isNum with
      | false => rw [hn] at e2; cases e2
      | true =>
        rw [hn, Bool.true_and] at e1 e2
        have f1 := of_decide_eq_false e1.symm
        have f2 := of_decide_eq_true e2.symm
        grind
theorem up_mono {x y : Xe} (hx : x ≠ .lo) (h : y.lt x = false) : ¬ lex3 (plT (upX b p low high y)) (plT (upX b p low high x)) := by
  cases y with
  | hi => exact top_lex (upX_ok F x).1 (upX_ok F x).2.1
  | lo =>
    cases x with
    | lo => exact absurd rfl hx
    | hi => cases h
    | q s => cases h
  | q s =>
    cases x with
    | lo => exact absurd rfl hx
    | hi => cases h
    | q r =>
      have hrs : ¬ s < r := of_decide_eq_false h
      obtain ⟨c1, c2, c3, c4⟩ := up_can F s
      have e1 := up_iff F c1 c2 c3 c4 s
      have e2 := up_iff F c1 c2 c3 c4 r
      rw [decide_eq_false (lex_irr _)] at e1
      intro z
      rw [decide_eq_true (show lex3 (plT (upV b p low high s)) (plT (upV b p low high r)) from z)] at e2
      cases hn : (upV b p low high s).isInf with
      | true => rw [hn] at e2; cases e2
      | false =>
        rw [hn, Bool.false_or] at e1 e2
        have f1 : ¬ (upV b p low high s).wQ b < s := fun w => by rw [decide_eq_true w] at e1; cases e1
        have f2 : (upV b p low high s).wQ b < r := by
          by_cases w : (upV b p low high s).wQ b < r
          · exact w
          · rw [decide_eq_false w] at e2; cases e2
        grind
end
section
variable {b p : Nat} {low high : Int} (F : Fm b p low high)
include F
end
end Lw
namespace Gd
open PySem PySem.Spec PyProof.Rows L2
section
variable {X : Cx} {i : Nat} {Γ : List VD} {B B1 B2 B' : Bag} {acc ds ys : List PyData} {e a b c : Expr} {es : List Expr} {d da db : VD} {y : PyData} {pos p p1 p2 p3 pos' : Pos} {rest ss s1 s2 : List Stmt} {E : EnO} {Es : En}
end
end Gd
set_option exponentiation.threshold 20000
namespace Lw
open PySem PySem.Spec PyProof.Rows L2 Gd Fr
open scoped Rat
noncomputable def rtV (b p : Nat) (low high : Int) (way : Str) (q : Rat) : Va :=
  if 0 < q then outV b p high way 0 (eR b p low q) (cR b (eR b p low q) q) (prR b (eR b p low q) q) else .num 0 0 low
noncomputable def rtLo (b p : Nat) (low high : Int) : Xe → Va
  | .q r => rtV b p low high "down" r
  | _ => .num 0 0 low
noncomputable def rtUp (b p : Nat) (low high : Int) : Xe → Va
  | .q r => rtV b p low high "up" r
  | _ => .inf 0
noncomputable def rootS (b p : Nat) (low high : Int) (a : Xe × Xe) : Sp := .span (rtLo b p low high a.1) (rtUp b p low high a.2)
noncomputable def gE (b p : Nat) (low : Int) (q : Rat) : Int := if 0 < q then eR b p low q else low
noncomputable def gC (b p : Nat) (low : Int) (q : Rat) : Int := if 0 < q then cR b (eR b p low q) q else 0
section
variable {b p : Nat} {low high : Int} (F : Fm b p low high)
include F
theorem lsp_ok2 {a : Xe × Xe} (l1 : a.1 ≠ .hi) (l2 : a.2 ≠ .lo) (h : a.2.lt a.1 = false) : (lspX b p low high a).ok2 b p low high := by
  obtain ⟨x, y⟩ := a
  obtain ⟨u1, u2, u3, u4⟩ := loX_ok F x
  obtain ⟨v1, v2, v3, v4⟩ := upX_ok F y
  refine ⟨⟨⟨u1, u2⟩, v1, v2⟩, u3, v3, u4, v4, ?_⟩
  show ¬ lex3 (plT (upX b p low high y)) (plT (loX b p low high x))
  cases x with
  | lo => exact low_lex v1 v2
  | hi => exact absurd rfl l1
  | q r =>
    cases y with
    | hi => exact top_lex u1 u2
    | lo => exact absurd rfl l2
    | q s =>
      have hrs : ¬ s < r := of_decide_eq_false h
      exact (lo_up F (show r ≤ s by grind)).2.2.2.2.2
end
inductive R_xinv : Rel
  | mk (x : Xe) (n d : Nat) (B : Bag) (hx : x.bd n d) (h0 : x.n ≠ 0) (h1 : n ≤ 8000) (h2 : d ≤ 8000) : R_xinv [.da x.d] B x.inv.d B
def recL (a : Xe × Xe) : List (Xe × Xe) := (if a.1.n < 0 then [recN a] else []) ++ (if 0 < a.2.n then [recP a] else [])
inductive R_recs (f : Xe × Xe → List (Xe × Xe)) : Rel
  | mk (a : Xe × Xe) (N : Nat) (B : Bag) (h : Rok N a) : R_recs f [.da (rD a)] B (.list ((f a).map rD)) B
inductive R_quo : Rel
  | mk (b p : Nat) (low high : Int) (one other : Xe × Xe) (N : Nat) (B : Bag) (F : Fm b p low high) (h1 : Rok N one) (h2 : Rok N other) :
      R_quo [.da (fmP b p low high), .da (rD one), .da (rD other)] B (.tuple [(quoS b p low high one other).d, .bool (decide (0 < other.1.n) || decide (other.2.n < 0))]) B
def Xe.rt (b : Nat) (low : Int) (x : Xe) : Prop := x.e = 0 ∨ x.n ≤ 0 ∨ ∃ r, x = .q r ∧ RtOk b low r 3040 2341
inductive R_rootr : Rel
  | no (b p : Nat) (low high : Int) (a : Xe × Xe) (N : Nat) (B : Bag) (F : Fm b p low high) (h : Rok N a) (hn : a.2.n < 0) : R_rootr [.da (fmP b p low high), .da (rD a)] B (.tuple [Sp.d .none, .bool false]) B
  | mk (b p : Nat) (low high : Int) (a : Xe × Xe) (N : Nat) (B : Bag) (F : Fm b p low high) (h : Rok N a) (hn : 0 ≤ a.2.n) (r1 : a.1.rt b low) (r2 : a.2.rt b low) :
      R_rootr [.da (fmP b p low high), .da (rD a)] B (.tuple [(rootS b p low high a).d, .bool (decide (0 ≤ a.1.n))]) B
end Lw
set_option exponentiation.threshold 20000
namespace Lw
open PySem PySem.Spec PyProof.Rows L2 Gd Fr
open scoped Rat
section
variable {b p : Nat} {low high : Int} (F : Fm b p low high)
include F
end
end Lw
set_option exponentiation.threshold 20000
namespace Lw
open PySem PySem.Spec PyProof.Rows L2 Gd Fr
open scoped Rat
section
variable {b p : Nat} {low high : Int} (F : Fm b p low high)
include F
end
end Lw
namespace Gd
open PySem PySem.Spec PyProof.Rows L2
section
variable {X : Cx} {Γ : List VD} {B B0 B1 B2 : Bag} {e fe i : Expr} {es : List Expr} {p pos dpos : Pos}
end
end Gd
set_option exponentiation.threshold 20000
namespace Lw
open PySem PySem.Spec PyProof.Rows L2 Gd Fr
open scoped Rat
section
variable {b p : Nat} {low high : Int} (F : Fm b p low high)
include F
end
end Lw
set_option exponentiation.threshold 20000
namespace Lw
open PySem PySem.Spec PyProof.Rows L2 Gd Fr
open scoped Rat
section
variable {b p : Nat} {low high : Int} (F : Fm b p low high)
include F
end
end Lw
set_option exponentiation.threshold 20000
namespace Lw
open PySem PySem.Spec PyProof.Rows L2 Gd Fr
open scoped Rat
section
variable {b p : Nat} {low high : Int} (F : Fm b p low high)
include F
end
end Lw
set_option exponentiation.threshold 20000
namespace Lw
open PySem PySem.Spec PyProof.Rows L2 Gd Fr
open scoped Rat
section
variable {b p : Nat} {low high : Int}
end
end Lw
namespace Gd
open PySem PySem.Spec PyProof.Rows L2
section
variable {X : Cx} {i : Nat} {Γ : List VD} {B B1 B2 B3 B' : Bag} {acc ds : List PyData} {e e2 a b c : Expr} {d da db : VD} {y y2 : PyData} {pos p p1 p2 p3 pos' px : Pos} {rest ss s1 s2 : List Stmt} {E : EnO}
end
end Gd
namespace Gd
open PySem PySem.Spec PyProof.Rows L2
section
variable {X : Cx} {Γ : List VD} {B B1 B2 : Bag} {i f : Expr}
end
end Gd
namespace Gd
open PySem PySem.Spec PyProof.Rows L2
section
variable {X : Cx} {Γ : List VD} {B B1 B2 : Bag} {a b : Expr} {pos : Pos}
theorem op_isnotB : OpR X (compareOp .IsNot) (fun x y H Q => ∃ a b, x = .bl a ∧ y = .bl b ∧ Q (.bl (!decide (a = b))) H) := by
  intro pins s σ H x y v u Q I rx ry h
  obtain ⟨a, b, rfl, rfl, q⟩ := h
  cases rx
  cases ry
  show wpAny _ _ ((isSame (.bool a) (.bool b)) >>= fun z => pure (Value.bool (!z))) _ _ s
  refine wpAny_bind (wpAny_isSame_plain rfl ?_)
  refine wpAny_pure (fin_bl I q ?_)
  cases a <;> cases b <;> rfl
theorem tj_isnotB {x y : Bool} (ha : EJ X Γ B a (.da (.bool x)) B1) (hb : EJ X Γ B1 b (.da (.bool y)) B2) (hm : behindInMarks .IsNot b = false := by rfl) : TJ X Γ B (.Compare a [.IsNot] [b] pos) (!decide (x = y)) B2 :=
  tj_cmp ha hb op_isnotB hm fun g v w H0 H O r1 r2 Q q => ⟨x, y, rvB r1, rvB r2, q H0 H To.refl O⟩
end
end Gd
set_option exponentiation.threshold 20000
namespace Lw
open PySem PySem.Spec PyProof.Rows L2 Gd Fr
open scoped Rat
section
variable {b p : Nat} {low high : Int}
end
end Lw
set_option exponentiation.threshold 20000
namespace Lw
open PySem PySem.Spec PyProof.Rows L2 Gd Fr
open scoped Rat
def Post_few (Γ : List VD) (_ : Bag) (r : PyData) (B' : Bag) : Prop :=
  Bok B' ∧ ∃ (t : F4) (u v : Va) (r1 r2 : Int), Γ = [.bag, .da t.d] ∧ r = (Sp.span u v).d ∧ atV t.1 t.2.1 t.2.2.1 t.2.2.2 r1 = some u ∧ atV t.1 t.2.1 t.2.2.1 t.2.2.2 r2 = some v ∧ -mostI t.1 t.2.1 t.2.2.1 t.2.2.2 < r1 ∧ r1 ≤ r2 ∧ r2 < mostI t.1 t.2.1 t.2.2.1 t.2.2.2 ∧ r2 ≤ r1 + 6
theorem rk_at {b p : Nat} {low high : Int} (F : Fm b p low high) {r : Int} (h0 : -mostI b p low high ≤ r) (h1 : r ≤ mostI b p low high) : ∃ v, atV b p low high r = some v ∧ Vcan b p low high v ∧ v.isNan = false ∧ rkI b p low high v = r ∧ plc v := by
  have ha : 0 ≤ absI r ∧ absI r ≤ mostI b p low high := by unfold absI; split <;> omega
  obtain ⟨v, e, hc, hn, hs, hk⟩ := at_some F ha.1 ha.2
  unfold atV
  rw [e]
  by_cases hr : r < 0
  · have hab : absI r = -r := by unfold absI; rw [if_pos hr]
    refine ⟨v.opp, by rw [Option.map_some, if_pos hr], hc.opp, by rw [opp_nan]; exact hn, ?_, ?_⟩
    · cases v with
      | nan => cases hn
      | inf s =>
        have hs : s = 0 := hs
        subst hs
        show (if (1 - 0 : Int) = 1 then -mostI b p low high else mostI b p low high) = r
        have hk : mostI b p low high = absI r := hk
        rw [if_pos (by decide)]; omega
      | num s c e2 =>
        have hs : s = 0 := hs
        subst hs
        have hk : c + (e2 - low) * fmI b p = absI r := hk
        show (if (1 - 0 : Int) = 1 then -(c + (e2 - low) * fmI b p) else c + (e2 - low) * fmI b p) = r
        rw [if_pos (by decide)]; omega
    · cases v with
      | nan => cases hn
      | inf s => exact plc_inf _
      | num s c e2 =>
        intro hz
        exfalso
        have hz : c = 0 := of_decide_eq_true hz
        have hk : c + (e2 - low) * fmI b p = absI r := hk
        have el : e2 = low := by
          rcases hc.2.1.2.2.2 with z | z
          · exact z
          · exfalso
            have : 0 < ((b ^ (p - 1) : Nat) : Int) := Int.natCast_pos.mpr (Nat.pow_pos (by have := F.b2; omega))
            omega
        rw [hz, el, Int.sub_self, Int.zero_mul] at hk
        omega
  · have hab : absI r = r := by unfold absI; rw [if_neg hr]
    refine ⟨v, by rw [Option.map_some, if_neg hr], hc, hn, ?_, fun _ => hs⟩
    unfold rkI
    rw [if_neg (by rw [hs]; decide), hk, hab]
end Lw
namespace Gd
open PySem PySem.Spec PyProof.Rows L2
section
variable {X : Cx} {Γ : List VD} {B B1 B2 : Bag} {e1 e2 e3 e4 i : Expr} {pos dpos : Pos}
end
section
variable {X : Cx} {Γ : List VD} {B B1 B2 B' : Bag} {e a b c elt : Expr} {scope : Scope} {j : Nat} {x : Str} {px : Pos} {ds ys acc : List PyData} {pos pos' p : Pos} {rest : List Stmt} {E : EnO} {d : VD} {y y1 : PyData}
variable {i : Nat}
end
end Gd
set_option exponentiation.threshold 20000
namespace Lw
open PySem PySem.Spec PyProof.Rows L2 Gd Fr
open scoped Rat
inductive Stp where
  | input (i : Nat)
  | told (q : Rat)
  | op (w : Str) (is : List Nat)
def Stp.d : Stp → PyData
  | .input i => .tuple [.str "input", .int (i : Nat)]
  | .told q => .tuple [.str "told", fq q]
  | .op w is => .tuple (.str w :: is.map fun i => PyData.int (i : Nat))
def Stp.word : Stp → Str
  | .input _ => "input"
  | .told _ => "told"
  | .op w _ => w
def pgWords : List Str := ["add", "take", "if", "least", "greatest", "opposite", "size", "times", "by", "fused", "root"]
def arity (w : Str) : Nat := if ("fused" : Str) = w then 3 else if ("if" : Str) = w then 4 else if ("opposite" : Str) = w then 1 else if ("size" : Str) = w then 1 else if ("root" : Str) = w then 1 else 2
def Stp.ok (many k : Nat) : Stp → Prop
  | .input i => i < many
  | .told q => Qz 11 5 q
  | .op w is => w ∈ pgWords ∧ is.length = arity w ∧ ∀ i ∈ is, i < k
def enX (b : Nat) : Sp → Xe × Xe
  | .span u v => (Xe.of b u, Xe.of b v)
  | .none => (.lo, .hi)
abbrev SB := Sp × Bool
structure Xe2 (r : Xe × Xe) : Prop where
  l1 : r.1 ≠ .hi
  l2 : r.2 ≠ .lo
  le : r.2.lt r.1 = false
theorem Rok.two {N : Nat} {a : Xe × Xe} (h : Rok N a) : Xe2 a := ⟨h.l1, h.l2, h.le⟩
namespace Xe
theorem add_le {x y x' y' : Xe} (hx : x ≠ .hi) (hy : y ≠ .lo) (hx' : x' ≠ .hi) (hy' : y' ≠ .lo) (h : y.lt x = false) (h' : y'.lt x' = false) : (y.add y').lt (x.add x') = false := by
  cases x <;> cases y <;> cases x' <;> cases y' <;> simp_all [lt, add] <;> grind
theorem add_nhi {x y : Xe} (hx : x ≠ .hi) (hy : y ≠ .hi) : x.add y ≠ .hi := by cases x <;> cases y <;> simp_all [add]
theorem add_nlo {x y : Xe} (hx : x ≠ .lo) (hy : y ≠ .lo) : x.add y ≠ .lo := by cases x <;> cases y <;> simp_all [add]
theorem neg_nhi {x : Xe} (hx : x ≠ .lo) : x.neg ≠ .hi := by cases x <;> simp_all [neg]
theorem neg_nlo {x : Xe} (hx : x ≠ .hi) : x.neg ≠ .lo := by cases x <;> simp_all [neg]
end Xe
theorem sums_two {a c : Xe × Xe} (ha : Xe2 a) (hc : Xe2 c) : Xe2 (sumsX a c) := ⟨Xe.add_nhi ha.l1 hc.l1, Xe.add_nlo ha.l2 hc.l2, Xe.add_le ha.l1 ha.l2 hc.l1 hc.l2 ha.le hc.le⟩
theorem opps_two {a : Xe × Xe} (ha : Xe2 a) : Xe2 (oppsX a) := ⟨Xe.neg_nhi ha.l2, Xe.neg_nlo ha.l1, by show (a.1.neg).lt (a.2.neg) = false; rw [Xe.neg_lt]; exact ha.le⟩
theorem prods_two {a c : Xe × Xe} (ha : Xe2 a) (hc : Xe2 c) : Xe2 (prodX a c) := ⟨Xe.prods_lo ha.l1 ha.l2 hc.l1 hc.l2, Xe.prods_hi ha.l1 ha.l2 hc.l1 hc.l2, prod_le a c⟩
theorem siz_two {a : Xe × Xe} (ha : Xe2 a) : Xe2 (sizX a) := by
  unfold sizX
  split
  · rename_i h
    refine ⟨fun z => (by cases z), fun z => ha.l2 (Xe.max_lo z).2, ?_⟩
    have h0 : (a.2).lt zrX = false := by rw [Xe.n_neg]; exact decide_eq_false (by omega)
    exact Xe.le_trans h0 (Xe.max_le2 _ _)
  · split
    · exact ha
    · exact opps_two ha
theorem lea_two {a c : Xe × Xe} (ha : Xe2 a) (hc : Xe2 c) : Xe2 (leaX a c) := by
  refine ⟨fun z => ha.l1 (Xe.min_hi z).1, ?_, ?_⟩
  · show Xe.min a.2 c.2 ≠ .lo
    rcases Xe.min_mem a.2 c.2 with e | e <;> rw [e]
    · exact ha.l2
    · exact hc.l2
  · show (Xe.min a.2 c.2).lt (Xe.min a.1 c.1) = false
    rcases Xe.min_mem a.2 c.2 with e | e <;> rw [e]
    · exact Xe.le_trans (Xe.min_le1 _ _) ha.le
    · exact Xe.le_trans (Xe.min_le2 _ _) hc.le
theorem gra_two {a c : Xe × Xe} (ha : Xe2 a) (hc : Xe2 c) : Xe2 (graX a c) := by
  refine ⟨?_, fun z => ha.l2 (Xe.max_lo z).1, ?_⟩
  · show Xe.max a.1 c.1 ≠ .hi
    rcases Xe.max_mem a.1 c.1 with e | e <;> rw [e]
    · exact ha.l1
    · exact hc.l1
  · show (Xe.max a.2 c.2).lt (Xe.max a.1 c.1) = false
    rcases Xe.max_mem a.1 c.1 with e | e <;> rw [e]
    · exact Xe.le_trans ha.le (Xe.max_le1 _ _)
    · exact Xe.le_trans hc.le (Xe.max_le2 _ _)
theorem op_two {w : Str} {L : List (Xe × Xe)} {r : Xe × Xe} (h : OpX w L r) (hL : ∀ a ∈ L, Xe2 a) : Xe2 r := by
  cases h with
  | add a c => exact sums_two (hL a (by simp)) (hL c (by simp))
  | take a c => exact sums_two (hL a (by simp)) (opps_two (hL c (by simp)))
  | times a c => exact prods_two (hL a (by simp)) (hL c (by simp))
  | fused a c e => exact sums_two (prods_two (hL a (by simp)) (hL c (by simp))) (hL e (by simp))
  | opposite a => exact opps_two (hL a (by simp))
  | size a => exact siz_two (hL a (by simp))
  | least a c => exact lea_two (hL a (by simp)) (hL c (by simp))
  | greatest a c => exact gra_two (hL a (by simp)) (hL c (by simp))
section
variable {b p : Nat} {low high : Int} (F : Fm b p low high)
include F
theorem lsp_two {a : Xe × Xe} (h : Xe2 a) : (lspX b p low high a).ok2 b p low high := lsp_ok2 F h.l1 h.l2 h.le
theorem enX_ok {s : Sp} (hs : s.ok2 b p low high) (hn : s.isN = false) : Rok (b ^ (-low).toNat) (enX b s) := by
  cases s with
  | none => cases hn
  | span u v => exact reach_ok F hs
omit F in
theorem one_ofL {α : Type} {L : List α} (h : L.length = 1) : ∃ a, L = [a] := match L, h with | [a], _ => ⟨a, rfl⟩
omit F in
theorem two_ofL {α : Type} {L : List α} (h : L.length = 2) : ∃ a b, L = [a, b] := match L, h with | [a, b], _ => ⟨a, b, rfl⟩
end
end Lw
namespace Gd
open PySem PySem.Spec PyProof.Rows L2
section
variable {X : Cx} {i : Nat} {Γ : List VD} {B B1 B2 B' : Bag} {acc ds dd : List PyData} {e c : Expr} {es : List Expr} {d : VD} {y : PyData} {pos p p1 p2 p3 pos' : Pos} {rest ss s1 s2 : List Stmt}
variable {E : EnO}
end
end Gd
namespace Gd
open PySem PySem.Spec PyProof.Rows L2
section
variable {X : Cx} {Γ : List VD} {B B1 B2 B' : Bag} {e a b c elt : Expr} {scope : Scope} {j : Nat} {x : Str} {px : Pos}
theorem rj_mapL {α : Type} (L : List α) (D z : α → PyData) (hi : EJ X Γ B e (.da (.list (L.map D))) B1) (hz : L.length ≤ 1000) (h : ∀ a ∈ L, Blk X scope fun Y => EJ Y (Γ.set j (.da (D a))) B1 elt (.da (z a)) B1) :
    RJ X Γ B (tLc (iList X.K (WE X e)) (gName j) tYes (WB X scope elt) [j]) (.da (.list (L.map z))) B1 :=
  rj_lc (ds := L.map D) (ys := L.map z) (fun _ => B1) hi (by rw [List.length_map, List.length_map]) (by rw [List.length_map]; exact hz) fun i y w hy hw => by
    rw [List.getElem?_map] at hy hw
    obtain ⟨a, ha, rfl⟩ := Option.map_eq_some_iff.mp hy
    rw [ha] at hw
    obtain rfl : z a = w := Option.some.inj hw
    exact h a (List.mem_of_getElem? ha)
theorem rj_mapT {α : Type} (L : List α) (D z : α → PyData) (hi : EJ X Γ B e (.da (.tuple (L.map D))) B1) (hz : L.length ≤ 1000) (h : ∀ a ∈ L, Blk X scope fun Y => EJ Y (Γ.set j (.da (D a))) B1 elt (.da (z a)) B1) :
    RJ X Γ B (tLc (iTup X.K (WE X e)) (gName j) tYes (WB X scope elt) [j]) (.da (.list (L.map z))) B1 :=
  rj_lcT (ds := L.map D) (ys := L.map z) (fun _ => B1) hi (by rw [List.length_map, List.length_map]) (by rw [List.length_map]; exact hz) fun i y w hy hw => by
    rw [List.getElem?_map] at hy hw
    obtain ⟨a, ha, rfl⟩ := Option.map_eq_some_iff.mp hy
    rw [ha] at hw
    obtain rfl : z a = w := Option.some.inj hw
    exact h a (List.mem_of_getElem? ha)
end
end Gd
namespace Gd
open PySem PySem.Spec PyProof.Rows L2
section
variable {X : Cx} {i : Nat} {Γ : List VD} {B B1 B2 B' : Bag} {acc ds : List PyData} {e a b c : Expr} {es : List Expr} {d : VD} {y : PyData} {pos p p1 p2 p3 pos' : Pos} {rest ss s1 s2 : List Stmt} {E : EnO} {Φ : List PyData → Bag → Prop}
end
end Gd
set_option exponentiation.threshold 20000
namespace Lw
open PySem PySem.Spec PyProof.Rows L2 Gd Fr
open scoped Rat
theorem words_in {w : Str} (h : w ∈ pgWords) : (w.cps.all fun c => c < 0x110000) = true ∧ w.cps.size ≤ 20 ∧ w ≠ "input" ∧ w ≠ "told" := by
  simp only [pgWords, List.mem_cons, List.not_mem_nil, or_false] at h
  rcases h with rfl | rfl | rfl | rfl | rfl | rfl | rfl | rfl | rfl | rfl | rfl <;> exact ⟨by decide +kernel, by decide, by decide, by decide⟩
theorem arity_le (w : Str) : 1 ≤ arity w ∧ arity w ≤ 4 := by
  unfold arity
  repeat' split
  all_goals exact ⟨by decide, by decide⟩
section
variable {b p : Nat} {low high : Int} (F : Fm b p low high)
include F
end
end Lw
set_option exponentiation.threshold 20000
namespace Lw
open PySem PySem.Spec PyProof.Rows L2 Gd Fr
open scoped Rat
def xle (x y : Xe) : Prop := y.lt x = false
def xin (a' a : Xe × Xe) : Prop := xle a.1 a'.1 ∧ xle a'.2 a.2
theorem xle_q {r s : Rat} : xle (.q r) (.q s) ↔ r ≤ s := by
  show decide (s < r) = false ↔ _
  rw [decide_eq_false_iff_not]; exact Rat.not_lt
theorem xle_lo (x : Xe) : xle .lo x := by cases x <;> rfl
theorem xle_hi (x : Xe) : xle x .hi := by cases x <;> rfl
theorem xle.refl (x : Xe) : xle x x := Xe.irr x
theorem xle.trans {x y z : Xe} (h : xle x y) (h2 : xle y z) : xle x z := Xe.le_trans h h2
theorem xle.tot (x y : Xe) : xle x y ∨ xle y x := by
  unfold xle
  cases c : y.lt x with
  | false => exact .inl rfl
  | true => exact .inr (Xe.asym c)
theorem xle.neg {x y : Xe} (h : xle x y) : xle y.neg x.neg := by unfold xle; rw [Xe.neg_lt]; exact h
theorem xle.anti {x y : Xe} (h : xle x y) (h2 : xle y x) : x = y := Xe.tot h2 h
theorem hi_le {x : Xe} (h : xle .hi x) : x = .hi := by cases x <;> first | rfl | cases h
theorem xle_zn {x : Xe} : xle zrX x ↔ 0 ≤ x.n := by
  unfold xle; rw [Xe.n_neg, decide_eq_false_iff_not]; omega
theorem xle_zp {x : Xe} : xle x zrX ↔ x.n ≤ 0 := by
  unfold xle; rw [Xe.n_pos, decide_eq_false_iff_not]; omega
theorem add_up {x y x' y' : Xe} (n1 : x' ≠ .lo) (n2 : y' ≠ .lo) (m1 : x ≠ .lo) (m2 : y ≠ .lo) (h : xle x x') (h' : xle y y') : xle (x.add y) (x'.add y') := by
  cases x <;> cases x' <;> cases y <;> cases y' <;> simp_all [xle, Xe.lt, Xe.add] <;> grind
theorem add_dn {x y x' y' : Xe} (n1 : x' ≠ .hi) (n2 : y' ≠ .hi) (m1 : x ≠ .hi) (m2 : y ≠ .hi) (h : xle x x') (h' : xle y y') : xle (x.add y) (x'.add y') := by
  cases x <;> cases x' <;> cases y <;> cases y' <;> simp_all [xle, Xe.lt, Xe.add] <;> grind
theorem mul_commX (x y : Xe) : Xe.mul x y = Xe.mul y x := by
  by_cases c : x.n = 0 ∨ y.n = 0
  · unfold Xe.mul
    rw [if_pos c, if_pos c.symm]
  · have f1 : (decide (x.n = 0) || decide (y.n = 0)) = false := by rw [Bool.or_eq_false_iff, decide_eq_false_iff_not, decide_eq_false_iff_not]; omega
    have f2 : (decide (y.n = 0) || decide (x.n = 0)) = false := by rw [Bool.or_comm]; exact f1
    by_cases he : (decide (x.e = 0) || decide (y.e = 0)) = true
    · rw [Xe.mul_inf f1 he, Xe.mul_inf f2 (by rw [Bool.or_comm]; exact he)]
      by_cases g : decide (0 < x.n) = decide (0 < y.n)
      · rw [if_pos g, if_pos g.symm]
      · rw [if_neg g, if_neg (fun z => g z.symm)]
    · cases x with
      | q r => cases y with
        | q s => rw [Xe.mul_q f1, Xe.mul_q f2, Rat.mul_comm]
        | lo => exact absurd (by simp [Xe.e]) he
        | hi => exact absurd (by simp [Xe.e]) he
      | lo => exact absurd (by simp [Xe.e]) he
      | hi => exact absurd (by simp [Xe.e]) he
theorem n_q {r : Rat} : (Xe.n (.q r) = 0 ↔ r = 0) ∧ (0 < Xe.n (.q r) ↔ 0 < r) ∧ (Xe.n (.q r) < 0 ↔ r < 0) := by
  refine ⟨Rat.num_eq_zero, ?_, num_neg_iff r⟩
  show 0 < r.num ↔ 0 < r
  rw [Rat.lt_iff]; show _ ↔ 0 * _ < _ * 1; omega
theorem mul_zeroR (x : Xe) {y : Xe} (h : y.n = 0) : Xe.mul x y = zrX := by unfold Xe.mul; rw [if_pos (.inr h)]; rfl
theorem mul_zeroL {x : Xe} (y : Xe) (h : x.n = 0) : Xe.mul x y = zrX := by unfold Xe.mul; rw [if_pos (.inl h)]; rfl
theorem xmul_qq (r s : Rat) : Xe.mul (.q r) (.q s) = .q (r * s) := by
  unfold Xe.mul
  by_cases c : Xe.n (.q r) = 0 ∨ Xe.n (.q s) = 0
  · rw [if_pos c]
    rcases c with c | c
    · rw [n_q.1.mp c, Rat.zero_mul]
    · rw [n_q.1.mp c, Rat.mul_zero]
  · rw [if_neg c]
theorem mul_pp {x y : Xe} (hx : 0 < x.n) (hy : 0 < y.n) (h : x.e = 0 ∨ y.e = 0) : Xe.mul x y = .hi := by
  rw [Xe.mul_inf (by rw [Bool.or_eq_false_iff, decide_eq_false_iff_not, decide_eq_false_iff_not]; omega) (by rw [Bool.or_eq_true, decide_eq_true_eq, decide_eq_true_eq]; exact h), decide_eq_true hx, decide_eq_true hy, if_pos rfl]
theorem mul_nn {x y : Xe} (hx : x.n < 0) (hy : y.n < 0) (h : x.e = 0 ∨ y.e = 0) : Xe.mul x y = .hi := by
  rw [Xe.mul_inf (by rw [Bool.or_eq_false_iff, decide_eq_false_iff_not, decide_eq_false_iff_not]; omega) (by rw [Bool.or_eq_true, decide_eq_true_eq, decide_eq_true_eq]; exact h), decide_eq_false (by omega), decide_eq_false (by omega), if_pos rfl]
theorem mul_np {x y : Xe} (hx : x.n < 0) (hy : 0 < y.n) (h : x.e = 0 ∨ y.e = 0) : Xe.mul x y = .lo := by
  rw [Xe.mul_inf (by rw [Bool.or_eq_false_iff, decide_eq_false_iff_not, decide_eq_false_iff_not]; omega) (by rw [Bool.or_eq_true, decide_eq_true_eq, decide_eq_true_eq]; exact h), decide_eq_false (by omega), decide_eq_true hy, if_neg Bool.false_ne_true]
theorem n_neg_n (x : Xe) : x.neg.n = -x.n ∧ x.neg.e = x.e := by
  cases x with
  | q r => exact ⟨Rat.neg_num r, by show ((-r).den : Int) = r.den; rw [Rat.neg_den]⟩
  | _ => exact ⟨rfl, rfl⟩
theorem mul_negR (x y : Xe) : Xe.mul x y.neg = (Xe.mul x y).neg := by
  obtain ⟨e1, e2⟩ := n_neg_n y
  by_cases hx : x.n = 0
  · rw [mul_zeroL _ hx, mul_zeroL _ hx]; rfl
  by_cases hy : y.n = 0
  · rw [mul_zeroR _ hy, mul_zeroR _ (by omega)]; rfl
  by_cases he : x.e = 0 ∨ y.e = 0
  · have he' : x.e = 0 ∨ y.neg.e = 0 := by omega
    have he2 : y.neg.e = 0 ∨ x.e = 0 := by omega
    have he3 : y.e = 0 ∨ x.e = 0 := by omega
    rcases Int.lt_or_lt_of_ne hx with a | a <;> rcases Int.lt_or_lt_of_ne hy with c | c
    · rw [mul_nn a c he, mul_np a (by omega) he']; rfl
    · rw [mul_np a c he, mul_nn a (by omega) he']; rfl
    · rw [mul_commX x y, mul_np c a he3, mul_pp a (by omega) he']; rfl
    · rw [mul_pp a c he, mul_commX x, mul_np (by omega) a he2]; rfl
  · cases x with
    | q r => cases y with
      | q s => show Xe.mul (.q r) (.q (-s)) = _; rw [xmul_qq, xmul_qq, Rat.mul_neg]; rfl
      | lo => exact absurd (.inr rfl) he
      | hi => exact absurd (.inr rfl) he
    | lo => exact absurd (.inl rfl) he
    | hi => exact absurd (.inl rfl) he
theorem n_mono {x y : Xe} (h : xle x y) : (0 < x.n → 0 < y.n) ∧ (0 ≤ x.n → 0 ≤ y.n) ∧ (y.n < 0 → x.n < 0) ∧ (y.n ≤ 0 → x.n ≤ 0) := by
  have h1 : 0 ≤ x.n → 0 ≤ y.n := fun z => xle_zn.mp ((xle_zn.mpr z).trans h)
  have h2 : y.n ≤ 0 → x.n ≤ 0 := fun z => xle_zp.mp (h.trans (xle_zp.mpr z))
  exact ⟨fun z => by rcases Int.lt_or_le 0 y.n with w | w
                     · exact w
                     · have := h2 w; omega, h1, fun z => by rcases Int.lt_or_le x.n 0 with w | w
                                                            · exact w
                                                            · have := h1 w; omega, h2⟩
theorem mul_mono {x x' y : Xe} (h : xle x x') (hy : 0 ≤ y.n) : xle (Xe.mul x y) (Xe.mul x' y) := by
  by_cases y0 : y.n = 0
  · rw [mul_zeroR _ y0, mul_zeroR _ y0]; exact .refl _
  have hp : 0 < y.n := by omega
  have nm := n_mono h
  by_cases hy' : y.e = 0
  · -- the factor is an inf
    rcases Int.lt_or_le x.n 0 with a | a
    · rw [mul_np a hp (.inr hy')]; exact xle_lo _
    · rcases Int.lt_or_le 0 x'.n with c | c
      · rw [mul_pp c hp (.inr hy')]; exact xle_hi _
      · have e1 : x'.n = 0 := by have := nm.2.1 a; omega
        have e2 : x.n = 0 := by have := nm.2.2.2 c; omega
        rw [mul_zeroL _ e1, mul_zeroL _ e2]; exact .refl _
  · cases y with
    | lo => exact absurd rfl hy'
    | hi => exact absurd rfl hy'
    | q s =>
      cases x with
      | lo => rw [mul_np (show Xe.n .lo < 0 by decide) hp (.inl rfl)]; exact xle_lo _
      | hi => rw [hi_le h]; exact .refl _
      | q r =>
        cases x' with
        | hi => rw [mul_pp (x := .hi) (show 0 < Xe.n .hi by decide) hp (.inl rfl)]; exact xle_hi _
        | lo => cases h
        | q r' =>
          rw [xmul_qq, xmul_qq]
          exact xle_q.mpr (Rat.mul_le_mul_of_nonneg_right (xle_q.mp h) (Rat.le_of_lt (n_q.2.1.mp hp)))
theorem mul_anti {x x' y : Xe} (h : xle x x') (hy : y.n ≤ 0) : xle (Xe.mul x' y) (Xe.mul x y) := by
  have e : ∀ z : Xe, Xe.mul z y = (Xe.mul z y.neg).neg := fun z => by
    rw [mul_negR]; cases Xe.mul z y <;> simp [Xe.neg]
  rw [e x', e x]
  exact (mul_mono h (by rw [(n_neg_n y).1]; omega)).neg
theorem min4_le {a b c d x : Xe} (h : x = a ∨ x = b ∨ x = c ∨ x = d) : xle (Xe.minL [a, b, c, d]) x := by
  show xle (Xe.min (Xe.min (Xe.min a b) c) d) x
  have f1 := fun x y => Xe.min_le1 x y
  have f2 := fun x y => Xe.min_le2 x y
  rcases h with rfl | rfl | rfl | rfl
  · exact (show xle _ _ from f1 _ _).trans ((show xle _ _ from f1 _ _).trans (f1 _ _))
  · exact (show xle _ _ from f1 _ _).trans ((show xle _ _ from f1 _ _).trans (f2 _ _))
  · exact (show xle _ _ from f1 _ _).trans (f2 _ _)
  · exact f2 _ _
theorem le_max4 {a b c d x : Xe} (h : x = a ∨ x = b ∨ x = c ∨ x = d) : xle x (Xe.maxL [a, b, c, d]) := by
  show xle x (Xe.max (Xe.max (Xe.max a b) c) d)
  have f1 := fun x y => Xe.max_le1 x y
  have f2 := fun x y => Xe.max_le2 x y
  rcases h with rfl | rfl | rfl | rfl
  · exact (show xle _ _ from f1 _ _).trans ((show xle _ _ from f1 _ _).trans (f1 _ _))
  · exact (show xle _ _ from f2 _ _).trans ((show xle _ _ from f1 _ _).trans (f1 _ _))
  · exact (show xle _ _ from f2 _ _).trans (f1 _ _)
  · exact f2 _ _
theorem prod_in {a c : Xe × Xe} {x y : Xe} (h1 : xle a.1 x) (h2 : xle x a.2) (h3 : xle c.1 y) (h4 : xle y c.2) : xle (prodX a c).1 (Xe.mul x y) ∧ xle (Xe.mul x y) (prodX a c).2 := by
  have side : ∀ u : Xe, (xle (Xe.mul u c.1) (Xe.mul u y) ∧ xle (Xe.mul u y) (Xe.mul u c.2)) ∨ (xle (Xe.mul u c.2) (Xe.mul u y) ∧ xle (Xe.mul u y) (Xe.mul u c.1)) := fun u => by
    rw [mul_commX u y, mul_commX u c.1, mul_commX u c.2]
    rcases Int.le_total 0 u.n with z | z
    · exact .inl ⟨mul_mono h3 z, mul_mono h4 z⟩
    · exact .inr ⟨mul_anti h4 z, mul_anti h3 z⟩
  have lo : ∀ u, u = a.1 ∨ u = a.2 → xle (prodX a c).1 (Xe.mul u y) ∧ xle (Xe.mul u y) (prodX a c).2 := fun u hu => by
    have m : ∀ v, v = Xe.mul u c.1 ∨ v = Xe.mul u c.2 → xle (prodX a c).1 v ∧ xle v (prodX a c).2 := fun v hv => by
      have hv' : v = Xe.mul a.1 c.1 ∨ v = Xe.mul a.1 c.2 ∨ v = Xe.mul a.2 c.1 ∨ v = Xe.mul a.2 c.2 := by
        rcases hu with rfl | rfl <;> rcases hv with rfl | rfl <;> simp
      exact ⟨min4_le hv', le_max4 hv'⟩
    rcases side u with ⟨s1, s2⟩ | ⟨s1, s2⟩
    · exact ⟨(m _ (.inl rfl)).1.trans s1, s2.trans (m _ (.inr rfl)).2⟩
    · exact ⟨(m _ (.inr rfl)).1.trans s1, s2.trans (m _ (.inl rfl)).2⟩
  rcases Int.le_total 0 y.n with z | z
  · exact ⟨(lo _ (.inl rfl)).1.trans (mul_mono h1 z), (mul_mono h2 z).trans (lo _ (.inr rfl)).2⟩
  · exact ⟨(lo _ (.inr rfl)).1.trans (mul_anti h2 z), (mul_anti h1 z).trans (lo _ (.inl rfl)).2⟩
theorem le_min4 {a b c d x : Xe} (h1 : xle x a) (h2 : xle x b) (h3 : xle x c) (h4 : xle x d) : xle x (Xe.minL [a, b, c, d]) := by
  have := Xe.minL_mem (L := [a, b, c, d]) (fun z => by cases z)
  simp only [List.mem_cons, List.not_mem_nil, or_false] at this
  rcases this with e | e | e | e <;> rw [e] <;> assumption
theorem max4_le {a b c d x : Xe} (h1 : xle a x) (h2 : xle b x) (h3 : xle c x) (h4 : xle d x) : xle (Xe.maxL [a, b, c, d]) x := by
  have := Xe.maxL_mem (L := [a, b, c, d]) (fun z => by cases z)
  simp only [List.mem_cons, List.not_mem_nil, or_false] at this
  rcases this with e | e | e | e <;> rw [e] <;> assumption
theorem prodX_mono {a c a' c' : Xe × Xe} (ha' : xle a'.1 a'.2) (hc' : xle c'.1 c'.2) (h : xin a' a) (h' : xin c' c) : xin (prodX a' c') (prodX a c) := by
  have p := fun {x y : Xe} (h1 : xle a'.1 x) (h2 : xle x a'.2) (h3 : xle c'.1 y) (h4 : xle y c'.2) => prod_in (a := a) (c := c) (h.1.trans h1) (h2.trans h.2) (h'.1.trans h3) (h4.trans h'.2)
  have r := fun x => xle.refl x
  exact ⟨le_min4 (p (r _) ha' (r _) hc').1 (p (r _) ha' hc' (r _)).1 (p ha' (r _) (r _) hc').1 (p ha' (r _) hc' (r _)).1, max4_le (p (r _) ha' (r _) hc').2 (p (r _) ha' hc' (r _)).2 (p ha' (r _) (r _) hc').2 (p ha' (r _) hc' (r _)).2⟩
theorem min_mono {x y x' y' : Xe} (h : xle x x') (h' : xle y y') : xle (Xe.min x y) (Xe.min x' y') := by
  rcases Xe.min_mem x' y' with e | e <;> rw [e]
  · exact (show xle _ _ from Xe.min_le1 _ _).trans h
  · exact (show xle _ _ from Xe.min_le2 _ _).trans h'
theorem max_mono {x y x' y' : Xe} (h : xle x x') (h' : xle y y') : xle (Xe.max x y) (Xe.max x' y') := by
  rcases Xe.max_mem x y with e | e <;> rw [e]
  · exact h.trans (Xe.max_le1 _ _)
  · exact h'.trans (Xe.max_le2 _ _)
theorem neg_n {x : Xe} : (x.neg).n = -x.n := (n_neg_n x).1
theorem sizX_mono {a a' : Xe × Xe} (ha : xle a.1 a.2) (ha' : xle a'.1 a'.2) (h : xin a' a) : xin (sizX a') (sizX a) := by
  obtain ⟨h1, h2⟩ := h
  have n1 := n_mono h1
  have n2 := n_mono h2
  have n3 := n_mono ha'
  have n4 := n_mono ha
  unfold sizX
  by_cases c : a.1.n < 0 ∧ 0 < a.2.n
  · rw [if_pos c]
    by_cases c' : a'.1.n < 0 ∧ 0 < a'.2.n
    · rw [if_pos c']; exact ⟨.refl _, max_mono h1.neg h2⟩
    · rw [if_neg c']
      by_cases d' : 0 ≤ a'.1.n
      · rw [if_pos d']; exact ⟨xle_zn.mpr d', h2.trans (Xe.max_le2 _ _)⟩
      · rw [if_neg d']; exact ⟨xle_zn.mpr (by show 0 ≤ (a'.2.neg).n; rw [neg_n]; omega), h1.neg.trans (Xe.max_le1 _ _)⟩
  · rw [if_neg c]
    by_cases d : 0 ≤ a.1.n
    · have d' : 0 ≤ a'.1.n := n1.2.1 d
      rw [if_pos d, if_neg (by omega), if_pos d']; exact ⟨h1, h2⟩
    · have z : a.2.n ≤ 0 := by omega
      have z' : a'.2.n ≤ 0 := n2.2.2.2 z
      rw [if_neg d, if_neg (by omega)]
      by_cases d' : 0 ≤ a'.1.n
      · rw [if_pos d']
        -- both ends are 0
        have e1 : a'.1.n = 0 := by have := n3.2.2.2 z'; omega
        have e2 : a'.2.n = 0 := by have := n3.2.1 d'; omega
        have k1 : a'.1 = zrX := (xle.anti (xle_zp.mpr (by omega)) (xle_zn.mpr (by omega)))
        have k2 : a'.2 = zrX := (xle.anti (xle_zp.mpr (by omega)) (xle_zn.mpr (by omega)))
        refine ⟨?_, ?_⟩
        · show xle a.2.neg a'.1
          rw [k1, ← k2]
          have := h2.neg
          rw [k2] at this ⊢
          exact this
        · show xle a'.2 a.1.neg
          rw [k2]; exact xle_zn.mpr (by rw [neg_n]; omega)
      · rw [if_neg d']; exact ⟨h2.neg, h1.neg⟩
theorem op_mono {w : Str} {L L' : List (Xe × Xe)} {r r' : Xe × Xe} (h : OpX w L r) (h' : OpX w L' r') (hL : ∀ a ∈ L, Xe2 a) (hL' : ∀ a ∈ L', Xe2 a) (hin : ∀ (i : Nat) (a a' : Xe × Xe), L[i]? = some a → L'[i]? = some a' → xin a' a) : xin r' r := by
  cases h with
  | add a c =>
    cases h' with
    | add a' c' =>
    have ha := hL a (by simp); have hc := hL c (by simp); have ha' := hL' a' (by simp); have hc' := hL' c' (by simp)
    have i1 := hin 0 a a' rfl rfl; have i2 := hin 1 c c' rfl rfl
    exact ⟨add_dn ha'.l1 hc'.l1 ha.l1 hc.l1 i1.1 i2.1, add_up ha.l2 hc.l2 ha'.l2 hc'.l2 i1.2 i2.2⟩
  | take a c =>
    cases h' with
    | take a' c' =>
    have ha := hL a (by simp); have hc := opps_two (hL c (by simp)); have ha' := hL' a' (by simp); have hc' := opps_two (hL' c' (by simp))
    have i1 := hin 0 a a' rfl rfl; have i2 := hin 1 c c' rfl rfl
    exact ⟨add_dn ha'.l1 hc'.l1 ha.l1 hc.l1 i1.1 i2.2.neg, add_up ha.l2 hc.l2 ha'.l2 hc'.l2 i1.2 i2.1.neg⟩
  | times a c =>
    cases h' with
    | times a' c' => exact prodX_mono (hL' a' (by simp)).le (hL' c' (by simp)).le (hin 0 a a' rfl rfl) (hin 1 c c' rfl rfl)
  | fused a c e =>
    cases h' with
    | fused a' c' e' =>
    have ha := hL a (by simp); have hc := hL c (by simp); have ha' := hL' a' (by simp); have hc' := hL' c' (by simp)
    have he := hL e (by simp); have he' := hL' e' (by simp)
    have p := prods_two ha hc; have p' := prods_two ha' hc'
    have i := prodX_mono ha'.le hc'.le (hin 0 a a' rfl rfl) (hin 1 c c' rfl rfl)
    have i2 := hin 2 e e' rfl rfl
    exact ⟨add_dn p'.l1 he'.l1 p.l1 he.l1 i.1 i2.1, add_up p.l2 he.l2 p'.l2 he'.l2 i.2 i2.2⟩
  | opposite a =>
    cases h' with
    | opposite a' => have i := hin 0 a a' rfl rfl; exact ⟨i.2.neg, i.1.neg⟩
  | size a =>
    cases h' with
    | size a' => exact sizX_mono (hL a (by simp)).le (hL' a' (by simp)).le (hin 0 a a' rfl rfl)
  | least a c =>
    cases h' with
    | least a' c' =>
    have i1 := hin 0 a a' rfl rfl; have i2 := hin 1 c c' rfl rfl
    exact ⟨min_mono i1.1 i2.1, min_mono i1.2 i2.2⟩
  | greatest a c =>
    cases h' with
    | greatest a' c' =>
    have i1 := hin 0 a a' rfl rfl; have i2 := hin 1 c c' rfl rfl
    exact ⟨max_mono i1.1 i2.1, max_mono i1.2 i2.2⟩
end Lw
set_option exponentiation.threshold 20000
namespace Lw
open PySem PySem.Spec PyProof.Rows L2 Gd Fr
open scoped Rat
noncomputable def gv (b p : Nat) (low : Int) (q : Rat) : Rat := (gC b p low q : Rat) * pw b (gE b p low q)
section
variable {b p : Nat} {low high : Int} (F : Fm b p low high)
include F
end
def spin (s t : Sp) : Prop := liesB s t = true
theorem spin_span {u v x y : Va} : spin (.span u v) (.span x y) ↔ ¬ lex3 (plT u) (plT x) ∧ ¬ lex3 (plT y) (plT v) := by
  show ((!decide (lex3 (plT u) (plT x))) && !decide (lex3 (plT y) (plT v))) = true ↔ _
  rw [Bool.and_eq_true, Bool.not_eq_true', Bool.not_eq_true', decide_eq_false_iff_not, decide_eq_false_iff_not]
theorem spin.refl (s : Sp) : spin s s := by
  cases s with
  | none => rfl
  | span u v => exact spin_span.mpr ⟨lex_irr _, lex_irr _⟩
theorem spin.trans {s t u : Sp} (h : spin s t) (h2 : spin t u) : spin s u := by
  cases s with
  | none => rfl
  | span a b => cases t with
    | none => cases h
    | span c d => cases u with
      | none => cases h2
      | span e f =>
        have h := spin_span.mp h; have h2 := spin_span.mp h2
        exact spin_span.mpr ⟨lex3_trans h2.1 h.1, lex3_trans h.2 h2.2⟩
section
variable {b p : Nat} {low high : Int} (F : Fm b p low high)
include F
theorem lsp_mono {a' a : Xe × Xe} (h1 : a'.1 ≠ .hi) (h2 : a'.2 ≠ .lo) (h : xin a' a) : spin (lspX b p low high a') (lspX b p low high a) := spin_span.mpr ⟨lo_mono F h1 h.1, up_mono F h2 h.2⟩
end
end Lw
set_option exponentiation.threshold 20000
namespace Lw
open PySem PySem.Spec PyProof.Rows L2 Gd Fr
open scoped Rat
section
variable {b p : Nat} {low high : Int} (F : Fm b p low high)
include F
omit F in
def sbin (x' x : SB) : Prop := spin x'.1 x.1 ∧ (x.2 = true → x'.2 = true)
omit F in
theorem sbin.refl (x : SB) : sbin x x := ⟨spin.refl _, fun h => h⟩
omit F in
def bxin (box' box : List Sp) : Prop := box'.length = box.length ∧ ∀ (i : Nat) s s', box[i]? = some s → box'[i]? = some s' → spin s' s
end
end Lw
namespace Gd
open PySem PySem.Spec PyProof.Rows L2
section
variable {X : Cx} {Γ : List VD} {B B1 B2 B' : Bag} {e a b c elt : Expr} {scope : Scope} {j : Nat} {x : Str} {px pos : Pos} {Φ : Post}
theorem ex_lcT (nd : X.N.Nodup) (hc : X.calm = true) (ok : BlkOk X.N X.env.scope scope [(x, j)])
    (hg : ∀ (s : Shared) (H : Hp) (C : Addr) (cl : List (Str × Addr)) (fp : List Addr), PG (X.blk s H scope (compEnvC scope cl C X.env) fp) (.Name x px) (gName j))
    (r : RX X Γ B (tLc (iTup X.K (WE X e)) (gName j) tYes (WB X scope elt) [j]) Φ) (hq : ∀ x, foldedSetIterable e X.env x = pure x := by intro _; rfl) :
    EX X Γ B (.ListComp elt [⟨.Name x px, e, [], 0⟩] scope pos) Φ := ex_of (pe_lc (own := [(x, j)]) hc nd (pi_tup (we e)) ok hg (fun _ _ _ _ _ => pts_nil) (wb scope elt) hq) r
end
end Gd
set_option exponentiation.threshold 20000
namespace Lw
open PySem PySem.Spec PyProof.Rows L2 Gd Fr
open scoped Rat
section
variable {b p : Nat} {low high : Int} (F : Fm b p low high)
include F
theorem lex_rk {u v : Va} (hu : Vcan b p low high u) (hv : Vcan b p low high v) (nu : u.isNan = false) (nv : v.isNan = false) (pu : plc u) (pv : plc v) : lex3 (plT u) (plT v) ↔ rkI b p low high u < rkI b p low high v := by
  have h1 := wb_iff F hu hv nu nv pu pv
  have h2 := ord_rk F hu hv nu nv
  have k : cmpI (rkI b p low high u) (rkI b p low high v) = -1 ↔ rkI b p low high u < rkI b p low high v := by
    unfold cmpI
    split <;> split <;> omega
  rw [← k, ← h2]
  have h3 : lex3 (plT u) (plT v) ↔ wbV b u v = true := by rw [h1, decide_eq_true_eq]
  rw [h3]
  have ci : ∀ x y : Int, cmpI x y = -1 ↔ x < y := fun x y => by unfold cmpI; split <;> split <;> omega
  cases u with
  | nan => cases nu
  | inf s =>
    cases v with
    | nan => cases nv
    | inf t =>
      have e : ordI b b (.inf s) (.inf t) = cmpI (1 - 2 * s) (1 - 2 * t) := if_pos (.inl (by show (1 - 2 * s : Int) ≠ 0; omega))
      rw [e, ci]
      show (decide (s = 1) && decide (t = 0)) = true ↔ _
      rw [Bool.and_eq_true, decide_eq_true_eq, decide_eq_true_eq]
      have hs : s = 0 ∨ s = 1 := hu
      have ht : t = 0 ∨ t = 1 := hv
      omega
    | num t c e' =>
      have e : ordI b b (.inf s) (.num t c e') = cmpI (1 - 2 * s) 0 := if_pos (.inl (by show (1 - 2 * s : Int) ≠ 0; omega))
      rw [e, ci]
      show decide (s = 1) = true ↔ _
      rw [decide_eq_true_eq]
      have hs : s = 0 ∨ s = 1 := hu
      omega
  | num s c e' =>
    cases v with
    | nan => cases nv
    | inf t =>
      have e : ordI b b (.num s c e') (.inf t) = cmpI 0 (1 - 2 * t) := if_pos (.inr (by show (1 - 2 * t : Int) ≠ 0; omega))
      rw [e, ci]
      show decide (t = 0) = true ↔ _
      rw [decide_eq_true_eq]
      have ht : t = 0 ∨ t = 1 := hv
      omega
    | num t c' e'' =>
      have e : ordI b b (.num s c e') (.num t c' e'') = cmp ((Va.num s c e').wQ b) ((Va.num t c' e'').wQ b) := if_neg (fun z => z.elim (fun z => z rfl) (fun z => z rfl))
      rw [e]
      show decide ((Va.num s c e').wQ b < (Va.num t c' e'').wQ b) = true ↔ _
      rw [decide_eq_true_eq]
      unfold cmp
      by_cases q : (Va.num s c e').wQ b < (Va.num t c' e'').wQ b
      · rw [if_pos q]; exact ⟨fun _ => rfl, fun _ => q⟩
      · rw [if_neg q]
        refine ⟨fun z => absurd z q, fun z => ?_⟩
        split at z <;> exact absurd z (by decide)
end
theorem bxin.refl (L : List Sp) : bxin L L := ⟨rfl, fun i s s' h h' => by rw [h] at h'; obtain rfl := Option.some.inj h'; exact spin.refl _⟩
theorem bxin.trans {L L' L'' : List Sp} (h : bxin L L') (h' : bxin L' L'') : bxin L L'' := ⟨by rw [h.1, h'.1], fun i s s' e e' => by
  have hl : i < L'.length := by rw [h'.1]; exact (List.getElem?_eq_some_iff.mp e).1
  have e2 : L'[i]? = some L'[i] := List.getElem?_eq_getElem hl
  exact (h.2 i _ _ e2 e').trans (h'.2 i _ _ e e2)⟩
end Lw
namespace Lw
open PySem PySem.Spec PyProof.Rows L2 Gd Fr
end Lw
set_option exponentiation.threshold 20000
namespace Lw
open PySem PySem.Spec PyProof.Rows L2 Gd Fr
open scoped Rat
structure Sml (b p : Nat) (low high : Int) : Prop where
  bp : b ^ p < 2 ^ 8
  bh : b ^ high.toNat < 2 ^ 11
  bl : b ^ (-low).toNat < 2 ^ 20
  nn : 0 ≤ (p : Int) + high + (-low).toNat
  bt : b ^ ((p : Int) + high + (-low).toNat).toNat < 2 ^ 17
theorem sml_of {t : F4} (h : t ∈ smallF) : Sml t.1 t.2.1 t.2.2.1 t.2.2.2 := by
  have key : smallF.all (fun t => decide (t.1 ^ t.2.1 < 2 ^ 8) && (decide (t.1 ^ t.2.2.2.toNat < 2 ^ 11) && (decide (t.1 ^ (-t.2.2.1).toNat < 2 ^ 20) && (decide (0 ≤ (t.2.1 : Int) + t.2.2.2 + (-t.2.2.1).toNat) && decide (t.1 ^ ((t.2.1 : Int) + t.2.2.2 + (-t.2.2.1).toNat).toNat < 2 ^ 17))))) = true := by decide +kernel
  have := List.all_eq_true.mp key t h
  simp only [Bool.and_eq_true, decide_eq_true_eq] at this
  exact ⟨this.1, this.2.1, this.2.2.1, this.2.2.2.1, this.2.2.2.2⟩
section
variable {b p : Nat} {low high : Int} (F : Fm b p low high) (S : Sml b p low high)
include F S
theorem sm_qz {v : Va} (h : Vok b p low high v) : Qz 20 21 (v.wQ b) := by
  have z : Qz 20 21 0 := ⟨by unfold Bd; exact Nat.pow_pos (by decide), (show Bd 1 (((0 : Rat).den : Nat) : Int) by unfold Bd; decide).le (by decide)⟩
  cases v with
  | nan => exact z
  | inf s => exact z
  | num s c e =>
    obtain ⟨h1, h3, h4, h5, h6⟩ := h
    have hc : Qz 8 1 (((if s = 1 then -c else c : Int)) : Rat) := by
      refine ⟨?_, by rw [Rat.den_intCast]; unfold Bd; decide⟩
      rw [Rat.num_intCast]
      have := S.bp
      unfold Bd
      split <;> omega
    have b1 : b ^ e.toNat < 2 ^ 11 := Nat.lt_of_le_of_lt (Nat.pow_le_pow_right (by have := F.b2; omega) (by omega)) S.bh
    have b3 : b ^ (-e).toNat < 2 ^ 20 := Nat.lt_of_le_of_lt (Nat.pow_le_pow_right (by have := F.b2; omega) (by omega)) S.bl
    exact (hc.mul (pw_bd F.b2 b1 b3 (by decide) (by decide))).le (by decide) (by decide)
theorem sm_cm {v : Va} (h : Vok b p low high v) : Cm (b ^ (-low).toNat) 17 (v.wQ b) := by
  obtain ⟨m, e⟩ := w_int F h
  refine ⟨m, by rw [Rat.intCast_natCast]; exact e, ?_⟩
  have b2 := F.b2
  have zero : ∀ m : Int, (0 : Rat) = (m : Rat) → Bd 17 m := fun m z => by
    have : m = 0 := by have := Rat.intCast_inj.mp (show ((0 : Int) : Rat) = (m : Rat) from z); omega
    rw [this]; unfold Bd; decide
  have L0 : ∀ x : Rat, (0 : Rat) * x = 0 := fun x => Rat.zero_mul x
  cases v with
  | nan => exact zero m (by rw [← e]; exact (L0 _).symm)
  | inf s => exact zero m (by rw [← e]; exact (L0 _).symm)
  | num s c e1 =>
    obtain ⟨h1, h3, h4, h5, h6⟩ := h
    -- the size
    have hc : ((if s = 1 then -c else c : Int)).natAbs = c.natAbs := by split <;> omega
    have hw : (Va.num s c e1).wQ b = ((if s = 1 then -c else c : Int) : Rat) * pw b e1 := rfl
    obtain ⟨n, hn⟩ : ∃ n : Nat, (n : Int) = e1 + (-low).toNat := ⟨(e1 + (-low).toNat).toNat, by omega⟩
    have e2 : pw b e1 * (((b ^ (-low).toNat : Nat) : Int) : Rat) = ((b ^ n : Nat) : Int) := by
      rw [Rat.intCast_natCast, Rat.intCast_natCast, ← pw_nat, ← pw_nat, ← pw_add b2, hn]
    rw [hw, Rat.mul_assoc, ← Rat.intCast_natCast, e2, ← Rat.intCast_mul] at e
    have e3 := Rat.intCast_inj.mp e
    rw [← e3]
    unfold Bd
    rw [Int.natAbs_mul, Int.natAbs_natCast, hc]
    have k1 : c.natAbs < b ^ p := by omega
    have k2 : b ^ n ≤ b ^ (high + (-low).toNat).toNat := Nat.pow_le_pow_right (by omega) (by omega)
    have k3 : b ^ p * b ^ (high + (-low).toNat).toNat = b ^ ((p : Int) + high + (-low).toNat).toNat := by
      rw [← Nat.pow_add]; congr 1
      have := S.nn
      omega
    have k4 := S.bt
    have k5 : c.natAbs * b ^ n ≤ b ^ p * b ^ (high + (-low).toNat).toNat := Nat.mul_le_mul (Nat.le_of_lt k1) k2
    omega
theorem sm_far : ∀ f ∈ farL, Qz 2 3 f ∧ Cm (7 * b ^ (-low).toNat) 22 (grQ b p high * f) ∧ 0 < f := by
  intro f hf
  have hp : (0 : Int) < ((b ^ p : Nat) : Int) := Int.natCast_pos.mpr (Nat.pow_pos (by have := F.b2; omega))
  have gv : Vok b p low high (.num 0 (((b ^ p : Nat) : Int) - 1) high) := ⟨.inl rfl, by omega, by omega, F.lh, Int.le_refl _⟩
  obtain ⟨m, e, hb⟩ := sm_cm F S gv
  have eg : (Va.num 0 (((b ^ p : Nat) : Int) - 1) high).wQ b = grQ b p high := by
    show ((if (0 : Int) = 1 then -_ else ((b ^ p : Nat) : Int) - 1 : Int) : Rat) * pw b high = _
    rw [if_neg (by decide)]; rfl
  rw [eg] at e
  have e7 : ∀ (k : Int) (g : Rat), g * 7 = (k : Rat) → grQ b p high * g * (((7 * b ^ (-low).toNat : Nat) : Int) : Rat) = ((k * m : Int) : Rat) := by
    intro k g hg
    rw [Int.natCast_mul, Rat.intCast_mul, Rat.intCast_mul, ← e, ← hg]
    have : (((7 : Nat) : Int) : Rat) = 7 := rfl
    rw [this]; grind
  have bm : ∀ k : Int, Bd 5 k → Bd 22 (k * m) := fun k hk => (hk.mul hb).le (by decide)
  unfold farL at hf
  simp only [List.mem_cons, List.not_mem_nil, or_false] at hf
  rcases hf with rfl | rfl | rfl
  · exact ⟨⟨by unfold Bd; decide +kernel, by unfold Bd; decide +kernel⟩, ⟨7 * m, e7 7 1 (by decide +kernel), bm 7 (by unfold Bd; decide)⟩, by decide +kernel⟩
  · exact ⟨⟨by unfold Bd; decide +kernel, by unfold Bd; decide +kernel⟩, ⟨21 * m, e7 21 3 (by decide +kernel), bm 21 (by unfold Bd; decide)⟩, by decide +kernel⟩
  · exact ⟨⟨by unfold Bd; decide +kernel, by unfold Bd; decide +kernel⟩, ⟨1 * m, e7 1 (1 / 7) (by decide +kernel), bm 1 (by unfold Bd; decide)⟩, by decide +kernel⟩
end
theorem wit_01 : ∀ f ∈ witL, 0 ≤ f ∧ f ≤ 1 := by
  intro f hf
  unfold witL at hf
  simp only [List.mem_cons, List.not_mem_nil, or_false] at hf
  rcases hf with rfl | rfl | rfl | rfl | rfl | rfl <;> exact ⟨by decide +kernel, by decide +kernel⟩
def Pre_wit2 (Γ : List VD) (B : Bag) : Prop := ∃ (t : F4) (u v : Va), Γ = [.bag, .da t.d, .da (Sp.span u v).d] ∧ t.ok ∧ Sml t.1 t.2.1 t.2.2.1 t.2.2.2 ∧ (Sp.span u v).ok2 t.1 t.2.1 t.2.2.1 t.2.2.2 ∧ Bok B
def Post_wit2 (Γ : List VD) (_ : Bag) (r : PyData) (B' : Bag) : Prop := Bok B' ∧ ∃ (t : F4) (u v : Va), Γ = [.bag, .da t.d, .da (Sp.span u v).d] ∧ ∃ x : Rat, r = fq x ∧ Qz 40 36 x ∧ holdB t.1 (.span u v) x = true
def pt2 (x : Rat) : Xe × Xe := (.q x, .q x)
theorem pt2_two (x : Rat) : Xe2 (pt2 x) := ⟨fun z => (by cases z), fun z => (by cases z), Xe.irr _⟩
def opQ (w : Str) (L : List Rat) : Rat :=
  if w = "add" then L.getD 0 0 + L.getD 1 0 else if w = "take" then L.getD 0 0 - L.getD 1 0 else if w = "times" then L.getD 0 0 * L.getD 1 0
  else if w = "fused" then L.getD 0 0 * L.getD 1 0 + L.getD 2 0 else if w = "opposite" then -L.getD 0 0 else if w = "size" then absQ (L.getD 0 0)
  else if w = "least" then (if L.getD 0 0 < L.getD 1 0 then L.getD 0 0 else L.getD 1 0) else if w = "greatest" then (if L.getD 0 0 < L.getD 1 0 then L.getD 1 0 else L.getD 0 0)
  else L.getD 0 0 / L.getD 1 0
theorem minL4_self (x : Xe) : Xe.minL [x, x, x, x] = x := by simp [Xe.minL, Xe.min_self]
theorem maxL4_self (x : Xe) : Xe.maxL [x, x, x, x] = x := by simp [Xe.maxL, Xe.max_self]
theorem prod_pt (x y : Rat) : prodX (pt2 x) (pt2 y) = pt2 (x * y) := by
  show (Xe.minL [Xe.mul (.q x) (.q y), Xe.mul (.q x) (.q y), Xe.mul (.q x) (.q y), Xe.mul (.q x) (.q y)], Xe.maxL [Xe.mul (.q x) (.q y), Xe.mul (.q x) (.q y), Xe.mul (.q x) (.q y), Xe.mul (.q x) (.q y)]) = _
  rw [minL4_self, maxL4_self, xmul_qq]; rfl
theorem siz_pt (x : Rat) : sizX (pt2 x) = pt2 (absQ x) := by
  unfold sizX
  show (if Xe.n (.q x) < 0 ∧ 0 < Xe.n (.q x) then (zrX, Xe.max (Xe.q x).neg (.q x)) else if 0 ≤ Xe.n (.q x) then pt2 x else oppsX (pt2 x)) = _
  rw [if_neg (by omega)]
  unfold absQ
  by_cases h : x < 0
  · rw [if_neg (by have := n_q (r := x); have := this.2.2.mpr h; omega), if_pos h]; rfl
  · have hh : 0 ≤ Xe.n (.q x) := Rat.num_nonneg.mpr (Rat.not_lt.mp h)
    rw [if_pos hh, if_neg h]
theorem op_pt {w : Str} {L : List (Xe × Xe)} {K : List Rat} (hK : L = K.map pt2) {r : Xe × Xe} (h : OpX w L r) : r = pt2 (opQ w K) := by
  have u1 : ∀ {a : Xe × Xe}, [a] = K.map pt2 → ∃ x, K = [x] ∧ a = pt2 x := fun {a} e => by
    match K, e with
    | [x], e => injection e with e1 _; exact ⟨x, rfl, e1⟩
  have u2 : ∀ {a c : Xe × Xe}, [a, c] = K.map pt2 → ∃ x y, K = [x, y] ∧ a = pt2 x ∧ c = pt2 y := fun {a c} e => by
    match K, e with
    | [x, y], e => injection e with e1 e; injection e with e2 _; exact ⟨x, y, rfl, e1, e2⟩
  have u3 : ∀ {a c d : Xe × Xe}, [a, c, d] = K.map pt2 → ∃ x y z, K = [x, y, z] ∧ a = pt2 x ∧ c = pt2 y ∧ d = pt2 z := fun {a c d} e => by
    match K, e with
    | [x, y, z], e => injection e with e1 e; injection e with e2 e; injection e with e3 _; exact ⟨x, y, z, rfl, e1, e2, e3⟩
  cases h with
  | add a c => obtain ⟨x, y, rfl, rfl, rfl⟩ := u2 hK; rfl
  | take a c =>
    obtain ⟨x, y, rfl, rfl, rfl⟩ := u2 hK
    show pt2 (x + -y) = pt2 (x - y)
    rw [Rat.sub_eq_add_neg]
  | times a c => obtain ⟨x, y, rfl, rfl, rfl⟩ := u2 hK; exact prod_pt x y
  | fused a c d =>
    obtain ⟨x, y, z, rfl, rfl, rfl, rfl⟩ := u3 hK
    rw [prod_pt]; rfl
  | opposite a => obtain ⟨x, rfl, rfl⟩ := u1 hK; rfl
  | size a => obtain ⟨x, rfl, rfl⟩ := u1 hK; exact siz_pt x
  | least a c =>
    obtain ⟨x, y, rfl, rfl, rfl⟩ := u2 hK
    have e : Xe.min (.q x) (.q y) = .q (if x < y then x else y) := by
      unfold Xe.min
      show (if decide (y < x) = true then Xe.q y else .q x) = _
      by_cases c : x < y
      · rw [if_pos c, if_neg (by rw [decide_eq_true_eq]; grind)]
      · rw [if_neg c]
        by_cases c2 : y < x
        · rw [if_pos (decide_eq_true c2)]
        · rw [if_neg (by rw [decide_eq_true_eq]; exact c2)]; congr 1; grind
    show (Xe.min (.q x) (.q y), Xe.min (.q x) (.q y)) = pt2 (if x < y then x else y)
    rw [e]; rfl
  | greatest a c =>
    obtain ⟨x, y, rfl, rfl, rfl⟩ := u2 hK
    have e : Xe.max (.q x) (.q y) = .q (if x < y then y else x) := by
      unfold Xe.max
      show (if decide (x < y) = true then Xe.q y else .q x) = _
      by_cases c : x < y
      · rw [if_pos c, if_pos (decide_eq_true c)]
      · rw [if_neg c, if_neg (by rw [decide_eq_true_eq]; exact c)]
    show (Xe.max (.q x) (.q y), Xe.max (.q x) (.q y)) = pt2 (if x < y then y else x)
    rw [e]; rfl
section
variable {b p : Nat} {low high : Int} (F : Fm b p low high)
include F
omit F in
theorem hold_in {u v : Va} (nu : u.isNan = false) (nv : v.isNan = false) (iu : u ≠ .inf 0) (iv : v ≠ .inf 1) (hu : Vcan b p low high u) (hv : Vcan b p low high v) (x : Rat) : holdB b (.span u v) x = true ↔ xin (pt2 x) (enX b (.span u v)) := by
  show (!(u.isNum && decide (x < u.wQ b)) && (v.isInf || !decide (v.wQ b < x))) = true ↔ (Xe.lt (.q x) (Xe.of b u)) = false ∧ (Xe.of b v).lt (.q x) = false
  rw [Bool.and_eq_true]
  refine and_congr ?_ ?_
  · cases u with
    | nan => cases nu
    | inf s =>
      rcases hu with rfl | rfl
      · exact absurd rfl iu
      · exact ⟨fun _ => rfl, fun _ => rfl⟩
    | num s c e =>
      show (!(true && decide (x < (Va.num s c e).wQ b))) = true ↔ decide (x < (Va.num s c e).wQ b) = false
      rw [Bool.true_and, Bool.not_eq_true']
  · cases v with
    | nan => cases nv
    | inf s =>
      rcases hv with rfl | rfl
      · exact ⟨fun _ => rfl, fun _ => rfl⟩
      · exact absurd rfl iv
    | num s c e =>
      show (false || !decide ((Va.num s c e).wQ b < x)) = true ↔ decide ((Va.num s c e).wQ b < x) = false
      rw [Bool.false_or, Bool.not_eq_true']
theorem hold_in2 {u v : Va} (h : (Sp.span u v).ok2 b p low high) (x : Rat) : holdB b (.span u v) x = true ↔ xin (pt2 x) (enX b (.span u v)) := by
  obtain ⟨⟨⟨hu, nu⟩, hv, nv⟩, _, _, iu, iv, _⟩ := h
  exact hold_in nu nv iu iv hu hv x
theorem pt_spin {s : Sp} (hs : s.ok2 b p low high) (x : Rat) : spin (lspX b p low high (pt2 x)) s ↔ holdB b s x = true := by
  have := hold_iff F hs x
  show liesB (.span (loV b p low high x) (upV b p low high x)) s = true ↔ _
  rw [this]
end
def ifQ (x y t f : Option Rat) : Option Rat := match x, y with
  | some a, some c => if a < c then t else f
  | _, _ => none
def tsR (found : List (Option Rat)) (ins : List Rat) : Stp → Option Rat
  | .input i => some (ins.getD i 0)
  | .told q => some q
  | .op w is =>
    if w = "if" then ifQ (found.getD (is.getD 0 0) none) (found.getD (is.getD 1 0) none) (found.getD (is.getD 2 0) none) (found.getD (is.getD 3 0) none)
    else if (is.map fun i => found.getD i none).all (·.isSome) = true then
      (if w = "by" ∧ ((found.getD (is.getD 1 0) none).getD 0) = 0 then none else some (opQ w (is.map fun i => (found.getD i none).getD 0)))
    else none
def optQ : Option Rat → PyData
  | none => .none
  | some q => fq q
section
variable {b p : Nat} {low high : Int} (F : Fm b p low high)
include F
end
end Lw
set_option exponentiation.threshold 20000
namespace Lw
open PySem PySem.Spec PyProof.Rows L2 Gd Fr
open scoped Rat
def fdD (tup : Bool) (ds : List PyData) : PyData := if tup = true then .tuple ds else .list ds
inductive R_tst (tup : Bool) : Rel
  | mk (s : Stp) (many : Nat) (found : List (Option Rat)) (ins : List Rat) (N : Nat) (B : Bag) (hs : s.ok many found.length) (hr : s.word ≠ "root") (hil : ins.length = many) (hf : ∀ q, some q ∈ found → Qz N N q) (hN : 3 * N ≤ 8900) (hl : found.length ≤ 100) :
      R_tst tup [.da s.d, .da (fdD tup (found.map optQ)), .da (.tuple (ins.map fq))] B (optQ (tsR found ins s)) B
theorem opt_eqv (o : Option Rat) : PyData.eqv (optQ o) .none = !o.isSome := by
  cases o with
  | none => simp [optQ, PyData.eqv]
  | some q => show PyData.eqv (.tuple _) .none = false; simp [PyData.eqv]
theorem sh_fq1 (q : Rat) : Sh 1 (fq q) := Sh.tup (n := 0) fun e he => by
  rcases List.mem_cons.mp he with rfl | he
  · exact Sh.int _
  · rw [List.mem_singleton.mp he]; exact Sh.int _
theorem sh_non1 : Sh 1 PyData.none := ⟨by simp only [PyData.canLay0], by decide⟩
theorem opt_shl (L : List (Option Rat)) : SeqAt.shaped (.list (L.map optQ)) = true := (Sh.lst (n := 1) fun d hd => by
  obtain ⟨o, _, rfl⟩ := List.mem_map.mp hd
  cases o
  · exact sh_non1
  · exact sh_fq1 _).shaped
theorem fqs_shl (L : List Rat) : SeqAt.shaped (.list (L.map fq)) = true := (Sh.lst (n := 1) fun d hd => by
  obtain ⟨o, _, rfl⟩ := List.mem_map.mp hd
  exact sh_fq1 _).shaped
theorem any_fq (L : List Rat) : (L.map fq).any (fun z => PyData.eqv z .none) = false := by
  rw [List.any_map, List.any_eq_false]
  intro q _
  show ¬ PyData.eqv (.tuple [.int q.num, .int (q.den : Int)]) .none = true
  simp [PyData.eqv]
theorem opQ_add (x y z : Rat) : opQ "add" [x, y] = (x + y) := by
  unfold opQ; rw [if_pos rfl]; rfl
theorem opQ_take (x y z : Rat) : opQ "take" [x, y] = (x - y) := by
  unfold opQ; rw [if_neg (by decide), if_pos rfl]; rfl
theorem opQ_times (x y z : Rat) : opQ "times" [x, y] = (x * y) := by
  unfold opQ; rw [if_neg (by decide), if_neg (by decide), if_pos rfl]; rfl
theorem opQ_fused (x y z : Rat) : opQ "fused" [x, y, z] = (x * y + z) := by
  unfold opQ; rw [if_neg (by decide), if_neg (by decide), if_neg (by decide), if_pos rfl]; rfl
theorem opQ_opposite (x y z : Rat) : opQ "opposite" [x] = (-x) := by
  unfold opQ; rw [if_neg (by decide), if_neg (by decide), if_neg (by decide), if_neg (by decide), if_pos rfl]; rfl
theorem opQ_size (x y z : Rat) : opQ "size" [x] = (absQ x) := by
  unfold opQ; rw [if_neg (by decide), if_neg (by decide), if_neg (by decide), if_neg (by decide), if_neg (by decide), if_pos rfl]; rfl
theorem opQ_least (x y z : Rat) : opQ "least" [x, y] = (if x < y then x else y) := by
  unfold opQ; rw [if_neg (by decide), if_neg (by decide), if_neg (by decide), if_neg (by decide), if_neg (by decide), if_neg (by decide), if_pos rfl]; rfl
theorem opQ_greatest (x y z : Rat) : opQ "greatest" [x, y] = (if x < y then y else x) := by
  unfold opQ; rw [if_neg (by decide), if_neg (by decide), if_neg (by decide), if_neg (by decide), if_neg (by decide), if_neg (by decide), if_neg (by decide), if_pos rfl]; rfl
theorem opQ_by (x y z : Rat) : opQ "by" [x, y] = (x / y) := by
  unfold opQ; rw [if_neg (by decide), if_neg (by decide), if_neg (by decide), if_neg (by decide), if_neg (by decide), if_neg (by decide), if_neg (by decide), if_neg (by decide)]; rfl
theorem get_mem {found : List (Option Rat)} {i : Nat} {q : Rat} (h : found.getD i none = some q) : some q ∈ found := by
  rw [List.getD_eq_getElem?_getD] at h
  cases c : found[i]? with
  | none => rw [c] at h; cases h
  | some o => rw [c] at h; have h : o = some q := h; rw [← h]; exact List.mem_of_getElem? c
end Lw
namespace Lw
theorem three_ofL {α : Type} {L : List α} (h : L.length = 3) : ∃ a b c, L = [a, b, c] := match L, h with | [a, b, c], _ => ⟨a, b, c, rfl⟩
end Lw
set_option exponentiation.threshold 20000
namespace Lw
open PySem PySem.Spec PyProof.Rows L2 Gd Fr
open scoped Rat
theorem foldmin_le : ∀ (L : List Xe) (x : Xe), xle (L.foldl Xe.min x) x ∧ ∀ y ∈ L, xle (L.foldl Xe.min x) y
  | [], x => ⟨xle.refl x, fun y h => by cases h⟩
  | z :: L, x => by
    obtain ⟨h1, h2⟩ := foldmin_le L (Xe.min x z)
    have m1 : xle (Xe.min x z) x := Xe.min_le1 x z
    have m2 : xle (Xe.min x z) z := Xe.min_le2 x z
    refine ⟨h1.trans m1, fun y hy => ?_⟩
    rcases List.mem_cons.mp hy with rfl | hy
    · exact h1.trans m2
    · exact h2 y hy
theorem foldmax_le : ∀ (L : List Xe) (x : Xe), xle x (L.foldl Xe.max x) ∧ ∀ y ∈ L, xle y (L.foldl Xe.max x)
  | [], x => ⟨xle.refl x, fun y h => by cases h⟩
  | z :: L, x => by
    obtain ⟨h1, h2⟩ := foldmax_le L (Xe.max x z)
    have m1 : xle x (Xe.max x z) := Xe.max_le1 x z
    have m2 : xle z (Xe.max x z) := Xe.max_le2 x z
    refine ⟨m1.trans h1, fun y hy => ?_⟩
    rcases List.mem_cons.mp hy with rfl | hy
    · exact m2.trans h1
    · exact h2 y hy
theorem minL_is {L : List Xe} {x : Xe} (hm : x ∈ L) (h : ∀ y ∈ L, xle x y) : Xe.minL L = x := by
  cases L with
  | nil => cases hm
  | cons z L =>
    have e : xle (Xe.minL (z :: L)) x := by
      obtain ⟨h1, h2⟩ := foldmin_le L z
      rcases List.mem_cons.mp hm with rfl | hm
      · exact h1
      · exact h2 x hm
    exact xle.anti e (h _ (Xe.minL_mem (by simp)))
theorem maxL_is {L : List Xe} {x : Xe} (hm : x ∈ L) (h : ∀ y ∈ L, xle y x) : Xe.maxL L = x := by
  cases L with
  | nil => cases hm
  | cons z L =>
    have e : xle x (Xe.maxL (z :: L)) := by
      obtain ⟨h1, h2⟩ := foldmax_le L z
      rcases List.mem_cons.mp hm with rfl | hm
      · exact h1
      · exact h2 x hm
    exact xle.anti (h _ (Xe.maxL_mem (by simp))) e
theorem xmin_qq (x y : Rat) : Xe.min (.q x) (.q y) = .q (if x < y then x else y) := by
  unfold Xe.min
  show (if decide (y < x) = true then Xe.q y else .q x) = _
  by_cases c : x < y
  · rw [if_pos c, if_neg (by rw [decide_eq_true_eq]; grind)]
  · rw [if_neg c]
    by_cases c2 : y < x
    · rw [if_pos (decide_eq_true c2)]
    · rw [if_neg (by rw [decide_eq_true_eq]; exact c2)]; congr 1; grind
theorem xmax_qq (x y : Rat) : Xe.max (.q x) (.q y) = .q (if x < y then y else x) := by
  unfold Xe.max
  show (if decide (x < y) = true then Xe.q y else .q x) = _
  by_cases c : x < y
  · rw [if_pos c, if_pos (decide_eq_true c)]
  · rw [if_neg c, if_neg (by rw [decide_eq_true_eq]; exact c)]
theorem att_two {w : Str} {a1 a2 c1 c2 : Rat} {r : Xe × Xe} (h : OpX w [(.q a1, .q a2), (.q c1, .q c2)] r) :
    (∃ x y, (x = a1 ∨ x = a2) ∧ (y = c1 ∨ y = c2) ∧ r.1 = .q (opQ w [x, y])) ∧ ∃ x y, (x = a1 ∨ x = a2) ∧ (y = c1 ∨ y = c2) ∧ r.2 = .q (opQ w [x, y]) := by
  cases h with
  | add => exact ⟨⟨a1, c1, .inl rfl, .inl rfl, rfl⟩, a2, c2, .inr rfl, .inr rfl, rfl⟩
  | take =>
    refine ⟨⟨a1, c2, .inl rfl, .inr rfl, ?_⟩, a2, c1, .inr rfl, .inl rfl, ?_⟩
    · show Xe.q (a1 + -c2) = .q (a1 - c2)
      rw [Rat.sub_eq_add_neg]
    · show Xe.q (a2 + -c1) = .q (a2 - c1)
      rw [Rat.sub_eq_add_neg]
  | times =>
    have m1 : (prodX (.q a1, .q a2) (.q c1, .q c2)).1 ∈ prodL (.q a1, .q a2) (.q c1, .q c2) := Xe.minL_mem (by simp [prodL])
    have m2 : (prodX (.q a1, .q a2) (.q c1, .q c2)).2 ∈ prodL (.q a1, .q a2) (.q c1, .q c2) := Xe.maxL_mem (by simp [prodL])
    have key : ∀ z ∈ prodL (.q a1, .q a2) (.q c1, .q c2), ∃ x y, (x = a1 ∨ x = a2) ∧ (y = c1 ∨ y = c2) ∧ z = .q (opQ "times" [x, y]) := fun z hz => by
      have hz : z = Xe.mul (.q a1) (.q c1) ∨ z = Xe.mul (.q a1) (.q c2) ∨ z = Xe.mul (.q a2) (.q c1) ∨ z = Xe.mul (.q a2) (.q c2) := by simpa [prodL] using hz
      rcases hz with rfl | rfl | rfl | rfl
      · exact ⟨a1, c1, .inl rfl, .inl rfl, xmul_qq _ _⟩
      · exact ⟨a1, c2, .inl rfl, .inr rfl, xmul_qq _ _⟩
      · exact ⟨a2, c1, .inr rfl, .inl rfl, xmul_qq _ _⟩
      · exact ⟨a2, c2, .inr rfl, .inr rfl, xmul_qq _ _⟩
    exact ⟨key _ m1, key _ m2⟩
  | least => exact ⟨⟨a1, c1, .inl rfl, .inl rfl, xmin_qq _ _⟩, a2, c2, .inr rfl, .inr rfl, xmin_qq _ _⟩
  | greatest => exact ⟨⟨a1, c1, .inl rfl, .inl rfl, xmax_qq _ _⟩, a2, c2, .inr rfl, .inr rfl, xmax_qq _ _⟩
theorem att_one {w : Str} {a1 a2 : Rat} {r : Xe × Xe} (hle : a1 ≤ a2) (h : OpX w [(.q a1, .q a2)] r) {A : List Rat} (h1 : a1 ∈ A) (h2 : a2 ∈ A) (h0 : a1 < 0 → 0 ≤ a2 → (0 : Rat) ∈ A) :
    (∃ x ∈ A, r.1 = .q (opQ w [x])) ∧ ∃ x ∈ A, r.2 = .q (opQ w [x]) := by
  cases h with
  | opposite => exact ⟨⟨a2, h2, rfl⟩, a1, h1, rfl⟩
  | size =>
    have n1 : (Xe.q a1).n < 0 ↔ a1 < 0 := n_q.2.2
    have n2 : 0 < (Xe.q a2).n ↔ 0 < a2 := n_q.2.1
    unfold sizX
    by_cases c : (Xe.q a1).n < 0 ∧ 0 < (Xe.q a2).n
    · rw [if_pos c]
      have k1 := n1.mp c.1
      have k2 := n2.mp c.2
      refine ⟨⟨0, h0 k1 (Rat.le_of_lt k2), ?_⟩, ?_⟩
      · show zrX = .q (absQ 0)
        unfold absQ
        rw [if_neg (by decide)]; rfl
      · show ∃ x ∈ A, Xe.max (.q (-a1)) (.q a2) = .q (absQ x)
        rw [xmax_qq]
        by_cases d : -a1 < a2
        · refine ⟨a2, h2, ?_⟩
          rw [if_pos d]; unfold absQ; rw [if_neg (by grind)]
        · refine ⟨a1, h1, ?_⟩
          rw [if_neg d]; unfold absQ; rw [if_pos k1]
    · rw [if_neg c]
      by_cases d : 0 ≤ (Xe.q a1).n
      · rw [if_pos d]
        have k1 : ¬ a1 < 0 := fun z => by have := n1.mpr z; omega
        refine ⟨⟨a1, h1, ?_⟩, a2, h2, ?_⟩
        · show Xe.q a1 = .q (absQ a1)
          unfold absQ; rw [if_neg k1]
        · show Xe.q a2 = .q (absQ a2)
          unfold absQ; rw [if_neg (by grind)]
      · rw [if_neg d]
        have k1 : a1 < 0 := n1.mp (by omega)
        have k2 : ¬ 0 < a2 := fun z => c ⟨n1.mpr k1, n2.mpr z⟩
        refine ⟨⟨a2, h2, ?_⟩, a1, h1, ?_⟩
        · show Xe.q (-a2) = .q (absQ a2)
          unfold absQ
          by_cases z : a2 < 0
          · rw [if_pos z]
          · rw [if_neg z]; congr 1; grind
        · show Xe.q (-a1) = .q (absQ a1)
          unfold absQ; rw [if_pos k1]
theorem ord_two {a1 a2 : Rat} (h : a1 ≤ a2) : Xe2 (.q a1, .q a2) := ⟨fun z => (by cases z), fun z => (by cases z), xle_q.mpr h⟩
theorem ends_two {w : Str} {a1 a2 c1 c2 : Rat} {r : Xe × Xe} (ha : a1 ≤ a2) (hc : c1 ≤ c2) (h : OpX w [(.q a1, .q a2), (.q c1, .q c2)] r) {A C : List Rat} (h1 : a1 ∈ A) (h2 : a2 ∈ A) (h3 : c1 ∈ C) (h4 : c2 ∈ C) (hA : ∀ x ∈ A, a1 ≤ x ∧ x ≤ a2) (hC : ∀ x ∈ C, c1 ≤ x ∧ x ≤ c2)
    {R : List Rat} (hR : ∀ z, z ∈ R ↔ ∃ x ∈ A, ∃ y ∈ C, z = opQ w [x, y]) (hw : w ∈ opWords) : Xe.minL (R.map .q) = r.1 ∧ Xe.maxL (R.map .q) = r.2 := by
  have inn : ∀ z ∈ R, xle r.1 (.q z) ∧ xle (.q z) r.2 := fun z hz => by
    obtain ⟨x, hx, y, hy, rfl⟩ := (hR z).mp hz
    have l2 : opMany w = 2 := by cases h <;> rfl
    obtain ⟨r', h'⟩ := op_ex hw (L := [pt2 x, pt2 y]) (by rw [l2]; rfl)
    have e := op_pt (K := [x, y]) rfl h'
    have m := op_mono h h' (fun a ha' => by
      rcases List.mem_cons.mp ha' with rfl | ha'
      · exact ord_two ha
      · rcases List.mem_cons.mp ha' with rfl | ha'
        · exact ord_two hc
        · cases ha') (fun a ha' => by
      rcases List.mem_cons.mp ha' with rfl | ha'
      · exact pt2_two x
      · rcases List.mem_cons.mp ha' with rfl | ha'
        · exact pt2_two y
        · cases ha') (fun i a a' ea ea' => by
      match i, ea, ea' with
      | 0, ea, ea' => injection ea with ea; injection ea' with ea'; subst ea; subst ea'; exact ⟨xle_q.mpr (hA x hx).1, xle_q.mpr (hA x hx).2⟩
      | 1, ea, ea' => injection ea with ea; injection ea' with ea'; subst ea; subst ea'; exact ⟨xle_q.mpr (hC y hy).1, xle_q.mpr (hC y hy).2⟩
      | i + 2, ea, _ => cases ea)
    rw [e] at m
    exact ⟨m.1, m.2⟩
  have mm : ∀ {x : Rat}, (x = a1 ∨ x = a2) → x ∈ A := fun {x} z => z.elim (fun e => e ▸ h1) (fun e => e ▸ h2)
  have nn : ∀ {x : Rat}, (x = c1 ∨ x = c2) → x ∈ C := fun {x} z => z.elim (fun e => e ▸ h3) (fun e => e ▸ h4)
  obtain ⟨⟨x, y, hx, hy, e1⟩, x', y', hx', hy', e2⟩ := att_two h
  constructor
  · refine minL_is ?_ fun z hz => ?_
    · rw [e1]; exact List.mem_map.mpr ⟨_, (hR _).mpr ⟨x, mm hx, y, nn hy, rfl⟩, rfl⟩
    · obtain ⟨q, hq, rfl⟩ := List.mem_map.mp hz
      exact (inn q hq).1
  · refine maxL_is ?_ fun z hz => ?_
    · rw [e2]; exact List.mem_map.mpr ⟨_, (hR _).mpr ⟨x', mm hx', y', nn hy', rfl⟩, rfl⟩
    · obtain ⟨q, hq, rfl⟩ := List.mem_map.mp hz
      exact (inn q hq).2
theorem ends_one {w : Str} {a1 a2 : Rat} {r : Xe × Xe} (ha : a1 ≤ a2) (h : OpX w [(.q a1, .q a2)] r) {A : List Rat} (h1 : a1 ∈ A) (h2 : a2 ∈ A) (h0 : a1 < 0 → 0 ≤ a2 → (0 : Rat) ∈ A) (hA : ∀ x ∈ A, a1 ≤ x ∧ x ≤ a2)
    {R : List Rat} (hR : ∀ z, z ∈ R ↔ ∃ x ∈ A, z = opQ w [x]) (hw : w ∈ opWords) : Xe.minL (R.map .q) = r.1 ∧ Xe.maxL (R.map .q) = r.2 := by
  have inn : ∀ z ∈ R, xle r.1 (.q z) ∧ xle (.q z) r.2 := fun z hz => by
    obtain ⟨x, hx, rfl⟩ := (hR z).mp hz
    have l1 : opMany w = 1 := by cases h <;> rfl
    obtain ⟨r', h'⟩ := op_ex hw (L := [pt2 x]) (by rw [l1]; rfl)
    have e := op_pt (K := [x]) rfl h'
    have m := op_mono h h' (fun a ha' => by
      rcases List.mem_cons.mp ha' with rfl | ha'
      · exact ord_two ha
      · cases ha') (fun a ha' => by
      rcases List.mem_cons.mp ha' with rfl | ha'
      · exact pt2_two x
      · cases ha') (fun i a a' ea ea' => by
      match i, ea, ea' with
      | 0, ea, ea' => injection ea with ea; injection ea' with ea'; subst ea; subst ea'; exact ⟨xle_q.mpr (hA x hx).1, xle_q.mpr (hA x hx).2⟩
      | i + 1, ea, _ => cases ea)
    rw [e] at m
    exact ⟨m.1, m.2⟩
  obtain ⟨⟨x, hx, e1⟩, x', hx', e2⟩ := att_one ha h h1 h2 h0
  constructor
  · refine minL_is ?_ fun z hz => ?_
    · rw [e1]; exact List.mem_map.mpr ⟨_, (hR _).mpr ⟨x, hx, rfl⟩, rfl⟩
    · obtain ⟨q, hq, rfl⟩ := List.mem_map.mp hz
      exact (inn q hq).1
  · refine maxL_is ?_ fun z hz => ?_
    · rw [e2]; exact List.mem_map.mpr ⟨_, (hR _).mpr ⟨x', hx', rfl⟩, rfl⟩
    · obtain ⟨q, hq, rfl⟩ := List.mem_map.mp hz
      exact (inn q hq).2
end Lw
set_option exponentiation.threshold 20000
namespace Lw
open PySem PySem.Spec PyProof.Rows L2 Gd Fr
open scoped Rat
inductive R_xlm (f : List Xe → PyData) : Rel
  | mk (L : List Xe) (n d : Nat) (B : Bag) (h : ∀ x ∈ L, x.bd n d) (h0 : L ≠ []) (hl : L.length ≤ 60) (h1 : n ≤ 30000) (h2 : d ≤ 20000) (h3 : 1 ≤ n ∧ 1 ≤ d) : R_xlm f [.da (.list (L.map Xe.d))] B (f L) B
theorem sm_most {t : F4} (h : t ∈ smallF) : mostI t.1 t.2.1 t.2.2.1 t.2.2.2 < 2 ^ 40 := by
  have key : smallF.all (fun t => decide (mostI t.1 t.2.1 t.2.2.1 t.2.2.2 < 2 ^ 40)) = true := by decide +kernel
  exact of_decide_eq_true (List.all_eq_true.mp key t h)
def valR (b p : Nat) (low high r : Int) : Rat := match atV b p low high r with
  | some v => v.wQ b
  | none => 0
def allQ (b p : Nat) (low high r1 r2 : Int) : List Rat := (List.range (r2 + 1 - r1).toNat).map fun i => valR b p low high (r1 + (i : Nat))
inductive R_allin : Rel
  | mk (b p : Nat) (low high r1 r2 : Int) (u v : Va) (B : Bag) (F : Fm b p low high) (hm : mostI b p low high < 2 ^ 40) (eu : atV b p low high r1 = some u) (ev : atV b p low high r2 = some v) (h0 : -mostI b p low high < r1) (h1 : r1 ≤ r2) (h2 : r2 < mostI b p low high) (h3 : r2 ≤ r1 + 6) :
      R_allin [.da (fmP b p low high), .da (Sp.span u v).d] B (.list ((allQ b p low high r1 r2).map fq)) B
section
variable {b p : Nat} {low high : Int} (F : Fm b p low high)
include F
theorem num_at {r : Int} (h0 : -mostI b p low high < r) (h1 : r < mostI b p low high) : ∃ s c e, atV b p low high r = some (.num s c e) ∧ Vcan b p low high (.num s c e) ∧ rkI b p low high (.num s c e) = r := by
  obtain ⟨v, e, hc, hn, hk, _⟩ := rk_at F (Int.le_of_lt h0) (Int.le_of_lt h1)
  cases v with
  | nan => cases hn
  | inf s =>
    exfalso
    rcases hc with rfl | rfl
    · rw [rk_i0] at hk; omega
    · rw [rk_i1] at hk; omega
  | num s c e1 => exact ⟨s, c, e1, e, hc, hk⟩
theorem valR_mono {r r' : Int} (h0 : -mostI b p low high < r) (h : r ≤ r') (h1 : r' < mostI b p low high) : valR b p low high r ≤ valR b p low high r' := by
  obtain ⟨s, c, e, h2, h3, h4⟩ := num_at F h0 (by omega)
  obtain ⟨s', c', e', h2', h3', h4'⟩ := num_at F (r := r') (by omega) h1
  unfold valR
  rw [h2, h2']
  have k := rk_lt F h3'.1 h3.1 h3'.2.1 h3'.2.2 h3.2.1 h3.2.2
  exact Rat.not_lt.mp fun z => by have := k.mpr z; omega
theorem valR_zero (h : 0 < mostI b p low high) : valR b p low high 0 = 0 := by
  obtain ⟨s, c, e, h2, h3, h4⟩ := num_at F (r := 0) (by omega) (by omega)
  unfold valR
  rw [h2]
  show (Va.num s c e).wQ b = 0
  have hk : rkI b p low high (.num s c e) = rkI b p low high (.num 0 0 low) := by rw [h4, zero_rk F]
  have hz : Can b p low 0 low := ⟨Int.le_refl _, by have := F.rkf.l2; have := F.rkf.fl; have := F.rkf.f1; omega, Int.le_refl _, .inl rfl⟩
  have w0 : (Va.num 0 0 low).wQ b = 0 := by
    show (((if (0 : Int) = 1 then -0 else 0 : Int)) : Rat) * pw b low = 0
    rw [if_neg (by decide)]; exact Rat.zero_mul _
  have a := rk_lt F h3.1 (.inl rfl) h3.2.1 h3.2.2 hz F.lh
  have c' := rk_lt F (.inl rfl) h3.1 hz F.lh h3.2.1 h3.2.2
  rw [w0] at a c'
  have n1 : ¬ (Va.num s c e).wQ b < 0 := fun z => by have := a.mpr z; omega
  have n2 : ¬ 0 < (Va.num s c e).wQ b := fun z => by have := c'.mpr z; omega
  grind
theorem allQ_mem {r1 r2 : Int} (h1 : r1 ≤ r2) {x : Rat} : x ∈ allQ b p low high r1 r2 ↔ ∃ r, r1 ≤ r ∧ r ≤ r2 ∧ x = valR b p low high r := by
  unfold allQ
  rw [List.mem_map]
  constructor
  · rintro ⟨i, hi, rfl⟩
    rw [List.mem_range] at hi
    exact ⟨r1 + i, by omega, by omega, rfl⟩
  · rintro ⟨r, h2, h3, rfl⟩
    refine ⟨(r - r1).toNat, List.mem_range.mpr (by omega), ?_⟩
    rw [show r1 + ((r - r1).toNat : Int) = r by omega]
end
theorem allQ_len {b p : Nat} {low high r1 r2 : Int} (h1 : r1 ≤ r2) (h3 : r2 ≤ r1 + 6) : (allQ b p low high r1 r2).length ≤ 7 := by
  unfold allQ
  rw [List.length_map, List.length_range]; omega
end Lw
namespace Gd
open PySem PySem.Spec PyProof.Rows L2
section
variable {X : Cx} {Γ : List VD} {B B1 : Bag} {a : Expr} {p p2 p3 pos : Pos}
theorem rg_all {K : PySem.W.Frag} {H : Hp} : ∀ l : List Nat, RpAll K H (l.map fun i => V.int (0 + (i : Nat))) (l.map fun i => PyData.int (i : Nat))
  | [] => .nil
  | i :: l => .cons (by show Rp _ _ (V.int (0 + (i : Nat))) (.int (i : Nat)); rw [Int.zero_add]; exact .int _) (rg_all l)
theorem ej_tupRg {n : Nat} (hc : X.calm = true) (hm : X.mg "tuple" = none) (hr : X.mg "range" = none) (ha : EJ X Γ B a (.da (.int (n : Int))) B1) (hn : n ≤ 1000)
    (hgt : Gl X "tuple" := by rfl) (hgr : Gl X "range" := by rfl) (h1 : starEach [a] X.env = (false, eval a X.env) :: starEach [] X.env := by rfl)
    (h2 : starEach [Expr.Call (.Name "range" p2) [a] [] p3] X.env = (false, eval (Expr.Call (.Name "range" p2) [a] [] p3) X.env) :: starEach [] X.env := by rfl) :
    EJ X Γ B (.Call (.Name "tuple" p) [.Call (.Name "range" p2) [a] [] p3] [] pos) (.da (.tuple ((List.range n).map fun i => .int (i : Nat)))) B1 := fun g σ H0 H Ev O Q q => by
  obtain ⟨ta, pa, h⟩ := ha g σ H0 H Ev O (fun v H1 => ∃ m, v = .int m ∧ (RgOk 0 m ∧ ∀ q, H1 q = none → Q (.ref q) (upd H1 q (.tup (rgV 0 m))))) (fun v H0' H' t o r => by
    refine ⟨(n : Int), rvI r, ⟨by decide, by decide, by omega, by omega, by omega⟩, fun y hy => ?_⟩
    obtain ⟨t2, o2⟩ := laid (o := .tup (rgV 0 (n : Int))) o hy
    refine q _ _ _ (t.trans t2) o2 (Rp.tup (SqT.of upd_same) ?_)
    show RpAll _ _ ((List.range ((n : Int) - 0).toNat).map fun i => V.int (0 + (i : Nat))) _
    rw [show ((n : Int) - 0).toNat = n by omega]
    exact rg_all _)
  exact ⟨tTupRg (tRg1 ta), pe_tupRg hc hgt hm (prg_1 hgr hr pa h1) h2, h⟩
variable {elt e : Expr} {scope : Scope} {j : Nat} {ds : List PyData} {Φ : Post}
theorem rx_lcTB (I : Nat → List PyData → Bag → Prop) (hi : EJ X Γ B e (.da (.tuple ds)) B1) (h0 : I 0 [] B1) (hz : ds.length ≤ 1000)
    (hs : ∀ k y acc B', ds[k]? = some y → acc.length = k → I k acc B' → Blk X scope fun Y => EX Y (Γ.set j (.da y)) B' elt fun z B2 => I (k + 1) (acc ++ [z]) B2)
    (hd : ∀ acc B', acc.length = ds.length → I ds.length acc B' → Φ (.list acc) B') :
    RX X Γ B (tLc (iTup X.K (WE X e)) (gName j) tYes (WB X scope elt) [j]) Φ := fun g σ H0 H Ev O Q q =>
  hi g σ H0 H Ev O _ fun v H1 H' t o r => by
    obtain ⟨p, xs, rfl, hxs, rs⟩ := rvT r
    refine ⟨p, rfl, ⟨xs, seqT o.ex hxs⟩, fun A hA => ?_⟩
    obtain ⟨off, I0⟩ := lcI_start o hA
    refine lc_tup (xs := xs) (fun i H'' => ∃ H2 acc B', acc.length = i ∧ I i acc B' ∧ LcI X.K g H1 H' A acc B' H2 H'') ⟨_, [], _, rfl, h0, I0⟩ ?_ ?_ ?_
    · rintro i H'' _ ⟨H2, acc, B', _, _, J⟩
      exact seqT J.on.ex (seqT J.to.ex hxs)
    · rintro i w H'' hw ⟨H2, acc, B', hl, hI, J⟩
      obtain ⟨y, hy, ry⟩ := rs.get hw
      have hi2 : i < ds.length := (List.getElem?_eq_some_iff.mp hy).1
      exact lc_turnX off (Ev.mono t.ex) J (ry.mono J.to.ex) (by omega) (hs i y acc B' hy hl hI) fun z B2 H3 H3' hz J => ⟨H3, _, B2, by rw [List.length_append, List.length_singleton, hl], hz, J⟩
    · rintro H'' ⟨H2, acc, B', hl, hI, J⟩
      rw [rs.length] at hl hI
      obtain ⟨H3, t3, o3, r3⟩ := lcI_end off t J
      exact q _ H3 H'' _ _ (hd acc B' hl hI) t3 o3 r3
end
end Gd
set_option exponentiation.threshold 20000
namespace Lw
open PySem PySem.Spec PyProof.Rows L2 Gd Fr
open scoped Rat
def vaR (t : F4) (r : Int) : Va := (atV t.1 t.2.1 t.2.2.1 t.2.2.2 r).getD .nan
def fewP (t : F4) (q : Int × Int) : Prop := -mostI t.1 t.2.1 t.2.2.1 t.2.2.2 < q.1 ∧ q.1 ≤ q.2 ∧ q.2 < mostI t.1 t.2.1 t.2.2.1 t.2.2.2 ∧ q.2 ≤ q.1 + 6
def fewS (t : F4) (q : Int × Int) : Sp := .span (vaR t q.1) (vaR t q.2)
def allR (t : F4) (q : Int × Int) : List Rat := allQ t.1 t.2.1 t.2.2.1 t.2.2.2 q.1 q.2
def chG (t : F4) (acc : List (List Rat)) (q : Int × Int) : List (List Rat) := acc.flatMap fun one => (allR t q).map fun x => one ++ [x]
def chs (t : F4) (qs : List (Int × Int)) : List (List Rat) := qs.foldl (chG t) [[]]
def chD (one : List Rat) : PyData := .tuple (one.map fq)
section
variable {t : F4} (F : Fm t.1 t.2.1 t.2.2.1 t.2.2.2)
include F
theorem vaR_at {r : Int} (h0 : -mostI t.1 t.2.1 t.2.2.1 t.2.2.2 < r) (h1 : r < mostI t.1 t.2.1 t.2.2.1 t.2.2.2) : atV t.1 t.2.1 t.2.2.1 t.2.2.2 r = some (vaR t r) ∧ Vcan t.1 t.2.1 t.2.2.1 t.2.2.2 (vaR t r) ∧ rkI t.1 t.2.1 t.2.2.1 t.2.2.2 (vaR t r) = r ∧ plc (vaR t r) ∧ (vaR t r).isNum = true := by
  obtain ⟨v, e, hc, hn, hk, hp⟩ := rk_at F (Int.le_of_lt h0) (Int.le_of_lt h1)
  obtain ⟨s, c, e1, e', _, _⟩ := num_at F h0 h1
  have ev : vaR t r = v := by unfold vaR; rw [e]; rfl
  rw [ev]
  rw [e] at e'
  cases e'
  exact ⟨e, hc, hk, hp, rfl⟩
theorem few_ok2 {q : Int × Int} (h : fewP t q) : (fewS t q).ok2 t.1 t.2.1 t.2.2.1 t.2.2.2 := by
  obtain ⟨h0, h1, h2, _⟩ := h
  obtain ⟨e1, c1, k1, p1, n1⟩ := vaR_at F h0 (by omega)
  obtain ⟨e2, c2, k2, p2, n2⟩ := vaR_at F (r := q.2) (by omega) h2
  have nn1 : (vaR t q.1).isNan = false := by revert n1; cases vaR t q.1 <;> intro z <;> first | rfl | cases z
  have nn2 : (vaR t q.2).isNan = false := by revert n2; cases vaR t q.2 <;> intro z <;> first | rfl | cases z
  refine ⟨⟨⟨c1, nn1⟩, c2, nn2⟩, p1, p2, fun z => ?_, fun z => ?_, fun z => ?_⟩
  · rw [z] at n1; cases n1
  · rw [z] at n2; cases n2
  · have := (lex_rk F c2 c1 nn2 nn1 p2 p1).mp z
    omega
theorem few_en {r : Int} (h0 : -mostI t.1 t.2.1 t.2.2.1 t.2.2.2 < r) (h1 : r < mostI t.1 t.2.1 t.2.2.1 t.2.2.2) : Xe.of t.1 (vaR t r) = .q (valR t.1 t.2.1 t.2.2.1 t.2.2.2 r) := by
  obtain ⟨e1, c1, k1, p1, n1⟩ := vaR_at F h0 h1
  unfold valR
  rw [e1]
  revert n1
  cases vaR t r <;> intro z <;> first | rfl | cases z
theorem all_in {q : Int × Int} (h : fewP t q) {x : Rat} (hx : x ∈ allR t q) : valR t.1 t.2.1 t.2.2.1 t.2.2.2 q.1 ≤ x ∧ x ≤ valR t.1 t.2.1 t.2.2.1 t.2.2.2 q.2 := by
  obtain ⟨r, a, b, rfl⟩ := (allQ_mem F h.2.1).mp hx
  exact ⟨valR_mono F h.1 a (by have := h.2.2.1; omega), valR_mono F (by have := h.1; omega) b h.2.2.1⟩
theorem all_lo {q : Int × Int} (h : fewP t q) : valR t.1 t.2.1 t.2.2.1 t.2.2.2 q.1 ∈ allR t q := (allQ_mem F h.2.1).mpr ⟨q.1, Int.le_refl _, h.2.1, rfl⟩
theorem all_hi {q : Int × Int} (h : fewP t q) : valR t.1 t.2.1 t.2.2.1 t.2.2.2 q.2 ∈ allR t q := (allQ_mem F h.2.1).mpr ⟨q.2, h.2.1, Int.le_refl _, rfl⟩
theorem all_zero {q : Int × Int} (h : fewP t q) (h1 : valR t.1 t.2.1 t.2.2.1 t.2.2.2 q.1 < 0) (h2 : 0 ≤ valR t.1 t.2.1 t.2.2.1 t.2.2.2 q.2) : (0 : Rat) ∈ allR t q := by
  have m : 0 < mostI t.1 t.2.1 t.2.2.1 t.2.2.2 := by have := h.1; have := h.2.1; have := h.2.2.1; omega
  have z := valR_zero F m
  have r1 : q.1 < 0 := by
    by_cases c : q.1 < 0
    · exact c
    · exfalso
      have := valR_mono F (r := 0) (r' := q.1) (by omega) (by omega) (by have := h.2.1; have := h.2.2.1; omega)
      rw [z] at this
      grind
  have r2 : 0 ≤ q.2 := by
    by_cases c : 0 ≤ q.2
    · exact c
    · exfalso
      -- a VALUE below zero has a worth below zero
      obtain ⟨s1, c1, e1, a1, b1, k1⟩ := num_at F (r := q.2) (by have := h.1; have := h.2.1; omega) h.2.2.1
      obtain ⟨s0, c0, e0, a0, b0, k0⟩ := num_at F (r := 0) (by omega) (by omega)
      have k := (rk_lt F b1.1 b0.1 b1.2.1 b1.2.2 b0.2.1 b0.2.2).mp (by omega)
      have w1 : valR t.1 t.2.1 t.2.2.1 t.2.2.2 q.2 = (Va.num s1 c1 e1).wQ t.1 := by unfold valR; rw [a1]
      have w0 : valR t.1 t.2.1 t.2.2.1 t.2.2.2 0 = (Va.num s0 c0 e0).wQ t.1 := by unfold valR; rw [a0]
      rw [← w1, ← w0, z] at k
      grind
  exact (allQ_mem F h.2.1).mpr ⟨0, by omega, r2, z.symm⟩
theorem chs_ends {w : Str} {qs : List (Int × Int)} (hq : ∀ q ∈ qs, fewP t q) {r : Xe × Xe} (h : OpX w (qs.map fun q => (Xe.of t.1 (vaR t q.1), Xe.of t.1 (vaR t q.2))) r) (hw : w ∈ opWords) (hl : qs.length ≤ 2) (h0 : qs ≠ []) :
    Xe.minL (((chs t qs).map (opQ w)).map .q) = r.1 ∧ Xe.maxL (((chs t qs).map (opQ w)).map .q) = r.2 := by
  match qs, hl, h0 with
  | [q], _, _ =>
    have f := hq q (by simp)
    have h : OpX w [(Xe.of t.1 (vaR t q.1), Xe.of t.1 (vaR t q.2))] r := h
    rw [few_en F f.1 (by have := f.2.1; have := f.2.2.1; omega), few_en F (by have := f.1; have := f.2.1; omega) f.2.2.1] at h
    refine ends_one (all_in F f (all_lo F f)).2 h (all_lo F f) (all_hi F f) (all_zero F f) (fun x hx => all_in F f hx) (fun z => ?_) hw
    simp only [chs, chG, List.foldl_cons, List.foldl_nil, List.flatMap_cons, List.flatMap_nil, List.append_nil, List.nil_append, List.map_map, List.mem_map, Function.comp]
    constructor
    · rintro ⟨x, hx, rfl⟩; exact ⟨x, hx, rfl⟩
    · rintro ⟨x, hx, rfl⟩; exact ⟨x, hx, rfl⟩
  | [q, q'], _, _ =>
    have f := hq q (by simp)
    have f' := hq q' (by simp)
    have h : OpX w [(Xe.of t.1 (vaR t q.1), Xe.of t.1 (vaR t q.2)), (Xe.of t.1 (vaR t q'.1), Xe.of t.1 (vaR t q'.2))] r := h
    rw [few_en F f.1 (by have := f.2.1; have := f.2.2.1; omega), few_en F (by have := f.1; have := f.2.1; omega) f.2.2.1, few_en F f'.1 (by have := f'.2.1; have := f'.2.2.1; omega), few_en F (by have := f'.1; have := f'.2.1; omega) f'.2.2.1] at h
    refine ends_two (all_in F f (all_lo F f)).2 (all_in F f' (all_lo F f')).2 h (all_lo F f) (all_hi F f) (all_lo F f') (all_hi F f') (fun x hx => all_in F f hx) (fun x hx => all_in F f' hx) (fun z => ?_) hw
    simp only [chs, chG, List.foldl_cons, List.foldl_nil, List.flatMap_cons, List.flatMap_nil, List.append_nil, List.nil_append, List.mem_map, List.mem_flatMap]
    constructor
    · rintro ⟨one, ⟨o2, ⟨x, hx, rfl⟩, y, hy, rfl⟩, rfl⟩; exact ⟨x, hx, y, hy, rfl⟩
    · rintro ⟨x, hx, y, hy, rfl⟩; exact ⟨_, ⟨_, ⟨x, hx, rfl⟩, y, hy, rfl⟩, rfl⟩
end
end Lw
set_option exponentiation.threshold 20000
namespace Lw
open PySem PySem.Spec PyProof.Rows L2 Gd Fr
open scoped Rat
def k67W : List Str := ["add", "take", "times", "times", "size", "least", "greatest", "opposite"]
theorem k67_words {w : Str} (h : w ∈ k67W) : w ∈ opWords ∧ w ∈ pgWords ∧ w ≠ "root" ∧ w ≠ "if" ∧ w ≠ "by" ∧ arity w = opMany w ∧ 1 ≤ opMany w ∧ opMany w ≤ 2 := by
  simp only [k67W, List.mem_cons, List.not_mem_nil, or_false] at h
  rcases h with rfl | rfl | rfl | rfl | rfl | rfl | rfl | rfl <;> exact ⟨by decide, by decide, by decide, by decide, by decide, by decide, by decide, by decide⟩
theorem opQ_qz {w : Str} (h : w ∈ k67W) {K : List Rat} {N : Nat} (hK : ∀ x ∈ K, Qz N N x) (hl : K.length = opMany w) : Qz (2 * N + 1) (2 * N) (opQ w K) := by
  have two : ∀ {K : List Rat}, K.length = 2 → ∃ x y, K = [x, y] := fun {K} e => by
    match K, e with
    | [x, y], _ => exact ⟨x, y, rfl⟩
  have one : ∀ {K : List Rat}, K.length = 1 → ∃ x, K = [x] := fun {K} e => by
    match K, e with
    | [x], _ => exact ⟨x, rfl⟩
  simp only [k67W, List.mem_cons, List.not_mem_nil, or_false] at h
  rcases h with rfl | rfl | rfl | rfl | rfl | rfl | rfl | rfl
  · obtain ⟨x, y, rfl⟩ := two (hl.trans (by decide))
    exact ((hK x (by simp)).add (hK y (by simp)) (2 * N + 1) (by omega) (by omega)).le (Nat.le_refl _) (by omega)
  · obtain ⟨x, y, rfl⟩ := two (hl.trans (by decide))
    exact ((hK x (by simp)).sub (hK y (by simp)) (2 * N + 1) (by omega) (by omega)).le (Nat.le_refl _) (by omega)
  · obtain ⟨x, y, rfl⟩ := two (hl.trans (by decide))
    exact ((hK x (by simp)).mul (hK y (by simp))).le (by omega) (by omega)
  · obtain ⟨x, y, rfl⟩ := two (hl.trans (by decide))
    exact ((hK x (by simp)).mul (hK y (by simp))).le (by omega) (by omega)
  · obtain ⟨x, rfl⟩ := one (hl.trans (by decide))
    exact (hK x (by simp)).abs.le (by omega) (by omega)
  · obtain ⟨x, y, rfl⟩ := two (hl.trans (by decide))
    show Qz _ _ (if x < y then x else y)
    split
    · exact (hK x (by simp)).le (by omega) (by omega)
    · exact (hK y (by simp)).le (by omega) (by omega)
  · obtain ⟨x, y, rfl⟩ := two (hl.trans (by decide))
    show Qz _ _ (if x < y then y else x)
    split
    · exact (hK y (by simp)).le (by omega) (by omega)
    · exact (hK x (by simp)).le (by omega) (by omega)
  · obtain ⟨x, rfl⟩ := one (hl.trans (by decide))
    exact (hK x (by simp)).neg.le (by omega) (by omega)
theorem tsR_op {w : Str} (h : w ∈ k67W) {K : List Rat} (hl : K.length = opMany w) : tsR (K.map some) [] (.op w (List.range K.length)) = some (opQ w K) := by
  obtain ⟨_, _, _, hi, hb, _, m1, m2⟩ := k67_words h
  have key : ((List.range K.length).map fun i => (K.map some).getD i none) = K.map some := by
    match K, hl with
    | [], hl => rfl
    | [x], _ => rfl
    | [x, y], _ => rfl
    | x :: y :: z :: K, hl => exfalso; simp only [List.length_cons] at hl; omega
  have key2 : ((List.range K.length).map fun i => ((K.map some).getD i none).getD 0) = K := by
    match K, hl with
    | [], hl => rfl
    | [x], _ => rfl
    | [x, y], _ => rfl
    | x :: y :: z :: K, hl => exfalso; simp only [List.length_cons] at hl; omega
  unfold tsR
  simp only []
  rw [if_neg hi, key, if_pos (by rw [List.all_map]; exact List.all_eq_true.mpr fun x _ => rfl), if_neg (fun z => hb z.1), key2]
theorem op_stp {w : Str} (h : w ∈ k67W) : (Stp.op w (List.range (opMany w))).ok 0 (opMany w) := by
  obtain ⟨_, h2, _, _, _, h3, _⟩ := k67_words h
  exact ⟨h2, by rw [List.length_range, h3], fun i hi => List.mem_range.mp hi⟩
theorem chs_mem {t : F4} (F : Fm t.1 t.2.1 t.2.2.1 t.2.2.2) (S : Sml t.1 t.2.1 t.2.2.1 t.2.2.2) {qs : List (Int × Int)} (hq : ∀ q ∈ qs, fewP t q) (hl : qs.length ≤ 2) {one : List Rat} (h : one ∈ chs t qs) : one.length = qs.length ∧ ∀ x ∈ one, Qz 21 21 x := by
  have z : ∀ q ∈ qs, ∀ x ∈ allR t q, Qz 21 21 x := fun q hq' x hx => by
    have f := hq q hq'
    obtain ⟨r, a, b, rfl⟩ := (allQ_mem F f.2.1).mp hx
    obtain ⟨s, c, e, h1, h2, _⟩ := num_at F (r := r) (by have := f.1; omega) (by have := f.2.2.1; omega)
    unfold valR
    rw [h1]
    exact (sm_qz F S h2.ok).le (by decide) (by decide)
  match qs, hl with
  | [], _ =>
    simp only [chs, List.foldl_nil, List.mem_singleton] at h
    subst h
    exact ⟨rfl, fun x hx => by cases hx⟩
  | [q], _ =>
    simp only [chs, chG, List.foldl_cons, List.foldl_nil, List.flatMap_cons, List.flatMap_nil, List.append_nil, List.nil_append, List.mem_map] at h
    obtain ⟨x, hx, rfl⟩ := h
    exact ⟨rfl, fun y hy => by rw [List.mem_singleton.mp hy]; exact z q (by simp) x hx⟩
  | [q, q'], _ =>
    simp only [chs, chG, List.foldl_cons, List.foldl_nil, List.flatMap_cons, List.flatMap_nil, List.append_nil, List.nil_append, List.mem_map, List.mem_flatMap] at h
    obtain ⟨o, ⟨x, hx, rfl⟩, y, hy, rfl⟩ := h
    refine ⟨rfl, fun u hu => ?_⟩
    rcases List.mem_cons.mp hu with rfl | hu
    · exact z q (by simp) _ hx
    · rw [List.mem_singleton.mp hu]; exact z q' (by simp) y hy
theorem chs_len {t : F4} {qs : List (Int × Int)} (hq : ∀ q ∈ qs, fewP t q) (hl : qs.length ≤ 2) : (chs t qs).length ≤ 49 := by
  have a : ∀ q ∈ qs, (allR t q).length ≤ 7 := fun q h => allQ_len (hq q h).2.1 (hq q h).2.2.2
  match qs, hl with
  | [], _ => show 1 ≤ 49; decide
  | [q], _ =>
    have := a q (by simp)
    simp only [chs, chG, List.foldl_cons, List.foldl_nil, List.flatMap_cons, List.flatMap_nil, List.append_nil, List.nil_append, List.length_map]
    omega
  | [q, q'], _ =>
    have h1 := a q (by simp)
    have h2 := a q' (by simp)
    simp only [chs, chG, List.foldl_cons, List.foldl_nil, List.flatMap_cons, List.flatMap_nil, List.append_nil, List.nil_append, List.length_flatMap, List.length_map]
    rw [List.map_map]
    have e : ∀ l : List Rat, (List.map ((fun _ => (allR t q').length) ∘ fun x => [x]) l).sum = l.length * (allR t q').length := by
      intro l
      induction l with
      | nil => simp
      | cons x l ih => rw [List.map_cons, List.sum_cons, ih, List.length_cons, Nat.succ_mul]; exact Nat.add_comm _ _
    rw [show (List.map ((fun (x : List Rat) => (allR t q').length) ∘ fun x => [x]) (allR t q)).sum = (allR t q).length * (allR t q').length from e _]
    calc _ ≤ 7 * 7 := Nat.mul_le_mul h1 h2
      _ = 49 := rfl
theorem minL_app {L : List Xe} {x : Xe} (hx : x ∈ L) : Xe.minL (L ++ [x]) = Xe.minL L ∧ Xe.maxL (L ++ [x]) = Xe.maxL L := by
  have ne : L ≠ [] := fun z => by rw [z] at hx; cases hx
  have lo : ∀ y ∈ L, xle (Xe.minL L) y := fun y hy => by
    cases L with
    | nil => cases hy
    | cons z L =>
      obtain ⟨h1, h2⟩ := foldmin_le L z
      rcases List.mem_cons.mp hy with rfl | hy
      · exact h1
      · exact h2 y hy
  have hi : ∀ y ∈ L, xle y (Xe.maxL L) := fun y hy => by
    cases L with
    | nil => cases hy
    | cons z L =>
      obtain ⟨h1, h2⟩ := foldmax_le L z
      rcases List.mem_cons.mp hy with rfl | hy
      · exact h1
      · exact h2 y hy
  constructor
  · refine minL_is (List.mem_append_left _ (Xe.minL_mem ne)) fun y hy => ?_
    rcases List.mem_append.mp hy with hy | hy
    · exact lo y hy
    · rw [List.mem_singleton.mp hy]; exact lo x hx
  · refine maxL_is (List.mem_append_left _ (Xe.maxL_mem ne)) fun y hy => ?_
    rcases List.mem_append.mp hy with hy | hy
    · exact hi y hy
    · rw [List.mem_singleton.mp hy]; exact hi x hx
end Lw
namespace Lw
open PySem PySem.Spec PyProof.Rows L2 Gd Fr
open scoped Rat
theorem k67_arg {w : Str} (h : w ∈ k67W) : PyData.int (bif (["size", "opposite"] : List Str).any (fun s => decide (s = w)) then 1 else 2) = .int ((opMany w : Nat) : Int) := by
  simp only [k67W, List.mem_cons, List.not_mem_nil, or_false] at h
  rcases h with rfl | rfl | rfl | rfl | rfl | rfl | rfl | rfl <;> exact congrArg PyData.int (by decide)
theorem chs_num {t : F4} (F : Fm t.1 t.2.1 t.2.2.1 t.2.2.2) {w : Str} {qs : List (Int × Int)} (hq : ∀ q ∈ qs, fewP t q) {r : Xe × Xe} (h : OpX w (qs.map fun q => (Xe.of t.1 (vaR t q.1), Xe.of t.1 (vaR t q.2))) r) (hl : qs.length ≤ 2) (h0 : qs ≠ []) : ∃ x y : Rat, r = (.q x, .q y) := by
  match qs, hl, h0 with
  | [q], _, _ =>
    have f := hq q (by simp)
    have h : OpX w [(Xe.of t.1 (vaR t q.1), Xe.of t.1 (vaR t q.2))] r := h
    rw [few_en F f.1 (by have := f.2.1; have := f.2.2.1; omega), few_en F (by have := f.1; have := f.2.1; omega) f.2.2.1] at h
    obtain ⟨⟨x, _, e1⟩, y, _, e2⟩ := att_one (all_in F f (all_lo F f)).2 h (all_lo F f) (all_hi F f) (all_zero F f)
    exact ⟨_, _, Prod.ext e1 e2⟩
  | [q, q'], _, _ =>
    have f := hq q (by simp)
    have f' := hq q' (by simp)
    have h : OpX w [(Xe.of t.1 (vaR t q.1), Xe.of t.1 (vaR t q.2)), (Xe.of t.1 (vaR t q'.1), Xe.of t.1 (vaR t q'.2))] r := h
    rw [few_en F f.1 (by have := f.2.1; have := f.2.2.1; omega), few_en F (by have := f.1; have := f.2.1; omega) f.2.2.1, few_en F f'.1 (by have := f'.2.1; have := f'.2.2.1; omega), few_en F (by have := f'.1; have := f'.2.1; omega) f'.2.2.1] at h
    obtain ⟨⟨x, x', _, _, e1⟩, y, y', _, _, e2⟩ := att_two h
    exact ⟨_, _, Prod.ext e1 e2⟩
theorem chs_take {t : F4} {qs : List (Int × Int)} {i : Nat} {q : Int × Int} (h : qs[i]? = some q) : chs t (qs.take (i + 1)) = chG t (chs t (qs.take i)) q := by
  unfold chs
  rw [List.take_add_one, h, List.foldl_append]; rfl
theorem flat_le {α β : Type} (f : α → List β) (h : ∀ a, (f a).length ≤ 7) : ∀ l : List α, (l.flatMap f).length ≤ 7 * l.length
  | [] => Nat.le_refl _
  | a :: l => by
    rw [List.flatMap_cons, List.length_append, List.length_cons]
    have := h a
    have := flat_le f h l
    omega
theorem k67_zero {t : F4} (F : Fm t.1 t.2.1 t.2.2.1 t.2.2.2) {q : Int × Int} (f : fewP t q) {s1 c1 e1 s2 c2 e2 : Int} (hu : vaR t q.1 = .num s1 c1 e1) (hv : vaR t q.2 = .num s2 c2 e2) (h1 : s1 = 1) (h2 : s2 = 0) : (0 : Rat) ∈ allR t q := by
  obtain ⟨a1, b1, k1, p1, _⟩ := vaR_at F f.1 (by have := f.2.1; have := f.2.2.1; omega)
  obtain ⟨a2, b2, k2, p2, _⟩ := vaR_at F (r := q.2) (by have := f.1; have := f.2.1; omega) f.2.2.1
  rw [hu] at b1 k1 p1
  rw [hv] at b2 k2 p2
  subst h1 h2
  have g1 := b1.2.1
  have g2 := b2.2.1
  have fp : 0 ≤ fmI t.1 t.2.1 := by have := F.rkf.f1; omega
  have n1 : q.1 ≤ 0 := by
    rw [← k1, rk_n1]
    have : 0 ≤ rkS t.1 t.2.1 t.2.2.1 t.2.2.2 (.num 1 c1 e1) := by
      show 0 ≤ c1 + (e1 - t.2.2.1) * fmI t.1 t.2.1
      have := Int.mul_nonneg (show 0 ≤ e1 - t.2.2.1 by have := g1.2.2.1; omega) fp
      have := g1.1
      omega
    omega
  have n2 : 0 ≤ q.2 := by
    rw [← k2, rk_n0]
    show 0 ≤ c2 + (e2 - t.2.2.1) * fmI t.1 t.2.1
    have := Int.mul_nonneg (show 0 ≤ e2 - t.2.2.1 by have := g2.2.2.1; omega) fp
    have := g2.1
    omega
  have m : 0 < mostI t.1 t.2.1 t.2.2.1 t.2.2.2 := by have := f.1; omega
  exact (allQ_mem F f.2.1).mpr ⟨0, n1, n2, (valR_zero F m).symm⟩
end Lw
set_option exponentiation.threshold 20000
namespace Lw
open PySem PySem.Spec PyProof.Rows L2 Gd Fr
open scoped Rat
theorem vad_inj {u v : Va} (h : u.d = v.d) : u = v := by
  have e : u.l = v.l := by injection h
  cases u <;> cases v <;> simp [Va.l] at e ⊢ <;> first | exact e | (simp_all)
theorem spd_inj {u v u' v' : Va} (h : (Sp.span u v).d = (Sp.span u' v').d) : u = u' ∧ v = v' := by
  injection h with h
  injection h with _ h
  injection h with h1 h
  injection h with h2 _
  exact ⟨vad_inj h1, vad_inj h2⟩
end Lw
set_option exponentiation.threshold 20000
namespace K67
open PySem PySem.Spec PyProof.Rows L2 Gd Fr Lw
open scoped Rat

def topS (i : Nat) : Stmt := PySem.Challenge.pw_nearestheld_k67_whole_no_span_is_less.main.body.getD i (.Pass ⟨0, 0, 0, 0⟩)
variable {P : Program} {w : World} {K : PySem.W.Frag} {mg : Str → Option Value} {base : Heap}

abbrev s_integer_power : Stmt := topS 2
theorem sc_integer_power : FnScope ["base", "e", "power"] ["base", "e"] (defScope s_integer_power) := ⟨rfl, rfl, rfl, by decide +kernel, rfl, by decide +kernel, by decide +kernel⟩

theorem c_of_integer_power (T : At K mg "integer_power" s_integer_power ["base", "e"]) : Cal P w K mg base "integer_power" 4 R_pow :=
  cal_at T sc_integer_power (by rintro _ _ _ _ ⟨⟩; rfl) fun f cd0 A out s H E G Γ B r B' hR => by
  obtain ⟨b, e, B, hb, he⟩ := hR
  refine sj_set 2 G.nd ej_int ?_
  refine sj_while G.nd (fun Γ' B' => ∃ k m j : Nat, Γ' = [.da (.int ((b ^ k : Nat) : Int)), .da (.int m), .da (.int ((b ^ j : Nat) : Int))] ∧ j + k * m = e ∧ B' = B) (fun Γ' _ => (intAt Γ' 1).toNat)
    ⟨1, e, 0, by rw [Nat.pow_one]; rfl, by omega, rfl⟩ ?_
  rintro Γ' B' ⟨k, m, j, rfl, hk, rfl⟩
  refine ⟨_, tj_gt (ej_dat 1) ej_int, fun h => ?_, fun h => ?_⟩
  · have hm : 0 < m := by have := of_decide_eq_true h; omega
    obtain ⟨k1, j1⟩ := k_le hk hm
    refine sj_ifM (fun Γ' B2 => ∃ j' : Nat, Γ' = [.da (.int ((b ^ k : Nat) : Int)), .da (.int m), .da (.int ((b ^ j' : Nat) : Int))] ∧ j' + (k + k) * (m / 2) = e ∧ B2 = B') (tj_eqI G.hu (ej_mod (ej_dat 1) ej_int (by decide)) ej_int) (fun h1 => ?_) (fun h1 => ?_) ?_
    · refine sj_set 2 G.nd (ej_mul (ej_dat 2) (ej_dat 0) (cm (bd_pow j hb) (bd_pow k hb) (by omega))) (sj_nil ?_)
      rw [pow_up]
      exact ⟨j + k, rfl, turn_odd hk (by have := of_decide_eq_true h1; omega), rfl⟩
    · exact sj_nil ⟨j, rfl, turn_even hk (by have := of_decide_eq_false h1; omega), rfl⟩
    · rintro Γ2 B2 ⟨j', rfl, hj', rfl⟩
      refine sj_set 0 G.nd (ej_mul (ej_dat 0) (ej_dat 0) (cm (bd_pow k hb) (bd_pow k hb) (by omega))) ?_
      refine sj_set 1 G.nd (ej_fdiv (ej_dat 1) ej_int (cdv (show Bd 2 2 from by unfold Bd; decide) (by decide))) (sj_nil ?_)
      rw [pow_sq, half]
      exact ⟨⟨k + k, m / 2, j', rfl, hj', rfl⟩, show ((m / 2 : Nat) : Int).toNat < (m : Int).toNat by omega⟩
  · have hm : ¬ 0 < m := by have := of_decide_eq_false h; omega
    have := j_end hk hm
    subst this
    exact sj_ret (ej_dat 2) ⟨rfl, rfl⟩

abbrev s_place_of : Stmt := topS 3
theorem sc_place_of : FnScope ["value"] ["value"] (defScope s_place_of) := ⟨rfl, rfl, rfl, by decide +kernel, rfl, by decide +kernel, by decide +kernel⟩

theorem c_of_place_of (T : At K mg "place_of" s_place_of ["value"]) : Cal P w K mg base "place_of" 4 (R_val plD (fun _ => True)) :=
  cal_at T sc_place_of (by rintro _ _ _ _ ⟨⟩; rfl) fun f cd0 A out s0 H E0 G Γ B r B' hR => by
  obtain ⟨v, B, _⟩ := hR
  cases v with
  | nan => exact sj_when (x := true) (tj_is (tj_eqS (ej_at (ej_dat (d := .tuple (Va.l .nan)) 0)) ej_str) rfl) (fun _ => sj_ret (ej_tupD (ad_cons ej_int (ad_cons ej_int (ad_cons ej_int ad_nil))) (Nat.le_of_ble_eq_true rfl)) ⟨rfl, rfl⟩) (fun z => Bool.noConfusion z)
  | inf s =>
    refine sj_when (x := false) (tj_is (tj_eqS (ej_at (ej_dat (d := .tuple (Va.l (.inf s))) 0)) ej_str) (tag_nan (.inf s))) (fun z => Bool.noConfusion z) (fun _ => ?_)
    refine sj_when (x := true) (tj_is (tj_eqS (ej_at (ej_dat (d := .tuple (Va.l (.inf s))) 0)) ej_str) (tag_inf (.inf s))) (fun _ => ?_) (fun z => Bool.noConfusion z)
    rw [show plD (.inf s) = t3 (if s = 0 then (1, 0, 0) else (-2, 0, 0)) from rfl]
    by_cases h : s = 0
    · rw [if_pos h]; exact sj_ret (ej_ifT (tj_is (tj_eqI G.hu (ej_at (ej_dat (d := .tuple (Va.l (.inf s))) 0)) ej_int) (decide_eq_true h)) (ej_tupD (ad_cons ej_int (ad_cons ej_int (ad_cons ej_int ad_nil))) (Nat.le_of_ble_eq_true rfl))) ⟨rfl, rfl⟩
    · rw [if_neg h]; exact sj_ret (ej_ifF (tj_is (tj_eqI G.hu (ej_at (ej_dat (d := .tuple (Va.l (.inf s))) 0)) ej_int) (decide_eq_false h)) (ej_tupD (ad_cons (ej_neg ej_int) (ad_cons ej_int (ad_cons ej_int ad_nil))) (Nat.le_of_ble_eq_true rfl))) ⟨rfl, rfl⟩
  | num s c e =>
    refine sj_when (x := false) (tj_is (tj_eqS (ej_at (ej_dat (d := .tuple (Va.l (.num s c e))) 0)) ej_str) (tag_nan (.num s c e))) (fun z => Bool.noConfusion z) (fun _ => ?_)
    refine sj_when (x := false) (tj_is (tj_eqS (ej_at (ej_dat (d := .tuple (Va.l (.num s c e))) 0)) ej_str) (tag_inf (.num s c e))) (fun z => Bool.noConfusion z) (fun _ => ?_)
    rw [show plD (.num s c e) = t3 (if s = 0 then (0, e, c) else (-1, -e, -c)) from rfl]
    refine sj_when (x := decide (s = 0)) (tj_eqI G.hu (ej_at (ej_dat (d := .tuple (Va.l (.num s c e))) 0)) ej_int) (fun h => ?_) (fun h => ?_)
    · rw [if_pos (of_decide_eq_true h)]; exact sj_ret (ej_tupD (ad_cons ej_int (ad_cons (ej_at (ej_dat (d := .tuple (Va.l (.num s c e))) 0)) (ad_cons (ej_at (ej_dat (d := .tuple (Va.l (.num s c e))) 0)) ad_nil))) (Nat.le_of_ble_eq_true rfl)) ⟨rfl, rfl⟩
    · rw [if_neg (of_decide_eq_false h)]; exact sj_ret (ej_tupD (ad_cons (ej_neg ej_int) (ad_cons (ej_neg (ej_at (ej_dat (d := .tuple (Va.l (.num s c e))) 0))) (ad_cons (ej_neg (ej_at (ej_dat (d := .tuple (Va.l (.num s c e))) 0))) ad_nil))) (Nat.le_of_ble_eq_true rfl)) ⟨rfl, rfl⟩

abbrev s_reduced : Stmt := topS 5
theorem sc_reduced : FnScope ["n", "d", "ahead", "behind", "twos", "common"] ["n", "d"] (defScope s_reduced) := ⟨rfl, rfl, rfl, by decide +kernel, rfl, by decide +kernel, by decide +kernel⟩

theorem c_of_reduced (m_gcd : mg "gcd" = some (.builtin "math.gcd")) (m_min : mg "min" = none) (c_u_twos_in : Cal P w K mg base "_twos_in" 1 R_twos) (T : At K mg "reduced" s_reduced ["n", "d"]) : Cal P w K mg base "reduced" 3 R_reduced :=
  cal_at T sc_reduced (by rintro _ _ _ _ ⟨⟩; rfl) fun f cd0 A out s H E G Γ B r B' hR => by
  obtain ⟨n, d, B, hd, hb⟩ := hR
  refine sj_when (tj_eqI G.hu (ej_dat 0) ej_int) (fun h => ?_) (fun h => ?_)
  · have h0 : n = 0 := of_decide_eq_true h
    subst h0
    exact sj_ret (ej_tupD (ad_cons ej_int (ad_cons ej_int ad_nil)) (Nat.le_of_ble_eq_true rfl)) ⟨by rw [Rat.zero_divInt]; rfl, rfl⟩
  · have hn : n ≠ 0 := of_decide_eq_false h
    obtain ⟨i, a, rfl⟩ := tw_ex hn
    obtain ⟨j, b, rfl⟩ := tw_ex hd
    refine sj_par 2 3 G.nd G.calm (aj_cons (ej_call c_u_twos_in (G.le (by decide)) (aj_cons (ej_dat 0) aj_nil) (R_twos.mk i a B)) (aj_cons (ej_call c_u_twos_in (G.le (by decide)) (aj_cons (ej_dat 1) aj_nil) (R_twos.mk j b B)) aj_nil)) ?_ (by decide) (by rfl)
    obtain ⟨t, hi, hj, ht, em⟩ : ∃ t : Nat, t ≤ i ∧ t ≤ j ∧ (t = i ∨ t = j) ∧ min (i : Int) (j : Int) = (t : Int) := ⟨min i j, by omega, by omega, by omega, by omega⟩
    refine sj_set 4 G.nd (ej_is (ej_min G.calm m_min (ej_dat 2) (ej_dat 3)) (congrArg PyData.int em)) ?_
    refine sj_par 0 1 G.nd G.calm (aj_cons (ej_is (ej_shr (ej_dat 0) (ej_dat 4)) (congrArg PyData.int (tw_shr hi a))) (aj_cons (ej_is (ej_shr (ej_dat 1) (ej_dat 4)) (congrArg PyData.int (tw_shr hj b))) aj_nil)) ?_ (by decide) (by rfl)
    have ek : (j : Int) - (t : Int) = ((j - t : Nat) : Int) := by omega
    have e0 : tw (j - t) b / 2 ^ (j - t) = tw 0 b := by rw [tw_shr (Nat.le_refl _), Nat.sub_self]
    refine sj_set 5 G.nd (ej_gcd m_gcd (ej_dat 0) (ej_is (ej_shr (ej_dat 1) (ej_is (ej_sub (ej_dat 3) (ej_dat 4)) (congrArg PyData.int ek))) (congrArg PyData.int e0))) ?_
    have hd' : tw (j - t) b ≠ 0 := tw_ne _ _
    have eg : Nat.gcd (tw (i - t) a).natAbs (tw 0 b).natAbs = Nat.gcd (tw (i - t) a).natAbs (tw (j - t) b).natAbs := by
      refine (gcd_odd _ b ?_).symm
      rcases ht with rfl | rfl
      · left; rw [Nat.sub_self]; exact tw_odd a
      · right; exact Nat.sub_self _
    rw [eg, divInt_tw hi hj a b]
    have hb' : Bd 8900 (tw (j - t) b) := bd_tw hb (Nat.sub_le _ _)
    have cx : ∀ m, CDivX m (com (tw (i - t) a) (tw (j - t) b)) := fun m => cdx (com_bd hd' hb') (com_ne hd')
    refine sj_if (tj_lt (ej_dat 1) ej_int) (fun h => ?_) (fun h => ?_)
    · refine sj_set 5 G.nd (ej_neg (ej_dat 5)) (sj_nil ?_)
      have e : -((Nat.gcd (tw (i - t) a).natAbs (tw (j - t) b).natAbs : Nat) : Int) = com (tw (i - t) a) (tw (j - t) b) := (if_pos (of_decide_eq_true h)).symm
      rw [e]
      exact sj_ret (ej_tupD (ad_cons (ej_fdivX (ej_dat 0) (ej_dat 5) (cx _)) (ad_cons (ej_fdivX (ej_dat 1) (ej_dat 5) (cx _)) ad_nil)) (Nat.le_of_ble_eq_true rfl)) ⟨by rw [red_num hd', red_den hd']; rfl, rfl⟩
    · refine sj_nil ?_
      have e : ((Nat.gcd (tw (i - t) a).natAbs (tw (j - t) b).natAbs : Nat) : Int) = com (tw (i - t) a) (tw (j - t) b) := (if_neg (of_decide_eq_false h)).symm
      rw [e]
      exact sj_ret (ej_tupD (ad_cons (ej_fdivX (ej_dat 0) (ej_dat 5) (cx _)) (ad_cons (ej_fdivX (ej_dat 1) (ej_dat 5) (cx _)) ad_nil)) (Nat.le_of_ble_eq_true rfl)) ⟨by rw [red_num hd', red_den hd']; rfl, rfl⟩

abbrev s_added : Stmt := topS 6
theorem sc_added : FnScope ["one", "other", "common", "left", "right", "n", "rest"] ["one", "other"] (defScope s_added) := ⟨rfl, rfl, rfl, by decide +kernel, rfl, by decide +kernel, by decide +kernel⟩

theorem c_of_added (m_gcd : mg "gcd" = some (.builtin "math.gcd")) (c_reduced : Cal P w K mg base "reduced" 3 R_reduced) (T : At K mg "added" s_added ["one", "other"]) : Cal P w K mg base "added" 4 (R_two (· + ·)) :=
  cal_at T sc_added (by rintro _ _ _ _ ⟨⟩; rfl) fun f cd0 A out s H E G Γ B r B' hR => by
  obtain ⟨n, d, m, c, x, y, B, hx, hy, h1, h2, h3⟩ := hR
  obtain ⟨gp, bg, bl, br, el, er, fin⟩ := add_by x y hx hy
  refine sj_set 2 G.nd (ej_gcd m_gcd (ej_at (ej_dat (d := fq x) 0)) (ej_at (ej_dat (d := fq y) 1))) ?_
  refine sj_par 3 4 G.nd G.calm (aj_cons (ej_is (ej_fdiv (ej_at (ej_dat (d := fq x) 0)) (ej_dat 2) (cdv bg gp (by omega))) (congrArg PyData.int el)) (aj_cons (ej_is (ej_fdiv (ej_at (ej_dat (d := fq y) 1)) (ej_dat 2) (cdv bg gp (by omega))) (congrArg PyData.int er)) aj_nil)) ?_ (by decide) (by rfl)
  refine sj_unpack [5, 6] G.calm (ej_call c_reduced (G.le (by decide)) (aj_cons (ej_add (ej_mul (ej_at (ej_dat (d := fq x) 0)) (ej_dat 4) (cmz hx.nu br)) (ej_mul (ej_at (ej_dat (d := fq y) 1)) (ej_dat 3) (cmz hy.nu bl))) (aj_cons (ej_dat 2) aj_nil)) (R_reduced.mk _ _ _ (Int.ne_of_gt gp) (bg.le (by omega)))) (pgs_cons (pg_name (i := 5) G.nd rfl (Or.inl rfl)) (pgs_cons (pg_name (i := 6) G.nd rfl (Or.inl rfl)) pgs_nil)) rfl ?_
  have b3 := (divInt_bd (n := x.num * ((addR x y : Nat) : Int) + y.num * ((addL x y : Nat) : Int)) (Int.ne_of_gt gp) (Bd.add (hx.nu.mul br) (hy.nu.mul bl)) bg).2
  exact sj_ret (ej_tupD (ad_cons (ej_dat 5) (ad_cons (ej_mul (ej_mul (ej_dat 3) (ej_dat 4) (cmz bl br)) (ej_dat 6) (cmz (bl.mul br) b3)) ad_nil)) (Nat.le_of_ble_eq_true rfl)) ⟨fin, rfl⟩

abbrev s_times : Stmt := topS 7
theorem sc_times : FnScope ["one", "other", "first", "right", "second", "left"] ["one", "other"] (defScope s_times) := ⟨rfl, rfl, rfl, by decide +kernel, rfl, by decide +kernel, by decide +kernel⟩

theorem c_of_times (c_reduced : Cal P w K mg base "reduced" 3 R_reduced) (T : At K mg "times" s_times ["one", "other"]) : Cal P w K mg base "times" 4 (R_two (· * ·)) :=
  cal_at T sc_times (by rintro _ _ _ _ ⟨⟩; rfl) fun f cd0 A out s H E G Γ B r B' hR => by
  obtain ⟨n, d, m, c, x, y, B, hx, hy, h1, h2, h3⟩ := hR
  obtain ⟨b1, b2⟩ := divInt_bd (den_ne y) hx.nu hy.de
  obtain ⟨b3, b4⟩ := divInt_bd (den_ne x) hy.nu hx.de
  refine sj_unpack [2, 3] (ds := [.int (x.num /. (y.den : Int)).num, .int ((x.num /. (y.den : Int)).den : Int)]) G.calm (ej_call c_reduced (G.le (by decide)) (aj_cons (ej_at (ej_dat (d := fq x) 0)) (aj_cons (ej_at (ej_dat (d := fq y) 1)) aj_nil)) (R_reduced.mk _ _ _ (den_ne y) (hy.de.le (by omega)))) (pgs_cons (pg_name (i := 2) G.nd rfl (Or.inl rfl)) (pgs_cons (pg_name (i := 3) G.nd rfl (Or.inl rfl)) pgs_nil)) rfl ?_
  refine sj_unpack [4, 5] (ds := [.int (y.num /. (x.den : Int)).num, .int ((y.num /. (x.den : Int)).den : Int)]) G.calm (ej_call c_reduced (G.le (by decide)) (aj_cons (ej_at (ej_dat (d := fq y) 1)) (aj_cons (ej_at (ej_dat (d := fq x) 0)) aj_nil)) (R_reduced.mk _ _ _ (den_ne x) (hx.de.le (by omega)))) (pgs_cons (pg_name (i := 4) G.nd rfl (Or.inl rfl)) (pgs_cons (pg_name (i := 5) G.nd rfl (Or.inl rfl)) pgs_nil)) rfl ?_
  exact sj_ret (ej_tupD (ad_cons (ej_mul (ej_dat 2) (ej_dat 4) (cmz b1 b3)) (ad_cons (ej_mul (ej_dat 5) (ej_dat 3) (cmz b4 b2)) ad_nil)) (Nat.le_of_ble_eq_true rfl)) ⟨mul_by x y, rfl⟩

abbrev s_over : Stmt := topS 8
theorem sc_over : FnScope ["one", "other", "n", "d"] ["one", "other"] (defScope s_over) := ⟨rfl, rfl, rfl, by decide +kernel, rfl, by decide +kernel, by decide +kernel⟩

theorem c_of_over (c_times : Cal P w K mg base "times" 4 (R_two (· * ·))) (T : At K mg "over" s_over ["one", "other"]) : Cal P w K mg base "over" 5 R_over :=
  cal_at T sc_over (by rintro _ _ _ _ ⟨⟩; rfl) fun f cd0 A out s H E G Γ B r B' hR => by
  obtain ⟨n, d, m, c, x, y, B, hx, hy, h1, h2, h3, h0⟩ := hR
  refine sj_unpack [2, 3] (ds := [.int y.num, .int (y.den : Int)]) G.calm (ej_dat (d := fq y) 1) (pgs_cons (pg_name (i := 2) G.nd rfl (Or.inl rfl)) (pgs_cons (pg_name (i := 3) G.nd rfl (Or.inl rfl)) pgs_nil)) rfl ?_
  refine sj_ret (ej_call c_times (G.le (by decide)) (aj_cons (ej_dat 0) (aj_cons (ej_if (d := .da (fq y⁻¹)) (tj_lt (ej_dat 2) ej_int) (fun h => ?_) (fun h => ?_)) aj_nil)) (R_two.mk n d c m x y⁻¹ B hx (qz_inv hy h0) h1 h2 h3)) ⟨by show fq _ = fq _; rw [Rat.div_def], rfl⟩
  · exact ej_is (ej_tupD (ad_cons (ej_neg (ej_dat 3)) (ad_cons (ej_neg (ej_dat 2)) ad_nil)) (Nat.le_of_ble_eq_true rfl)) (fq_invN (of_decide_eq_true h))
  · exact ej_is (ej_tupD (ad_cons (ej_dat 3) (ad_cons (ej_dat 2) ad_nil)) (Nat.le_of_ble_eq_true rfl)) (fq_invP h0 (of_decide_eq_false h))

abbrev s_size_of : Stmt := topS 9
theorem sc_size_of : FnScope ["one"] ["one"] (defScope s_size_of) := ⟨rfl, rfl, rfl, by decide +kernel, rfl, by decide +kernel, by decide +kernel⟩

theorem c_of_size_of (m_abs : mg "abs" = none) (T : At K mg "size_of" s_size_of ["one"]) : Cal P w K mg base "size_of" 4 (R_one fun x => fq (absQ x)) :=
  cal_at T sc_size_of (by rintro _ _ _ _ ⟨⟩; rfl) fun f cd0 A out s H E G Γ B r B' hR => by
  obtain ⟨x, B⟩ := hR
  refine sj_ret (ej_tupD (ad_cons (ej_abs m_abs (ej_at (ej_dat 0))) (ad_cons (ej_at (ej_dat 0)) ad_nil)) (Nat.le_of_ble_eq_true rfl)) ⟨?_, rfl⟩
  unfold fq
  rw [(absQ_num x).1, (absQ_num x).2]

abbrev s_power_of : Stmt := topS 10
theorem sc_power_of : FnScope ["base", "e"] ["base", "e"] (defScope s_power_of) := ⟨rfl, rfl, rfl, by decide +kernel, rfl, by decide +kernel, by decide +kernel⟩

theorem c_of_power_of (c_integer_power : Cal P w K mg base "integer_power" 4 R_pow) (T : At K mg "power_of" s_power_of ["base", "e"]) : Cal P w K mg base "power_of" 5 R_power_of :=
  cal_at T sc_power_of (by rintro _ _ _ _ ⟨⟩; rfl) fun f cd0 A out s H E G Γ B r B' hR => by
  obtain ⟨b, e, B, h0, hb, h1, h2⟩ := hR
  refine sj_when (tj_lt (ej_dat 1) ej_int) (fun h => ?_) (fun h => ?_)
  · have he : e < 0 := of_decide_eq_true h
    have hn : -e = ((-e).toNat : Int) := by omega
    refine sj_ret (ej_tupD (ad_cons ej_int (ad_cons (ej_call c_integer_power (G.le (by decide)) (aj_cons (ej_dat 0) (aj_cons (ej_is (ej_neg (ej_dat 1)) (congrArg PyData.int hn)) aj_nil)) (R_pow.mk b (-e).toNat B hb (by omega))) ad_nil)) (Nat.le_of_ble_eq_true rfl)) ⟨?_, rfl⟩
    unfold pw
    rw [if_pos he, fq_inv (Nat.pow_pos h0)]
  · have he : ¬ e < 0 := of_decide_eq_false h
    have hn : e = (e.toNat : Int) := by omega
    refine sj_ret (ej_tupD (ad_cons (ej_call c_integer_power (G.le (by decide)) (aj_cons (ej_dat 0) (aj_cons (ej_is (ej_dat 1) (congrArg PyData.int hn)) aj_nil)) (R_pow.mk b e.toNat B hb (by omega))) (ad_cons ej_int ad_nil)) (Nat.le_of_ble_eq_true rfl)) ⟨?_, rfl⟩
    unfold pw
    rw [if_neg he, fq_nat]


abbrev s_compared : Stmt := topS 11
theorem sc_compared : FnScope ["one", "other", "left", "right"] ["one", "other"] (defScope s_compared) := ⟨rfl, rfl, rfl, by decide +kernel, rfl, by decide +kernel, by decide +kernel⟩

theorem c_of_compared (T : At K mg "compared" s_compared ["one", "other"]) : Cal P w K mg base "compared" 4 R_cmp :=
  cal_at T sc_compared (by rintro _ _ _ _ ⟨⟩; rfl) fun f cd0 A out s H E G Γ B r B' hR => by
  obtain ⟨n, d, m, c, x, y, B, hx, hy, h1, h2⟩ := hR
  refine sj_par 2 3 G.nd G.calm (aj_cons (ej_mul (ej_at (ej_dat 0)) (ej_at (ej_dat 1)) (cmz hx.nu hy.de)) (aj_cons (ej_mul (ej_at (ej_dat 1)) (ej_at (ej_dat 0)) (cmz hy.nu hx.de)) aj_nil)) ?_ (by decide) (by rfl)
  refine sj_when (tj_lt (ej_dat 2) (ej_dat 3)) (fun h => ?_) (fun h => ?_)
  · have h1 : x < y := (Rat.lt_iff x y).mpr (of_decide_eq_true h)
    exact sj_ret (ej_neg ej_int) ⟨by unfold cmp; rw [if_pos h1], rfl⟩
  · have h1 : ¬ x < y := fun z => of_decide_eq_false h ((Rat.lt_iff x y).mp z)
    refine sj_ret (ej_ifI (tj_gt (ej_dat 2) (ej_dat 3)) (fun _ => ej_int) fun _ => ej_int) ⟨?_, rfl⟩
    unfold cmp
    rw [if_neg h1]
    by_cases h2 : y < x
    · rw [if_pos h2, decide_eq_true ((Rat.lt_iff y x).mp h2)]; rfl
    · rw [if_neg h2, decide_eq_false fun z => h2 ((Rat.lt_iff y x).mpr z)]; rfl

abbrev s_sign_of_fraction : Stmt := topS 12
theorem sc_sign_of_fraction : FnScope ["one"] ["one"] (defScope s_sign_of_fraction) := ⟨rfl, rfl, rfl, by decide +kernel, rfl, by decide +kernel, by decide +kernel⟩

theorem c_of_sign_of_fraction (T : At K mg "sign_of_fraction" s_sign_of_fraction ["one"]) : Cal P w K mg base "sign_of_fraction" 4 (R_one fun x => .int (sgn x)) :=
  cal_at T sc_sign_of_fraction (by rintro _ _ _ _ ⟨⟩; rfl) fun f cd0 A out s H E G Γ B r B' hR => by
  obtain ⟨x, B⟩ := hR
  refine sj_ret (ej_ifI (tj_lt (ej_at (ej_dat 0)) ej_int) (fun _ => ej_int) fun _ => ej_int) ⟨?_, rfl⟩
  unfold sgn
  by_cases h : x.num < 0
  · rw [if_pos h, decide_eq_true h]; rfl
  · rw [if_neg h, decide_eq_false h]; rfl

abbrev s_part_of : Stmt := topS 13
theorem sc_part_of : FnScope ["left", "whole"] ["left", "whole"] (defScope s_part_of) := ⟨rfl, rfl, rfl, by decide +kernel, rfl, by decide +kernel, by decide +kernel⟩

theorem c_of_part_of (T : At K mg "part_of" s_part_of ["left", "whole"]) : Cal P w K mg base "part_of" 4 R_part :=
  cal_at T sc_part_of (by rintro _ _ _ _ ⟨⟩; rfl) fun f cd0 A out s H E G Γ B r B' hR => by
  obtain ⟨l, m, B, n, hl, hn⟩ := hR
  have cm2 : CMulW 2 l := cm (n := 2) (by unfold Bd; decide) hl (by omega)
  refine sj_when (tj_eqI G.hu (ej_dat 0) ej_int) (fun h => ?_) (fun h => ?_)
  · exact sj_ret ej_int ⟨by unfold pt; rw [if_pos (of_decide_eq_true h)], rfl⟩
  · refine sj_when (tj_lt (ej_mul ej_int (ej_dat 0) cm2) (ej_dat 1)) (fun h2 => ?_) (fun h2 => ?_)
    · exact sj_ret ej_int ⟨by unfold pt; rw [if_neg (of_decide_eq_false h), if_pos (of_decide_eq_true h2)], rfl⟩
    · refine sj_ret (ej_ifI (tj_eqI G.hu (ej_mul ej_int (ej_dat 0) cm2) (ej_dat 1)) (fun _ => ej_int) fun _ => ej_int) ⟨?_, rfl⟩
      unfold pt
      rw [if_neg (of_decide_eq_false h), if_neg (of_decide_eq_false h2)]
      by_cases h3 : 2 * l = m
      · rw [if_pos h3, decide_eq_true h3]; rfl
      · rw [if_neg h3, decide_eq_false h3]; rfl

abbrev s_is_taken_outward : Stmt := topS 14
theorem sc_is_taken_outward : FnScope ["way", "s", "c", "part"] ["way", "s", "c", "part"] (defScope s_is_taken_outward) := ⟨rfl, rfl, rfl, by decide +kernel, rfl, by decide +kernel, by decide +kernel⟩

theorem c_of_is_taken_outward (T : At K mg "is_taken_outward" s_is_taken_outward ["way", "s", "c", "part"]) : Cal P w K mg base "is_taken_outward" 4 R_outw :=
  cal_at T sc_is_taken_outward (by rintro _ _ _ _ ⟨⟩; rfl) fun f cd0 A out s H E G Γ B r B' hR => by
  obtain ⟨way, s, c, part, B⟩ := hR
  refine sj_when (tj_w (wj_or (tj_eqI G.hu (ej_dat 3) ej_int) fun _ => (wj_or1 (tj_eqS (ej_dat 0) ej_str)))) (fun h => ?_) (fun h => ?_)
  · have h : part = 0 ∨ way = "zero" := by simpa using h
    exact sj_ret ej_bl ⟨by unfold outw; rw [if_pos h], rfl⟩
  · have h : ¬ (part = 0 ∨ way = "zero") := by simpa using h
    unfold outw
    rw [if_neg h]
    refine sj_when (tj_eqS (ej_dat 0) ej_str) (fun h => ?_) (fun h => ?_)
    · exact sj_ret (ej_eqI G.hu (ej_dat 1) ej_int) ⟨by rw [if_pos (of_decide_eq_true h)], rfl⟩
    · rw [if_neg (of_decide_eq_false h)]
      refine sj_when (tj_eqS (ej_dat 0) ej_str) (fun h => ?_) (fun h => ?_)
      · exact sj_ret (ej_eqI G.hu (ej_dat 1) ej_int) ⟨by rw [if_pos (of_decide_eq_true h)], rfl⟩
      · rw [if_neg (of_decide_eq_false h)]
        refine sj_when (tj_eqI G.hu (ej_dat 3) ej_int) (fun h => ?_) (fun h => ?_)
        · exact sj_ret (ej_or (ej_eqS (ej_dat 0) ej_str) fun _ => (ej_one (ej_eqI G.hu (ej_mod (ej_dat 2) ej_int (by decide)) ej_int))) ⟨by rw [if_pos (of_decide_eq_true h)], rfl⟩
        · exact sj_ret (ej_eqI G.hu (ej_dat 3) ej_int) ⟨by rw [if_neg (of_decide_eq_false h)], rfl⟩

abbrev s_power_below : Stmt := topS 15
theorem sc_power_below : FnScope ["base", "one", "n", "d"] ["base", "one"] (defScope s_power_below) := ⟨rfl, rfl, rfl, by decide +kernel, rfl, by decide +kernel, by decide +kernel⟩

theorem c_of_power_below (c_u_power_within : Cal P w K mg base "_power_within" 4 R_within) (T : At K mg "power_below" s_power_below ["base", "one"]) : Cal P w K mg base "power_below" 5 R_pbelow :=
  cal_at T sc_power_below (by rintro _ _ _ _ ⟨⟩; rfl) fun f cd0 A out s H E G Γ B r B' hR => by
  obtain ⟨b, q, k, n, d, B, h2, h0, hq, hn, hd, h1, h3⟩ := hR
  have hn0 : 0 < q.num := by
    have : 0 ≤ q.num := Rat.num_nonneg.mpr (Rat.le_of_lt h0)
    have : q.num ≠ 0 := fun z => absurd h0 (by rw [Rat.num_eq_zero.mp z]; decide)
    omega
  have hd0 := den_pos q
  have eN : q.num = (q.num.toNat : Int) := by omega
  refine sj_unpack [2, 3] G.calm (ej_dat (d := .tuple [.int q.num, .int (q.den : Int)]) 1) (pgs_cons (pg_name (i := 2) G.nd rfl (Or.inl rfl)) (pgs_cons (pg_name (i := 3) G.nd rfl (Or.inl rfl)) pgs_nil)) rfl ?_
  refine sj_when (tj_ge (ej_dat 2) (ej_dat 3)) (fun h => ?_) (fun h => ?_)
  · have hge : (q.den : Int) ≤ q.num := of_decide_eq_true h
    have hk : 0 ≤ k := by
      refine Decidable.byContradiction fun hk => ?_
      have h4 : pw b (k + 1) ≤ pw b 0 := pw_mono h2 (by omega)
      rw [show (0 : Int) = ((0 : Nat) : Int) - (0 : Nat) by omega] at h4
      have := (lt_pw_iff h2 q 0 0).mp (ltle h3 h4)
      rw [Nat.pow_zero] at this; omega
    have ek : k = (k.toNat : Int) := by omega
    have a1 := (pw_le_iff h2 q 0 k.toNat).mp (by rw [show ((k.toNat : Nat) : Int) - (0 : Nat) = k by omega]; exact h1)
    have a3 := (lt_pw_iff h2 q 0 (k.toNat + 1)).mp (by rw [show ((k.toNat + 1 : Nat) : Int) - (0 : Nat) = k + 1 by omega]; exact h3)
    rw [Nat.pow_zero, eN] at a1 a3
    have b1 : q.den * b ^ k.toNat ≤ q.num.toNat := by
      have : ((q.den * b ^ k.toNat : Nat) : Int) ≤ (q.num.toNat : Int) := by rw [Int.natCast_mul]; omega
      omega
    have b3 : q.num.toNat < q.den * b ^ (k.toNat + 1) := by
      have : (q.num.toNat : Int) < ((q.den * b ^ (k.toNat + 1) : Nat) : Int) := by rw [Int.natCast_mul]; omega
      omega
    have hq2 := hq.nu
    have hw : q.num.toNat / q.den < 2 ^ 8900 := by
      unfold Bd at hq2
      have : 2 ^ n ≤ 2 ^ 8900 := Nat.pow_le_pow_right (by decide) hn
      exact Nat.lt_of_le_of_lt (Nat.div_le_self _ _) (by omega)
    have ew : q.num / (q.den : Int) = ((q.num.toNat / q.den : Nat) : Int) := by rw [Int.natCast_ediv, ← eN]
    rw [ek]
    refine sj_ret (ej_call c_u_power_within (G.le (by decide)) (aj_cons (ej_dat 0) (aj_cons (ej_is (ej_fdiv (ej_dat 2) (ej_dat 3) (cdv hq.de hd0 (by omega))) (congrArg PyData.int ew)) aj_nil)) (R_within.mk b _ k.toNat B h2 hw ?_ ?_)) ⟨rfl, rfl⟩
    · exact (Nat.le_div_iff_mul_le q.den_pos).mpr (by rw [Nat.mul_comm]; exact b1)
    · exact (Nat.div_lt_iff_lt_mul q.den_pos).mpr (by rw [Nat.mul_comm]; exact b3)
  · have hlt : q.num < (q.den : Int) := by have := of_decide_eq_false h; omega
    have hk : k < 0 := by
      refine Decidable.byContradiction fun hk => ?_
      have h4 : pw b 0 ≤ pw b k := pw_mono h2 (by omega)
      rw [show (0 : Int) = ((0 : Nat) : Int) - (0 : Nat) by omega] at h4
      have := (pw_le_iff h2 q 0 0).mp (Rat.le_trans h4 h1)
      rw [Nat.pow_zero] at this; omega
    generalize hm : (-1 - k).toNat = m
    have ek : k = -1 - (m : Int) := by omega
    have a1 := (pw_le_iff h2 q (m + 1) 0).mp (by rw [show ((0 : Nat) : Int) - (m + 1 : Nat) = k by omega]; exact h1)
    have a3 := (lt_pw_iff h2 q m 0).mp (by rw [show ((0 : Nat) : Int) - (m : Nat) = k + 1 by omega]; exact h3)
    rw [Nat.pow_zero, eN] at a1 a3
    have b1 : q.den ≤ q.num.toNat * b ^ (m + 1) := by
      have : (q.den : Int) ≤ ((q.num.toNat * b ^ (m + 1) : Nat) : Int) := by rw [Int.natCast_mul]; omega
      omega
    have b3 : q.num.toNat * b ^ m < q.den := by
      have : ((q.num.toNat * b ^ m : Nat) : Int) < (q.den : Int) := by rw [Int.natCast_mul]; omega
      omega
    have hq2 := hq.de
    have hn1 : 0 < q.num.toNat := by omega
    have hw : (q.den - 1) / q.num.toNat < 2 ^ 8900 := by
      unfold Bd at hq2
      rw [Int.natAbs_natCast] at hq2
      have : 2 ^ d ≤ 2 ^ 8900 := Nat.pow_le_pow_right (by decide) hd
      exact Nat.lt_of_le_of_lt (Nat.div_le_self _ _) (by omega)
    have ew : ((q.den : Int) - 1) / q.num = (((q.den - 1) / q.num.toNat : Nat) : Int) := by
      rw [Int.natCast_ediv, ← eN]; congr 1; have := q.den_pos; omega
    rw [ek]
    refine sj_ret (ej_sub (ej_neg ej_int) (ej_call c_u_power_within (G.le (by decide)) (aj_cons (ej_dat 0) (aj_cons (ej_is (ej_fdiv (ej_sub (ej_dat 3) ej_int) (ej_dat 2) (cdv hq.nu hn0 (by omega))) (congrArg PyData.int ew)) aj_nil)) (R_within.mk b _ m B h2 hw ?_ ?_))) ⟨rfl, rfl⟩
    · exact (Nat.le_div_iff_mul_le hn1).mpr (by rw [Nat.mul_comm]; omega)
    · exact (Nat.div_lt_iff_lt_mul hn1).mpr (by rw [Nat.mul_comm]; omega)

abbrev s_u_power_within : Stmt := topS 16
theorem sc_u_power_within : FnScope ["base", "whole", "squares", "power", "k", "left", "square"] ["base", "whole"] (defScope s_u_power_within) := ⟨rfl, rfl, rfl, by decide +kernel, rfl, by decide +kernel, by decide +kernel⟩

theorem c_of_u_power_within (m_rev : mg "reversed" = none) (T : At K mg "_power_within" s_u_power_within ["base", "whole"]) : Cal P w K mg base "_power_within" 4 R_within :=
  cal_at T sc_u_power_within (by rintro _ _ _ _ ⟨⟩; rfl) fun f cd0 A out s H E G Γ B r B' hR => by
  obtain ⟨b, wh, k0, B, h2, hw, h1, h3⟩ := hR
  refine sj_own 2 G.nd (fj_lstD ad_nil (by decide)) (by exact Nat.le_of_ble_eq_true rfl) ?_
  refine ow_set 3 G.nd (by decide) (ej_dat 0) ?_
  refine ow_while (fun Γ' B' acc => ∃ j : Nat, Γ' = [.da (.int b), .da (.int wh), .no, .da (.int ((b ^ 2 ^ j : Nat) : Int)), .no, .no, .no] ∧ B' = B ∧ acc = sqs b j ∧ ∀ i, i < j → b ^ 2 ^ i ≤ wh) (fun Γ' _ _ => (wh + 1 : Nat) - (intAt Γ' 3).toNat)
    ⟨0, by rw [Nat.pow_zero, Nat.pow_one]; rfl, rfl, rfl, fun i hi => absurd hi (by omega)⟩ ?_
  rintro Γ' B' acc ⟨j, rfl, rfl, rfl, hj⟩
  have hj14 := few_sq h2 hw hj
  refine ⟨_, tj_le (ej_dat 3) (ej_dat 1), fun h => ?_, fun h => ?_⟩
  · have hle : b ^ 2 ^ j ≤ wh := by have := of_decide_eq_true h; omega
    have hbd : Bd 8900 ((b ^ 2 ^ j : Nat) : Int) := Bd.nat (Nat.lt_of_le_of_lt hle hw)
    refine ow_app G.nd (ej_dat 3) (by rw [sqs_len]; omega) ?_
    refine ow_set 3 G.nd (by decide) (ej_mul (ej_dat 3) (ej_dat 3) (cmz hbd hbd)) (ow_nil ⟨⟨j + 1, ?_, rfl, sqs_succ b j, fun i hi => ?_⟩, ?_⟩)
    · rw [sq_next]; rfl
    · by_cases e : i = j
      · subst e; exact hle
      · exact hj i (by omega)
    · show (wh + 1 : Nat) - (((b ^ 2 ^ j : Nat) : Int) * ((b ^ 2 ^ j : Nat) : Int)).toNat < (wh + 1 : Nat) - (((b ^ 2 ^ j : Nat) : Int)).toNat
      rw [sq_next, Int.toNat_natCast, Int.toNat_natCast]
      have : b ^ 2 ^ j < b ^ 2 ^ (j + 1) := Nat.pow_lt_pow_right (by omega) (Nat.pow_lt_pow_right (by decide) (by omega))
      omega
  · have hgt : wh < b ^ 2 ^ j := by have := of_decide_eq_false h; omega
    have w1 : 1 ≤ wh := Nat.le_trans (Nat.pow_pos (by omega)) h1
    refine ow_end ?_
    refine sj_par 4 5 G.nd G.calm (aj_cons ej_int (aj_cons (ej_dat 1) aj_nil)) ?_ (by decide) (by rfl)
    refine sj_forRev (ds := sqs b j) 6 G.nd G.calm m_rev (fun i Γ' B2 => ∃ (k l : Nat) (z : VD), Γ' = [.da (.int b), .da (.int wh), .da (.list (sqs b j)), .da (.int ((b ^ 2 ^ j : Nat) : Int)), .da (.int k), .da (.int l), z] ∧ B2 = B' ∧
      l = wh / b ^ (k * 2 ^ (j - i)) ∧ l < b ^ 2 ^ (j - i) ∧ 1 ≤ l) (ej_dat 2) ⟨0, wh, .no, rfl, rfl, by rw [Nat.zero_mul, Nat.pow_zero, Nat.div_one], hgt, w1⟩ (fun i y Γ' B2 hi hy hP => ?_) (fun Γ' B2 hP => ?_)
    · obtain ⟨k, l, z, rfl, rfl, e1, e2, e3⟩ := hP
      rw [sqs_len] at hi hy
      obtain rfl := sqs_at hy
      have em : j - i = (j - 1 - i) + 1 := by omega
      have em' : j - (i + 1) = j - 1 - i := by omega
      rw [em] at e1 e2
      have hbs : Bd 8900 ((b ^ 2 ^ (j - 1 - i) : Nat) : Int) := Bd.nat (Nat.lt_of_le_of_lt (hj _ (by omega)) hw)
      have hps : 0 < b ^ 2 ^ (j - 1 - i) := Nat.pow_pos (by omega)
      refine sj_set 4 G.nd (ej_mulC ej_int (ej_dat 4) (.inl (by decide))) ?_
      refine sj_ifM (fun Γ3 B3 => ∃ (k l : Nat) (z : VD), Γ3 = [.da (.int b), .da (.int wh), .da (.list (sqs b j)), .da (.int ((b ^ 2 ^ j : Nat) : Int)), .da (.int k), .da (.int l), z] ∧ B3 = B2 ∧
        l = wh / b ^ (k * 2 ^ (j - (i + 1))) ∧ l < b ^ 2 ^ (j - (i + 1)) ∧ 1 ≤ l) (tj_le (ej_dat 6) (ej_dat 5)) (fun h => ?_) (fun h => ?_) (fun Γ3 B3 q => sj_nil q)
      · have hs : b ^ 2 ^ (j - 1 - i) ≤ l := by have := of_decide_eq_true h; omega
        obtain ⟨q1, q2, q3⟩ := step_yes h2 e1 e2 e3 hs
        refine sj_set 4 G.nd (ej_add (ej_dat 4) ej_int) ?_
        refine sj_set 5 G.nd (ej_fdiv (ej_dat 5) (ej_dat 6) (cdv hbs (by omega))) (sj_nil ?_)
        rw [em']
        exact ⟨2 * k + 1, l / b ^ 2 ^ (j - 1 - i), _, by rw [← Int.natCast_ediv]; rfl, rfl, q1, q2, q3⟩
      · have hs : ¬ b ^ 2 ^ (j - 1 - i) ≤ l := by have := of_decide_eq_false h; omega
        obtain ⟨q1, q2⟩ := step_no (k := k) e1 hs
        refine sj_nil ?_
        rw [em']
        exact ⟨2 * k, l, _, rfl, rfl, q1, q2, e3⟩
    · obtain ⟨k, l, z, rfl, rfl, e1, e2, e3⟩ := hP
      rw [sqs_len, Nat.sub_self] at e1 e2
      obtain ⟨q1, q2⟩ := log_end h2 e1 e2 e3
      obtain rfl := pow_uniq h2 q1 q2 h1 h3
      exact sj_ret (ej_dat 4) ⟨rfl, rfl⟩

abbrev s_u_twos_in : Stmt := topS 17
theorem sc_u_twos_in : FnScope ["n"] ["n"] (defScope s_u_twos_in) := ⟨rfl, rfl, rfl, by decide +kernel, rfl, by decide +kernel, by decide +kernel⟩

theorem c_of_u_twos_in (T : At K mg "_twos_in" s_u_twos_in ["n"]) : Cal P w K mg base "_twos_in" 1 R_twos :=
  cal_at T sc_u_twos_in (by rintro _ _ _ _ ⟨⟩; rfl) fun f cd0 A out s H E G Γ B r B' hR => by
  obtain ⟨k, a, B⟩ := hR
  exact sj_ret (ej_sub (ej_bits (ej_band (ej_dat 0) (ej_neg (ej_dat 0)))) ej_int) ⟨by rw [tw_low, bits_two], rfl⟩

abbrev s_reached : Stmt := topS 21
theorem sc_reached : FnScope ["word", "reaches", "one", "other", "chosen"] ["word", "reaches"] (defScope s_reached) := ⟨rfl, rfl, rfl, by decide +kernel, rfl, by decide +kernel, by decide +kernel⟩

theorem c_of_reached /-H-/ (c_u_sums : Cal P w K mg base "_sums" 6 (R_r2 sumsX)) (c_u_opposites : Cal P w K mg base "_opposites" 4 (R_r1 oppsX)) (c_products : Cal P w K mg base "products" 7 (R_r2 prodX)) (c_u_sizes : Cal P w K mg base "_sizes" 7 (R_r1 sizX)) (c_least_of : Cal P w K mg base "least_of" 6 (R_xl minLD)) (c_greatest_of : Cal P w K mg base "greatest_of" 6 (R_xl maxLD)) /-E-/ (T : At K mg "reached" s_reached ["word", "reaches"]) : Cal P w K mg base "reached" 8 R_reached :=
  cal_at T sc_reached (by rintro _ _ _ _ ⟨⟩; rfl) fun f cd0 A out s0 H E0 G Γ B r B' hR => by
  obtain ⟨w, L, r, N, B, h, hL⟩ := hR
  cases h with
  | add a b =>
    have ha := hL a (by simp)
    have hb := hL b (by simp)
    refine sj_par 2 3 G.nd G.calm (d1 := .da (rD a)) (d2 := .da (rD b)) (aj_cons (ej_atL (ej_dat (d := .list [rD a, rD b]) 1) (by rfl)) (aj_cons (ej_ixL (ej_dat (d := .list [rD a, rD b]) 1) (ej_neg ej_int) (by rfl) fun _ _ => rfl) aj_nil)) ?_ (by decide) (by rfl)
    refine sj_when (x := true) (tj_is (tj_eqS (ej_dat 0) ej_str) (by decide)) (fun _ => ?_) (fun h => Bool.noConfusion h)
    exact sj_ret (ej_call c_u_sums (G.le (by decide)) (aj_cons (ej_dat (d := rD a) 2) (aj_cons (ej_dat (d := rD b) 3) aj_nil)) (R_r2.mk a b 3040 2341 3040 2341 B ha.b1 ha.b2 hb.b1 hb.b2 (by decide) (by decide) (by decide) ⟨by decide, by decide⟩)) ⟨rfl, rfl⟩
  | take a b =>
    have ha := hL a (by simp)
    have hb := hL b (by simp)
    refine sj_par 2 3 G.nd G.calm (d1 := .da (rD a)) (d2 := .da (rD b)) (aj_cons (ej_atL (ej_dat (d := .list [rD a, rD b]) 1) (by rfl)) (aj_cons (ej_ixL (ej_dat (d := .list [rD a, rD b]) 1) (ej_neg ej_int) (by rfl) fun _ _ => rfl) aj_nil)) ?_ (by decide) (by rfl)
    refine sj_when (x := false) (tj_is (tj_eqS (ej_dat 0) ej_str) (by decide)) (fun h => Bool.noConfusion h) (fun _ => ?_)
    refine sj_when (x := true) (tj_is (tj_eqS (ej_dat 0) ej_str) (by decide)) (fun _ => ?_) (fun h => Bool.noConfusion h)
    exact sj_ret (ej_call c_u_sums (G.le (by decide)) (aj_cons (ej_dat (d := rD a) 2) (aj_cons (ej_call c_u_opposites (G.le (by decide)) (aj_cons (ej_dat (d := rD b) 3) aj_nil) (R_r1.mk b 3040 2341 B hb.b1 hb.b2 hb.le (by decide) (by decide) ⟨by decide, by decide⟩)) aj_nil)) (R_r2.mk a (oppsX b) 3040 2341 3040 2341 B ha.b1 ha.b2 (Xe.neg_bd hb.b2) (Xe.neg_bd hb.b1) (by decide) (by decide) (by decide) ⟨by decide, by decide⟩)) ⟨rfl, rfl⟩
  | times a b =>
    have ha := hL a (by simp)
    have hb := hL b (by simp)
    refine sj_par 2 3 G.nd G.calm (d1 := .da (rD a)) (d2 := .da (rD b)) (aj_cons (ej_atL (ej_dat (d := .list [rD a, rD b]) 1) (by rfl)) (aj_cons (ej_ixL (ej_dat (d := .list [rD a, rD b]) 1) (ej_neg ej_int) (by rfl) fun _ _ => rfl) aj_nil)) ?_ (by decide) (by rfl)
    refine sj_when (x := false) (tj_is (tj_eqS (ej_dat 0) ej_str) (by decide)) (fun h => Bool.noConfusion h) (fun _ => ?_)
    refine sj_when (x := false) (tj_is (tj_eqS (ej_dat 0) ej_str) (by decide)) (fun h => Bool.noConfusion h) (fun _ => ?_)
    refine sj_when (x := true) (tj_is (tj_eqS (ej_dat 0) ej_str) (by decide)) (fun _ => ?_) (fun h => Bool.noConfusion h)
    exact sj_ret (ej_call c_products (G.le (by decide)) (aj_cons (ej_dat (d := rD a) 2) (aj_cons (ej_dat (d := rD b) 3) aj_nil)) (R_r2.mk a b 3040 2341 3040 2341 B ha.b1 ha.b2 hb.b1 hb.b2 (by decide) (by decide) (by decide) ⟨by decide, by decide⟩)) ⟨rfl, rfl⟩
  | fused a b c =>
    have ha := hL a (by simp)
    have hb := hL b (by simp)
    have hc := hL c (by simp)
    refine sj_par 2 3 G.nd G.calm (d1 := .da (rD a)) (d2 := .da (rD c)) (aj_cons (ej_atL (ej_dat (d := .list [rD a, rD b, rD c]) 1) (by rfl)) (aj_cons (ej_ixL (ej_dat (d := .list [rD a, rD b, rD c]) 1) (ej_neg ej_int) (by rfl) fun _ _ => rfl) aj_nil)) ?_ (by decide) (by rfl)
    refine sj_when (x := false) (tj_is (tj_eqS (ej_dat 0) ej_str) (by decide)) (fun h => Bool.noConfusion h) (fun _ => ?_)
    refine sj_when (x := false) (tj_is (tj_eqS (ej_dat 0) ej_str) (by decide)) (fun h => Bool.noConfusion h) (fun _ => ?_)
    refine sj_when (x := false) (tj_is (tj_eqS (ej_dat 0) ej_str) (by decide)) (fun h => Bool.noConfusion h) (fun _ => ?_)
    refine sj_when (x := true) (tj_is (tj_eqS (ej_dat 0) ej_str) (by decide)) (fun _ => ?_) (fun h => Bool.noConfusion h)
    have pb : ∀ x ∈ prodL a b, x.bd 6080 4682 := fun x hx => by
      simp only [prodL, List.mem_cons, List.not_mem_nil, or_false] at hx
      rcases hx with rfl | rfl | rfl | rfl
      · exact Xe.mul_bd ha.b1 hb.b1 (by decide) (by decide)
      · exact Xe.mul_bd ha.b1 hb.b2 (by decide) (by decide)
      · exact Xe.mul_bd ha.b2 hb.b1 (by decide) (by decide)
      · exact Xe.mul_bd ha.b2 hb.b2 (by decide) (by decide)
    exact sj_ret (ej_call c_u_sums (G.le (by decide)) (aj_cons (ej_call c_products (G.le (by decide)) (aj_cons (ej_dat (d := rD a) 2) (aj_cons (ej_atL (ej_dat (d := .list [rD a, rD b, rD c]) 1) (by rfl)) aj_nil)) (R_r2.mk a b 3040 2341 3040 2341 B ha.b1 ha.b2 hb.b1 hb.b2 (by decide) (by decide) (by decide) ⟨by decide, by decide⟩)) (aj_cons (ej_dat (d := rD c) 3) aj_nil)) (R_r2.mk (prodX a b) c 6080 4682 3040 2341 B (pb _ (Xe.minL_mem (fun z => by cases z))) (pb _ (Xe.maxL_mem (fun z => by cases z))) hc.b1 hc.b2 (by decide) (by decide) (by decide) ⟨by decide, by decide⟩)) ⟨rfl, rfl⟩
  | opposite a =>
    have ha := hL a (by simp)
    refine sj_par 2 3 G.nd G.calm (d1 := .da (rD a)) (d2 := .da (rD a)) (aj_cons (ej_atL (ej_dat (d := .list [rD a]) 1) (by rfl)) (aj_cons (ej_ixL (ej_dat (d := .list [rD a]) 1) (ej_neg ej_int) (by rfl) fun _ _ => rfl) aj_nil)) ?_ (by decide) (by rfl)
    refine sj_when (x := false) (tj_is (tj_eqS (ej_dat 0) ej_str) (by decide)) (fun h => Bool.noConfusion h) (fun _ => ?_)
    refine sj_when (x := false) (tj_is (tj_eqS (ej_dat 0) ej_str) (by decide)) (fun h => Bool.noConfusion h) (fun _ => ?_)
    refine sj_when (x := false) (tj_is (tj_eqS (ej_dat 0) ej_str) (by decide)) (fun h => Bool.noConfusion h) (fun _ => ?_)
    refine sj_when (x := false) (tj_is (tj_eqS (ej_dat 0) ej_str) (by decide)) (fun h => Bool.noConfusion h) (fun _ => ?_)
    refine sj_when (x := true) (tj_is (tj_eqS (ej_dat 0) ej_str) (by decide)) (fun _ => ?_) (fun h => Bool.noConfusion h)
    exact sj_ret (ej_call c_u_opposites (G.le (by decide)) (aj_cons (ej_dat (d := rD a) 2) aj_nil) (R_r1.mk a 3040 2341 B ha.b1 ha.b2 ha.le (by decide) (by decide) ⟨by decide, by decide⟩)) ⟨rfl, rfl⟩
  | size a =>
    have ha := hL a (by simp)
    refine sj_par 2 3 G.nd G.calm (d1 := .da (rD a)) (d2 := .da (rD a)) (aj_cons (ej_atL (ej_dat (d := .list [rD a]) 1) (by rfl)) (aj_cons (ej_ixL (ej_dat (d := .list [rD a]) 1) (ej_neg ej_int) (by rfl) fun _ _ => rfl) aj_nil)) ?_ (by decide) (by rfl)
    refine sj_when (x := false) (tj_is (tj_eqS (ej_dat 0) ej_str) (by decide)) (fun h => Bool.noConfusion h) (fun _ => ?_)
    refine sj_when (x := false) (tj_is (tj_eqS (ej_dat 0) ej_str) (by decide)) (fun h => Bool.noConfusion h) (fun _ => ?_)
    refine sj_when (x := false) (tj_is (tj_eqS (ej_dat 0) ej_str) (by decide)) (fun h => Bool.noConfusion h) (fun _ => ?_)
    refine sj_when (x := false) (tj_is (tj_eqS (ej_dat 0) ej_str) (by decide)) (fun h => Bool.noConfusion h) (fun _ => ?_)
    refine sj_when (x := false) (tj_is (tj_eqS (ej_dat 0) ej_str) (by decide)) (fun h => Bool.noConfusion h) (fun _ => ?_)
    refine sj_when (x := true) (tj_is (tj_eqS (ej_dat 0) ej_str) (by decide)) (fun _ => ?_) (fun h => Bool.noConfusion h)
    exact sj_ret (ej_call c_u_sizes (G.le (by decide)) (aj_cons (ej_dat (d := rD a) 2) aj_nil) (R_r1.mk a 3040 2341 B ha.b1 ha.b2 ha.le (by decide) (by decide) ⟨by decide, by decide⟩)) ⟨rfl, rfl⟩
  | least a b =>
    have ha := hL a (by simp)
    have hb := hL b (by simp)
    refine sj_par 2 3 G.nd G.calm (d1 := .da (rD a)) (d2 := .da (rD b)) (aj_cons (ej_atL (ej_dat (d := .list [rD a, rD b]) 1) (by rfl)) (aj_cons (ej_ixL (ej_dat (d := .list [rD a, rD b]) 1) (ej_neg ej_int) (by rfl) fun _ _ => rfl) aj_nil)) ?_ (by decide) (by rfl)
    refine sj_when (x := false) (tj_is (tj_eqS (ej_dat 0) ej_str) (by decide)) (fun h => Bool.noConfusion h) (fun _ => ?_)
    refine sj_when (x := false) (tj_is (tj_eqS (ej_dat 0) ej_str) (by decide)) (fun h => Bool.noConfusion h) (fun _ => ?_)
    refine sj_when (x := false) (tj_is (tj_eqS (ej_dat 0) ej_str) (by decide)) (fun h => Bool.noConfusion h) (fun _ => ?_)
    refine sj_when (x := false) (tj_is (tj_eqS (ej_dat 0) ej_str) (by decide)) (fun h => Bool.noConfusion h) (fun _ => ?_)
    refine sj_when (x := false) (tj_is (tj_eqS (ej_dat 0) ej_str) (by decide)) (fun h => Bool.noConfusion h) (fun _ => ?_)
    refine sj_when (x := false) (tj_is (tj_eqS (ej_dat 0) ej_str) (by decide)) (fun h => Bool.noConfusion h) (fun _ => ?_)
    obtain ⟨fa, fd1, ps1, F1, hmf, hk1, hb1⟩ := id c_least_of
    refine sj_set 4 G.nd (d := .fn fa) (ej_ifT (tj_is (tj_eqS (ej_dat 0) ej_str) (by decide)) (ej_fn hmf)) ?_
    exact sj_ret (ej_tupD (ad_cons (ej_callV 4 c_least_of hmf rfl (G.le (by decide)) (aj_cons (ej_lstD (ad_cons (ej_at (y := a.1.d) (ej_dat (d := .tuple [a.1.d, a.2.d]) 2)) (ad_cons (ej_at (y := b.1.d) (ej_dat (d := .tuple [b.1.d, b.2.d]) 3)) ad_nil)) (Nat.le_of_ble_eq_true rfl)) aj_nil) (R_xl.mk [a.1, b.1] 3040 2341 B (fun x hx => by rcases List.mem_cons.mp hx with rfl | hx <;> first | exact ha.b1 | (rw [List.mem_singleton.mp hx]; exact hb.b1)) (fun z => by cases z) (Nat.le_of_ble_eq_true rfl) (by decide) (by decide) ⟨by decide, by decide⟩)) (ad_cons (ej_callV 4 c_least_of hmf rfl (G.le (by decide)) (aj_cons (ej_lstD (ad_cons (ej_at (y := a.2.d) (ej_dat (d := .tuple [a.1.d, a.2.d]) 2)) (ad_cons (ej_at (y := b.2.d) (ej_dat (d := .tuple [b.1.d, b.2.d]) 3)) ad_nil)) (Nat.le_of_ble_eq_true rfl)) aj_nil) (R_xl.mk [a.2, b.2] 3040 2341 B (fun x hx => by rcases List.mem_cons.mp hx with rfl | hx <;> first | exact ha.b2 | (rw [List.mem_singleton.mp hx]; exact hb.b2)) (fun z => by cases z) (Nat.le_of_ble_eq_true rfl) (by decide) (by decide) ⟨by decide, by decide⟩)) ad_nil)) (Nat.le_of_ble_eq_true rfl)) ⟨rfl, rfl⟩
  | greatest a b =>
    have ha := hL a (by simp)
    have hb := hL b (by simp)
    refine sj_par 2 3 G.nd G.calm (d1 := .da (rD a)) (d2 := .da (rD b)) (aj_cons (ej_atL (ej_dat (d := .list [rD a, rD b]) 1) (by rfl)) (aj_cons (ej_ixL (ej_dat (d := .list [rD a, rD b]) 1) (ej_neg ej_int) (by rfl) fun _ _ => rfl) aj_nil)) ?_ (by decide) (by rfl)
    refine sj_when (x := false) (tj_is (tj_eqS (ej_dat 0) ej_str) (by decide)) (fun h => Bool.noConfusion h) (fun _ => ?_)
    refine sj_when (x := false) (tj_is (tj_eqS (ej_dat 0) ej_str) (by decide)) (fun h => Bool.noConfusion h) (fun _ => ?_)
    refine sj_when (x := false) (tj_is (tj_eqS (ej_dat 0) ej_str) (by decide)) (fun h => Bool.noConfusion h) (fun _ => ?_)
    refine sj_when (x := false) (tj_is (tj_eqS (ej_dat 0) ej_str) (by decide)) (fun h => Bool.noConfusion h) (fun _ => ?_)
    refine sj_when (x := false) (tj_is (tj_eqS (ej_dat 0) ej_str) (by decide)) (fun h => Bool.noConfusion h) (fun _ => ?_)
    refine sj_when (x := false) (tj_is (tj_eqS (ej_dat 0) ej_str) (by decide)) (fun h => Bool.noConfusion h) (fun _ => ?_)
    obtain ⟨fa, fd1, ps1, F1, hmf, hk1, hb1⟩ := id c_greatest_of
    refine sj_set 4 G.nd (d := .fn fa) (ej_ifF (tj_is (tj_eqS (ej_dat 0) ej_str) (by decide)) (ej_fn hmf)) ?_
    exact sj_ret (ej_tupD (ad_cons (ej_callV 4 c_greatest_of hmf rfl (G.le (by decide)) (aj_cons (ej_lstD (ad_cons (ej_at (y := a.1.d) (ej_dat (d := .tuple [a.1.d, a.2.d]) 2)) (ad_cons (ej_at (y := b.1.d) (ej_dat (d := .tuple [b.1.d, b.2.d]) 3)) ad_nil)) (Nat.le_of_ble_eq_true rfl)) aj_nil) (R_xl.mk [a.1, b.1] 3040 2341 B (fun x hx => by rcases List.mem_cons.mp hx with rfl | hx <;> first | exact ha.b1 | (rw [List.mem_singleton.mp hx]; exact hb.b1)) (fun z => by cases z) (Nat.le_of_ble_eq_true rfl) (by decide) (by decide) ⟨by decide, by decide⟩)) (ad_cons (ej_callV 4 c_greatest_of hmf rfl (G.le (by decide)) (aj_cons (ej_lstD (ad_cons (ej_at (y := a.2.d) (ej_dat (d := .tuple [a.1.d, a.2.d]) 2)) (ad_cons (ej_at (y := b.2.d) (ej_dat (d := .tuple [b.1.d, b.2.d]) 3)) ad_nil)) (Nat.le_of_ble_eq_true rfl)) aj_nil) (R_xl.mk [a.2, b.2] 3040 2341 B (fun x hx => by rcases List.mem_cons.mp hx with rfl | hx <;> first | exact ha.b2 | (rw [List.mem_singleton.mp hx]; exact hb.b2)) (fun z => by cases z) (Nat.le_of_ble_eq_true rfl) (by decide) (by decide) ⟨by decide, by decide⟩)) ad_nil)) (Nat.le_of_ble_eq_true rfl)) ⟨rfl, rfl⟩

abbrev s_products : Stmt := topS 22
theorem sc_products : FnScope ["one", "other", "found", "x", "y"] ["one", "other"] (defScope s_products) := ⟨rfl, rfl, rfl, by decide +kernel, rfl, by decide +kernel, by decide +kernel⟩

theorem c_of_products /-H-/ (c_u_ends : Cal P w K mg base "_ends" 5 R_ends) (c_least_of : Cal P w K mg base "least_of" 6 (R_xl minLD)) (c_greatest_of : Cal P w K mg base "greatest_of" 6 (R_xl maxLD)) (c_u_product : Cal P w K mg base "_product" 5 (R_x2 Xe.mul)) /-E-/ (T : At K mg "products" s_products ["one", "other"]) : Cal P w K mg base "products" 7 (R_r2 prodX) :=
  cal_at T sc_products (by rintro _ _ _ _ ⟨⟩; rfl) fun f cd0 A out s0 H E0 G Γ B r B' hR => by
  obtain ⟨a, b, n, d, m, c, B, a1, a2, b1, b2, h1, h2, h3, h0⟩ := hR
  have ea : ∀ x ∈ Xe.ends a.1 a.2, x.bd n d := fun x hx => by
    unfold Xe.ends at hx
    split at hx <;> simp only [List.mem_cons, List.not_mem_nil, or_false] at hx
    · rw [hx]; exact a1
    · rcases hx with rfl | rfl <;> assumption
  have eb : ∀ x ∈ Xe.ends b.1 b.2, x.bd m c := fun x hx => by
    unfold Xe.ends at hx
    split at hx <;> simp only [List.mem_cons, List.not_mem_nil, or_false] at hx
    · rw [hx]; exact b1
    · rcases hx with rfl | rfl <;> assumption
  have la : ∀ a : Xe × Xe, (Xe.ends a.1 a.2).length ≤ 2 ∧ Xe.ends a.1 a.2 ≠ [] := fun a => by unfold Xe.ends; split <;> exact ⟨by simp, fun z => by cases z⟩
  have lm : (Xe.ends a.1 a.2).length * (Xe.ends b.1 b.2).length ≤ 4 := Nat.mul_le_mul (la a).1 (la b).1
  refine sj_setLc2T (B1 := B) 2 (x1 := "x") (j1 := 3) (x2 := "y") (j2 := 4) (d := .da (.list ((Xe.ends a.1 a.2).flatMap fun x => (Xe.ends b.1 b.2).map fun y => (x.mul y).d))) G.nd G.calm (blkOk_by (N := ["one", "other", "found", "x", "y"]) (sc := defScope s_products) (by decide +kernel)) (fun _ _ _ _ _ => pg_name (i := 3) G.nd rfl (Or.inl rfl)) (fun _ _ _ _ _ => pg_name (i := 4) G.nd rfl (Or.inl rfl))
    (rj_lc2T (Xe.ends a.1 a.2) (Xe.ends b.1 b.2) Xe.d Xe.d (fun x y => (x.mul y).d) (by decide) (ej_call c_u_ends (G.le (by decide)) (aj_cons (ej_dat (d := rD a) 0) aj_nil) (R_ends.mk a B)) (Nat.le_trans lm (by decide)) (fun x hx => ?_) (fun x hx y hy => ?_)) ?_ (sw_true rfl rfl rfl (by decide +kernel))
  · intro s1 H1 C1 cl1 fp1
    exact (ej_call c_u_ends ⟨G.gd, G.rm.mono (by decide), G.nd, G.calm⟩ (aj_cons (ej_dat (d := rD b) 1) aj_nil) (R_ends.mk b B))
  · intro s1 H1 C1 cl1 fp1
    exact (ej_call c_u_product ⟨G.gd, G.rm.mono (by decide), G.nd, G.calm⟩ (aj_cons (ej_dat (d := x.d) 3) (aj_cons (ej_dat (d := y.d) 4) aj_nil)) (R_x2.mk x y n d m c B (ea x hx) (eb y hy) (by omega) (by omega) h3))
  have ep : ((Xe.ends a.1 a.2).flatMap fun x => (Xe.ends b.1 b.2).map fun y => (x.mul y).d) = ((Xe.ends a.1 a.2).flatMap fun x => (Xe.ends b.1 b.2).map (Xe.mul x)).map Xe.d := by
    rw [List.map_flatMap]
    congr 1
    funext x
    rw [List.map_map]; rfl
  rw [ep]
  have e1 := Xe.min_ends a.1 a.2 b.1 b.2
  have e2 := Xe.max_ends a.1 a.2 b.1 b.2
  have hb : ∀ x ∈ (Xe.ends a.1 a.2).flatMap (fun x => (Xe.ends b.1 b.2).map (Xe.mul x)), x.bd (n + m) (d + c) := fun x hx => by
    obtain ⟨u, hu, hx⟩ := List.mem_flatMap.mp hx
    obtain ⟨v, hv, rfl⟩ := List.mem_map.mp hx
    exact Xe.mul_bd (ea u hu) (eb v hv) (by omega) (by omega)
  have hn : (Xe.ends a.1 a.2).flatMap (fun x => (Xe.ends b.1 b.2).map (Xe.mul x)) ≠ [] := fun z => by
    rw [List.flatMap_eq_nil_iff] at z
    obtain ⟨x, hx⟩ := List.exists_mem_of_ne_nil _ (la a).2
    exact (la b).2 (List.map_eq_nil_iff.mp (z x hx))
  have hl : ((Xe.ends a.1 a.2).flatMap fun x => (Xe.ends b.1 b.2).map (Xe.mul x)).length ≤ 8 := by
    rw [List.length_flatMap]
    simp only [List.length_map, List.map_const', List.sum_replicate_nat]
    omega
  generalize (Xe.ends a.1 a.2).flatMap (fun x => (Xe.ends b.1 b.2).map (Xe.mul x)) = L at *
  refine sj_ret (ej_tupD (ad_cons (ej_call c_least_of (G.le (by decide)) (aj_cons (ej_dat (d := .list (L.map Xe.d)) 2) aj_nil) (R_xl.mk L (n + m) (d + c) B hb hn hl (by omega) (by omega) (by omega))) (ad_cons (ej_call c_greatest_of (G.le (by decide)) (aj_cons (ej_dat (d := .list (L.map Xe.d)) 2) aj_nil) (R_xl.mk L (n + m) (d + c) B hb hn hl (by omega) (by omega) (by omega))) ad_nil)) (Nat.le_of_ble_eq_true rfl)) ⟨?_, rfl⟩
  show PyData.tuple [(Xe.minL L).d, (Xe.maxL L).d] = _
  rw [e1, e2]; rfl

abbrev s_reciprocals : Stmt := topS 23
theorem sc_reciprocals : FnScope ["reach", "low", "high", "found"] ["reach"] (defScope s_reciprocals) := ⟨rfl, rfl, rfl, by decide +kernel, rfl, by decide +kernel, by decide +kernel⟩

theorem c_of_reciprocals (g_nohigh : Glob K mg "NO_HIGH" Xe.hi.d) (g_nolow : Glob K mg "NO_LOW" Xe.lo.d) (c_u_reciprocal : Cal P w K mg base "_reciprocal" 6 R_xinv) (T : At K mg "reciprocals" s_reciprocals ["reach"]) : Cal P w K mg base "reciprocals" 7 (R_recs recL) :=
  cal_at T sc_reciprocals (by rintro _ _ _ _ ⟨⟩; rfl) fun f cd0 A out s0 H E0 G Γ B r B' hR => by
  obtain ⟨a, N, B, hk⟩ := hR
  have b1 := hk.b1
  have b2 := hk.b2
  refine sj_unpack [1, 2] (ds := [a.1.d, a.2.d]) G.calm (ej_dat (d := .tuple [a.1.d, a.2.d]) 0) (pgs_cons (pgN 1 G.nd) (pgs_cons (pgN 2 G.nd) pgs_nil)) rfl ?_
  refine sj_own 3 G.nd (fj_lst (ds := []) aj_nil (by decide)) (show 4 ≤ _ from Nat.le_of_ble_eq_true rfl) ?_
  refine ow_if (fun Γ' B' acc => Γ' = [.da (rD a), .da a.1.d, .da a.2.d, .no] ∧ B' = B ∧ acc = (if a.1.n < 0 then [recN a] else []).map rD) (tj_lt (ej_at (ej_is (ej_dat (d := a.1.d) 1) a.1.pair)) ej_int) (fun h => ?_) (fun h => ?_) (fun Γ' B' acc hM => ?_)
  · have h := of_decide_eq_true h
    rw [if_pos h]
    refine ow_app G.nd (y := rD (recN a)) (ej_tupD (ad_cons (ej_if (d := .da (if a.2.n < 0 then a.2.inv else .lo).d) (B1 := B) (tj_lt (ej_at (ej_is (ej_dat (d := a.2.d) 2) a.2.pair)) ej_int) (fun hh => ?_) (fun hh => ?_)) (ad_cons (ej_call c_u_reciprocal (G.le (by decide)) (aj_cons (ej_dat (d := a.1.d) 1) aj_nil) (R_xinv.mk a.1 3040 2341 B b1 (by omega) (by decide) (by decide))) ad_nil)) (Nat.le_of_ble_eq_true rfl)) (Nat.le_of_ble_eq_true rfl) (ow_nil ⟨rfl, rfl, rfl⟩)
    · have hh := of_decide_eq_true hh
      rw [if_pos hh]
      exact (ej_call c_u_reciprocal (G.le (by decide)) (aj_cons (ej_dat (d := a.2.d) 2) aj_nil) (R_xinv.mk a.2 3040 2341 B b2 (by omega) (by decide) (by decide)))
    · rw [if_neg (of_decide_eq_false hh)]
      exact ej_glob g_nolow
  · rw [if_neg (of_decide_eq_false h)]
    exact ow_nil ⟨rfl, rfl, rfl⟩
  obtain ⟨rfl, rfl, rfl⟩ := hM
  refine ow_if (fun Γ' B2 acc => Γ' = [.da (rD a), .da a.1.d, .da a.2.d, .no] ∧ B2 = B' ∧ acc = (recL a).map rD) (tj_gt (ej_at (ej_is (ej_dat (d := a.2.d) 2) a.2.pair)) ej_int) (fun h => ?_) (fun h => ?_) (fun Γ' B2 acc hM => ?_)
  · have h := of_decide_eq_true h
    refine ow_app G.nd (y := rD (recP a)) (ej_tupD (ad_cons (ej_call c_u_reciprocal (G.le (by decide)) (aj_cons (ej_dat (d := a.2.d) 2) aj_nil) (R_xinv.mk a.2 3040 2341 B' b2 (by omega) (by decide) (by decide))) (ad_cons (ej_if (d := .da (if 0 < a.1.n then a.1.inv else .hi).d) (B1 := B') (tj_gt (ej_at (ej_is (ej_dat (d := a.1.d) 1) a.1.pair)) ej_int) (fun hh => ?_) (fun hh => ?_)) ad_nil)) (Nat.le_of_ble_eq_true rfl)) (by rw [List.length_map]; split <;> simp) (ow_nil ⟨rfl, rfl, ?_⟩)
    · have hh := of_decide_eq_true hh
      rw [if_pos hh]
      exact (ej_call c_u_reciprocal (G.le (by decide)) (aj_cons (ej_dat (d := a.1.d) 1) aj_nil) (R_xinv.mk a.1 3040 2341 B' b1 (by omega) (by decide) (by decide)))
    · rw [if_neg (of_decide_eq_false hh)]
      exact ej_glob g_nohigh
    · unfold recL
      rw [if_pos h, List.map_append]; rfl
  · refine ow_nil ⟨rfl, rfl, ?_⟩
    unfold recL
    rw [if_neg (of_decide_eq_false h), List.append_nil]
  obtain ⟨rfl, rfl, rfl⟩ := hM
  exact ow_end (sj_ret (ej_dat (d := .list ((recL a).map rD)) 3) ⟨rfl, rfl⟩)

abbrev s_least_of : Stmt := topS 24
theorem sc_least_of : FnScope ["ends", "least", "end"] ["ends"] (defScope s_least_of) := ⟨rfl, rfl, rfl, by decide +kernel, rfl, by decide +kernel, by decide +kernel⟩

theorem c_of_least_of /-H-/ (c_u_is_less : Cal P w K mg base "_is_less" 5 R_xlt) /-E-/ (T : At K mg "least_of" s_least_of ["ends"]) : Cal P w K mg base "least_of" 6 (R_xl minLD) :=
  cal_at T sc_least_of (by rintro _ _ _ _ ⟨⟩; rfl) fun f cd0 A out s0 H E0 G Γ B r B' hR => by
  obtain ⟨L, n, d, B, h, h0, hl, h1, h2, h3⟩ := hR
  cases L with
  | nil => exact absurd rfl h0
  | cons x L =>
    refine sj_set 1 G.nd (d := .da x.d) (ej_atL (ej_dat (d := .list ((x :: L).map Xe.d)) 0) (atI_head rfl)) ?_
    refine sj_forL (ds := (x :: L).map Xe.d) 2 G.nd G.calm (fun i Γ' B' => (∃ g2, Γ' = [.da (.list ((x :: L).map Xe.d)), .da (((x :: L).take i).foldl Xe.min x).d, g2]) ∧ B' = B) (ej_dat (d := .list ((x :: L).map Xe.d)) 0) ⟨⟨.no, rfl⟩, rfl⟩ (fun i yy Γ' B' hy hP => ?_) (fun Γ' B' hP => ?_)
    · obtain ⟨⟨g2, rfl⟩, rfl⟩ := hP
      rw [List.getElem?_map] at hy
      obtain ⟨z, hz, rfl⟩ := Option.map_eq_some_iff.mp hy
      have hm := List.mem_of_getElem? hz
      have hacc : (((x :: L).take i).foldl Xe.min x).bd n d := by
        rcases Xe.fold_mem Xe.min Xe.min_mem ((x :: L).take i) x with e | e
        · rw [e]; exact h x (List.mem_cons_self ..)
        · exact h _ (List.mem_of_mem_take e)
      have step : ((x :: L).take (i + 1)).foldl Xe.min x = (((x :: L).take i).foldl Xe.min x).min z := by rw [List.take_add_one, hz, List.foldl_append]; rfl
      generalize ((x :: L).take i).foldl Xe.min x = acc at *
      refine sj_when (x := z.lt acc) (tj_val (ej_call c_u_is_less (G.le (by decide)) (aj_cons (ej_dat (d := z.d) 2) (aj_cons (ej_dat (d := acc.d) 1) aj_nil)) (R_xlt.mk z acc n d B' (h z hm) hacc h1 h2 h3))) (fun hh => ?_) (fun hh => ?_)
      · exact sj_set 1 G.nd (ej_dat (d := z.d) 2) (sj_nil (sj_nil ⟨⟨.da z.d, by rw [step]; unfold Xe.min; rw [if_pos hh]; rfl⟩, rfl⟩))
      · exact sj_nil ⟨⟨.da z.d, by rw [step]; unfold Xe.min; rw [if_neg (by rw [hh]; decide)]; rfl⟩, rfl⟩
    · obtain ⟨⟨g2, rfl⟩, rfl⟩ := hP
      rw [List.length_map, List.take_length]
      exact sj_ret (ej_dat (d := ((x :: L).foldl Xe.min x).d) 1) ⟨by rw [List.foldl_cons, Xe.min_self]; rfl, rfl⟩

abbrev s_greatest_of : Stmt := topS 25
theorem sc_greatest_of : FnScope ["ends", "greatest", "end"] ["ends"] (defScope s_greatest_of) := ⟨rfl, rfl, rfl, by decide +kernel, rfl, by decide +kernel, by decide +kernel⟩

theorem c_of_greatest_of /-H-/ (c_u_is_less : Cal P w K mg base "_is_less" 5 R_xlt) /-E-/ (T : At K mg "greatest_of" s_greatest_of ["ends"]) : Cal P w K mg base "greatest_of" 6 (R_xl maxLD) :=
  cal_at T sc_greatest_of (by rintro _ _ _ _ ⟨⟩; rfl) fun f cd0 A out s0 H E0 G Γ B r B' hR => by
  obtain ⟨L, n, d, B, h, h0, hl, h1, h2, h3⟩ := hR
  cases L with
  | nil => exact absurd rfl h0
  | cons x L =>
    refine sj_set 1 G.nd (d := .da x.d) (ej_atL (ej_dat (d := .list ((x :: L).map Xe.d)) 0) (atI_head rfl)) ?_
    refine sj_forL (ds := (x :: L).map Xe.d) 2 G.nd G.calm (fun i Γ' B' => (∃ g2, Γ' = [.da (.list ((x :: L).map Xe.d)), .da (((x :: L).take i).foldl Xe.max x).d, g2]) ∧ B' = B) (ej_dat (d := .list ((x :: L).map Xe.d)) 0) ⟨⟨.no, rfl⟩, rfl⟩ (fun i yy Γ' B' hy hP => ?_) (fun Γ' B' hP => ?_)
    · obtain ⟨⟨g2, rfl⟩, rfl⟩ := hP
      rw [List.getElem?_map] at hy
      obtain ⟨z, hz, rfl⟩ := Option.map_eq_some_iff.mp hy
      have hm := List.mem_of_getElem? hz
      have hacc : (((x :: L).take i).foldl Xe.max x).bd n d := by
        rcases Xe.fold_mem Xe.max Xe.max_mem ((x :: L).take i) x with e | e
        · rw [e]; exact h x (List.mem_cons_self ..)
        · exact h _ (List.mem_of_mem_take e)
      have step : ((x :: L).take (i + 1)).foldl Xe.max x = (((x :: L).take i).foldl Xe.max x).max z := by rw [List.take_add_one, hz, List.foldl_append]; rfl
      generalize ((x :: L).take i).foldl Xe.max x = acc at *
      refine sj_when (x := acc.lt z) (tj_val (ej_call c_u_is_less (G.le (by decide)) (aj_cons (ej_dat (d := acc.d) 1) (aj_cons (ej_dat (d := z.d) 2) aj_nil)) (R_xlt.mk acc z n d B' hacc (h z hm) h1 h2 h3))) (fun hh => ?_) (fun hh => ?_)
      · exact sj_set 1 G.nd (ej_dat (d := z.d) 2) (sj_nil (sj_nil ⟨⟨.da z.d, by rw [step]; unfold Xe.max; rw [if_pos hh]; rfl⟩, rfl⟩))
      · exact sj_nil ⟨⟨.da z.d, by rw [step]; unfold Xe.max; rw [if_neg (by rw [hh]; decide)]; rfl⟩, rfl⟩
    · obtain ⟨⟨g2, rfl⟩, rfl⟩ := hP
      rw [List.length_map, List.take_length]
      exact sj_ret (ej_dat (d := ((x :: L).foldl Xe.max x).d) 1) ⟨by rw [List.foldl_cons, Xe.max_self]; rfl, rfl⟩

abbrev s_is_point : Stmt := topS 26
theorem sc_is_point : FnScope ["reach"] ["reach"] (defScope s_is_point) := ⟨rfl, rfl, rfl, by decide +kernel, rfl, by decide +kernel, by decide +kernel⟩

theorem c_of_is_point /-H-/  /-E-/ (T : At K mg "is_point" s_is_point ["reach"]) : Cal P w K mg base "is_point" 4 R_point :=
  cal_at T sc_is_point (by rintro _ _ _ _ ⟨⟩; rfl) fun f cd0 A out s0 H E0 G Γ B r B' hR => by
  obtain ⟨a, B⟩ := hR
  exact sj_ret (ej_eq G.hu (ej_at (y := a.1.d) (ej_dat (d := .tuple [a.1.d, a.2.d]) 0)) (ej_at (y := a.2.d) (ej_dat (d := .tuple [a.1.d, a.2.d]) 0)) (Xe.sh a.1) (Xe.sh a.2)) ⟨congrArg PyData.bool (Xe.eqvB a.1 a.2), rfl⟩

abbrev s_u_is_less : Stmt := topS 27
theorem sc_u_is_less : FnScope ["x", "y"] ["x", "y"] (defScope s_u_is_less) := ⟨rfl, rfl, rfl, by decide +kernel, rfl, by decide +kernel, by decide +kernel⟩

theorem c_of_compared_x (T_compared : At K mg "compared" s_compared ["one", "other"]) : Cal P w K mg base "compared" 4 R_cmpX :=
  cal_at T_compared sc_compared (by rintro _ _ _ _ ⟨⟩; rfl) fun f cd0 A out s0 H E0 G Γ B r B' hR => by
  obtain ⟨x, y, n, d, B, hx, hy, h1, h2, h0⟩ := hR
  obtain ⟨xn, xe⟩ := Xe.bds hx h0
  obtain ⟨yn, ye⟩ := Xe.bds hy h0
  refine sj_par 2 3 G.nd G.calm (aj_cons (ej_mul (ej_at (ej_is (ej_dat (d := x.d) 0) x.pair)) (ej_at (ej_is (ej_dat (d := y.d) 1) y.pair)) (cmz xn ye)) (aj_cons (ej_mul (ej_at (ej_is (ej_dat (d := y.d) 1) y.pair)) (ej_at (ej_is (ej_dat (d := x.d) 0) x.pair)) (cmz yn xe)) aj_nil)) ?_ (by decide) (by rfl)
  refine sj_when (tj_lt (ej_dat 2) (ej_dat 3)) (fun h => ?_) (fun h => ?_)
  · exact sj_ret (ej_neg ej_int) ⟨by unfold Xe.cmpR; rw [if_pos (of_decide_eq_true h)], rfl⟩
  · refine sj_ret (ej_ifV (tj_gt (ej_dat 2) (ej_dat 3)) (fun _ => ej_int) fun _ => ej_int) ⟨?_, rfl⟩
    unfold Xe.cmpR
    rw [if_neg (of_decide_eq_false h)]
    by_cases h3 : y.n * x.e < x.n * y.e
    · rw [if_pos h3, decide_eq_true h3]; rfl
    · rw [if_neg h3, decide_eq_false h3]; rfl
theorem c_of_u_is_less (c_compared_x : Cal P w K mg base "compared" 4 R_cmpX) (T : At K mg "_is_less" s_u_is_less ["x", "y"]) : Cal P w K mg base "_is_less" 5 R_xlt :=
  cal_at T sc_u_is_less (by rintro _ _ _ _ ⟨⟩; rfl) fun f cd0 A out s0 H E0 G Γ B r B' hR => by
  obtain ⟨x, y, n, d, B, hx, hy, h1, h2, h0⟩ := hR
  refine sj_when (x := decide (x.e = 0) && decide (y.e = 0)) (tj_w (wj_and (tj_eqI G.hu (ej_at (ej_is (ej_dat (d := x.d) 0) x.pair)) ej_int) fun _ => (wj_and1 (tj_eqI G.hu (ej_at (ej_is (ej_dat (d := y.d) 1) y.pair)) ej_int)))) (fun h => ?_) (fun h => ?_)
  · rw [Bool.and_eq_true, decide_eq_true_eq, decide_eq_true_eq] at h
    exact sj_ret (ej_lt (ej_at (ej_is (ej_dat (d := x.d) 0) x.pair)) (ej_at (ej_is (ej_dat (d := y.d) 1) y.pair))) ⟨congrArg PyData.bool (Xe.inf_lt h), rfl⟩
  · have h' : ¬ (x.e = 0 ∧ y.e = 0) := fun z => by rw [decide_eq_true z.1, decide_eq_true z.2] at h; cases h
    exact sj_ret (ej_lt (ej_call c_compared_x (G.le (by decide)) (aj_cons (ej_dat (d := x.d) 0) (aj_cons (ej_dat (d := y.d) 1) aj_nil)) (R_cmpX.mk x y n d B hx hy h1 h2 h0)) ej_int) ⟨congrArg PyData.bool (Xe.cmpR_lt h'), rfl⟩

abbrev s_u_ends : Stmt := topS 28
theorem sc_u_ends : FnScope ["reach"] ["reach"] (defScope s_u_ends) := ⟨rfl, rfl, rfl, by decide +kernel, rfl, by decide +kernel, by decide +kernel⟩

theorem c_of_u_ends /-H-/ (c_is_point : Cal P w K mg base "is_point" 4 R_point) /-E-/ (T : At K mg "_ends" s_u_ends ["reach"]) : Cal P w K mg base "_ends" 5 R_ends :=
  cal_at T sc_u_ends (by rintro _ _ _ _ ⟨⟩; rfl) fun f cd0 A out s0 H E0 G Γ B r B' hR => by
  obtain ⟨a, B⟩ := hR
  by_cases h : a.1 = a.2
  · refine sj_ret (ej_ifT (tj_is (tj_val (ej_call c_is_point (G.le (by decide)) (aj_cons (ej_dat (d := rD a) 0) aj_nil) (R_point.mk a B))) (decide_eq_true h)) (ej_sliceT (ds := [a.1.d, a.2.d]) (ej_dat (d := .tuple [a.1.d, a.2.d]) 0) oj_none (oj_some ej_int))) ⟨?_, rfl⟩
    unfold Xe.ends
    rw [if_pos h]; rfl
  · refine sj_ret (ej_ifF (tj_is (tj_val (ej_call c_is_point (G.le (by decide)) (aj_cons (ej_dat (d := rD a) 0) aj_nil) (R_point.mk a B))) (decide_eq_false h)) (ej_dat (d := rD a) 0)) ⟨?_, rfl⟩
    unfold Xe.ends
    rw [if_neg h]; rfl

abbrev s_u_sums : Stmt := topS 29
theorem sc_u_sums : FnScope ["one", "other", "low"] ["one", "other"] (defScope s_u_sums) := ⟨rfl, rfl, rfl, by decide +kernel, rfl, by decide +kernel, by decide +kernel⟩

theorem c_of_u_sums /-H-/ (c_u_sum : Cal P w K mg base "_sum" 5 (R_x2 Xe.add)) (c_is_point : Cal P w K mg base "is_point" 4 R_point) /-E-/ (T : At K mg "_sums" s_u_sums ["one", "other"]) : Cal P w K mg base "_sums" 6 (R_r2 sumsX) :=
  cal_at T sc_u_sums (by rintro _ _ _ _ ⟨⟩; rfl) fun f cd0 A out s0 H E0 G Γ B r B' hR => by
  obtain ⟨a, b, n, d, m, c, B, a1, a2, b1, b2, h1, h2, h3, h0⟩ := hR
  refine sj_set 2 G.nd (ej_call c_u_sum (G.le (by decide)) (aj_cons (ej_at (y := a.1.d) (ej_dat (d := .tuple [a.1.d, a.2.d]) 0)) (aj_cons (ej_at (y := b.1.d) (ej_dat (d := .tuple [b.1.d, b.2.d]) 1)) aj_nil)) (R_x2.mk a.1 b.1 n d m c B a1 b1 (by omega) (by omega) h3)) ?_
  refine sj_when (x := decide (a.1 = a.2) && decide (b.1 = b.2)) (tj_w (wj_and (tj_val (ej_call c_is_point (G.le (by decide)) (aj_cons (ej_dat (d := rD a) 0) aj_nil) (R_point.mk a B))) fun _ => (wj_and1 (tj_val (ej_call c_is_point (G.le (by decide)) (aj_cons (ej_dat (d := rD b) 1) aj_nil) (R_point.mk b B)))))) (fun h => ?_) (fun h => ?_)
  · rw [Bool.and_eq_true, decide_eq_true_eq, decide_eq_true_eq] at h
    refine sj_ret (ej_tupD (ad_cons (ej_dat 2) (ad_cons (ej_dat 2) ad_nil)) (Nat.le_of_ble_eq_true rfl)) ⟨?_, rfl⟩
    show _ = PyData.tuple [(a.1.add b.1).d, (a.2.add b.2).d]
    rw [← h.1, ← h.2]
  · exact sj_ret (ej_tupD (ad_cons (ej_dat 2) (ad_cons (ej_call c_u_sum (G.le (by decide)) (aj_cons (ej_at (y := a.2.d) (ej_dat (d := .tuple [a.1.d, a.2.d]) 0)) (aj_cons (ej_at (y := b.2.d) (ej_dat (d := .tuple [b.1.d, b.2.d]) 1)) aj_nil)) (R_x2.mk a.2 b.2 n d m c B a2 b2 (by omega) (by omega) h3)) ad_nil)) (Nat.le_of_ble_eq_true rfl)) ⟨rfl, rfl⟩

abbrev s_u_sum : Stmt := topS 30
theorem sc_u_sum : FnScope ["x", "y"] ["x", "y"] (defScope s_u_sum) := ⟨rfl, rfl, rfl, by decide +kernel, rfl, by decide +kernel, by decide +kernel⟩

theorem c_of_u_sum /-H-/ (c_added : Cal P w K mg base "added" 4 (R_two (· + ·))) /-E-/ (T : At K mg "_sum" s_u_sum ["x", "y"]) : Cal P w K mg base "_sum" 5 (R_x2 Xe.add) :=
  cal_at T sc_u_sum (by rintro _ _ _ _ ⟨⟩; rfl) fun f cd0 A out s0 H E0 G Γ B r B' hR => by
  obtain ⟨x, y, n, d, m, c, B, hx, hy, h1, h2, h3⟩ := hR
  cases x with
  | lo => exact sj_when (x := true) (tj_is (tj_eqI G.hu (ej_at (i := 1) (y := .int 0) (ej_dat (d := .tuple [.int (-1), .int 0]) 0)) ej_int) rfl) (fun _ => sj_ret (ej_dat (d := Xe.lo.d) 0) ⟨rfl, rfl⟩) (fun h => Bool.noConfusion h)
  | hi => exact sj_when (x := true) (tj_is (tj_eqI G.hu (ej_at (i := 1) (y := .int 0) (ej_dat (d := .tuple [.int 1, .int 0]) 0)) ej_int) rfl) (fun _ => sj_ret (ej_dat (d := Xe.hi.d) 0) ⟨rfl, rfl⟩) (fun h => Bool.noConfusion h)
  | q a =>
    refine sj_when (x := false) (tj_is (tj_eqI G.hu (ej_at (ej_dat (d := fq a) 0)) ej_int) (decide_eq_false (den_ne a))) (fun h => Bool.noConfusion h) (fun _ => ?_)
    cases y with
    | lo => exact sj_ret (ej_ifT (tj_is (tj_eqI G.hu (ej_at (i := 1) (y := .int 0) (ej_dat (d := .tuple [.int (-1), .int 0]) 1)) ej_int) rfl) (ej_dat (d := Xe.lo.d) 1)) ⟨rfl, rfl⟩
    | hi => exact sj_ret (ej_ifT (tj_is (tj_eqI G.hu (ej_at (i := 1) (y := .int 0) (ej_dat (d := .tuple [.int 1, .int 0]) 1)) ej_int) rfl) (ej_dat (d := Xe.hi.d) 1)) ⟨rfl, rfl⟩
    | q b => exact sj_ret (ej_ifF (tj_is (tj_eqI G.hu (ej_at (ej_dat (d := fq b) 1)) ej_int) (decide_eq_false (den_ne b))) (ej_call c_added (G.le (by decide)) (aj_cons (ej_dat (d := fq a) 0) (aj_cons (ej_dat (d := fq b) 1) aj_nil)) (R_two.mk n d m c a b B hx hy (by omega) (by omega) h3))) ⟨rfl, rfl⟩

abbrev s_u_product : Stmt := topS 31
theorem sc_u_product : FnScope ["x", "y"] ["x", "y"] (defScope s_u_product) := ⟨rfl, rfl, rfl, by decide +kernel, rfl, by decide +kernel, by decide +kernel⟩

theorem c_of_u_product (g_nohigh : Glob K mg "NO_HIGH" Xe.hi.d) (g_nolow : Glob K mg "NO_LOW" Xe.lo.d) (c_times : Cal P w K mg base "times" 4 (R_two (· * ·))) (T : At K mg "_product" s_u_product ["x", "y"]) : Cal P w K mg base "_product" 5 (R_x2 Xe.mul) :=
  cal_at T sc_u_product (by rintro _ _ _ _ ⟨⟩; rfl) fun f cd0 A out s0 H E0 G Γ B r B' hR => by
  obtain ⟨x, y, n, d, m, c, B, hx, hy, h1, h2, h3⟩ := hR
  refine sj_when (x := decide (x.n = 0) || decide (y.n = 0)) (tj_w (wj_or (tj_eqI G.hu (ej_at (ej_is (ej_dat (d := x.d) 0) x.pair)) ej_int) fun _ => (wj_or1 (tj_eqI G.hu (ej_at (ej_is (ej_dat (d := y.d) 1) y.pair)) ej_int)))) (fun h => ?_) (fun h => ?_)
  · exact sj_ret (ej_tupD (ad_cons ej_int (ad_cons ej_int ad_nil)) (Nat.le_of_ble_eq_true rfl)) ⟨by rw [Xe.mul_zero h]; rfl, rfl⟩
  refine sj_when (x := decide (x.e = 0) || decide (y.e = 0)) (tj_w (wj_or (tj_eqI G.hu (ej_at (ej_is (ej_dat (d := x.d) 0) x.pair)) ej_int) fun _ => (wj_or1 (tj_eqI G.hu (ej_at (ej_is (ej_dat (d := y.d) 1) y.pair)) ej_int)))) (fun h' => ?_) (fun h' => ?_)
  · refine sj_ret (ej_ifV (x := decide (decide (0 < x.n) = decide (0 < y.n))) (tj_is (tj_eq G.hu (ej_gt (ej_at (ej_is (ej_dat (d := x.d) 0) x.pair)) ej_int) (ej_gt (ej_at (ej_is (ej_dat (d := y.d) 1) y.pair)) ej_int) rfl rfl) (by cases decide (0 < x.n) <;> cases decide (0 < y.n) <;> rfl)) (fun _ => (ej_glob g_nohigh)) fun _ => (ej_glob g_nolow)) ⟨?_, rfl⟩
    rw [Xe.mul_inf h h']
    by_cases z : decide (0 < x.n) = decide (0 < y.n)
    · rw [if_pos z, decide_eq_true z]; rfl
    · rw [if_neg z, decide_eq_false z]; rfl
  · obtain ⟨z1, z2⟩ := Bool.or_eq_false_iff.mp h'
    cases x with
    | q a => cases y with
      | q b => exact sj_ret (ej_call c_times (G.le (by decide)) (aj_cons (ej_dat (d := fq a) 0) (aj_cons (ej_dat (d := fq b) 1) aj_nil)) (R_two.mk n d m c a b B hx hy (by omega) (by omega) h3)) ⟨by rw [Xe.mul_q h]; rfl, rfl⟩
      | lo => cases z2
      | hi => cases z2
    | lo => cases z1
    | hi => cases z1

abbrev s_u_reciprocal : Stmt := topS 32
theorem sc_u_reciprocal : FnScope ["end"] ["end"] (defScope s_u_reciprocal) := ⟨rfl, rfl, rfl, by decide +kernel, rfl, by decide +kernel, by decide +kernel⟩

theorem c_of_u_reciprocal (c_over : Cal P w K mg base "over" 5 R_over) (T : At K mg "_reciprocal" s_u_reciprocal ["end"]) : Cal P w K mg base "_reciprocal" 6 R_xinv :=
  cal_at T sc_u_reciprocal (by rintro _ _ _ _ ⟨⟩; rfl) fun f cd0 A out s0 H E0 G Γ B r B' hR => by
  obtain ⟨x, n, d, B, hx, h0, h1, h2⟩ := hR
  cases x with
  | lo => exact sj_ret (ej_ifT (tj_is (tj_eqI G.hu (ej_at (i := 1) (y := .int 0) (ej_dat (d := .tuple [.int (-1), .int 0]) 0)) ej_int) rfl) (ej_tupD (ad_cons ej_int (ad_cons ej_int ad_nil)) (Nat.le_of_ble_eq_true rfl))) ⟨rfl, rfl⟩
  | hi => exact sj_ret (ej_ifT (tj_is (tj_eqI G.hu (ej_at (i := 1) (y := .int 0) (ej_dat (d := .tuple [.int 1, .int 0]) 0)) ej_int) rfl) (ej_tupD (ad_cons ej_int (ad_cons ej_int ad_nil)) (Nat.le_of_ble_eq_true rfl))) ⟨rfl, rfl⟩
  | q a =>
    have ha : a ≠ 0 := fun z => h0 (by rw [z]; rfl)
    exact sj_ret (ej_ifF (tj_is (tj_eqI G.hu (ej_at (ej_dat (d := fq a) 0)) ej_int) (decide_eq_false (den_ne a))) (ej_call c_over (G.le (by decide)) (aj_cons (ej_is (y := fq 1) (ej_tupD (ad_cons ej_int (ad_cons ej_int ad_nil)) (Nat.le_of_ble_eq_true rfl)) rfl) (aj_cons (ej_dat (d := fq a) 0) aj_nil)) (R_over.mk 1 1 n d 1 a B Xe.one_qz hx (by decide) (by omega) (by omega) ha))) ⟨rfl, rfl⟩

abbrev s_u_opposites : Stmt := topS 33
theorem sc_u_opposites : FnScope ["reach", "low", "high"] ["reach"] (defScope s_u_opposites) := ⟨rfl, rfl, rfl, by decide +kernel, rfl, by decide +kernel, by decide +kernel⟩

theorem c_of_u_opposites /-H-/  /-E-/ (T : At K mg "_opposites" s_u_opposites ["reach"]) : Cal P w K mg base "_opposites" 4 (R_r1 oppsX) :=
  cal_at T sc_u_opposites (by rintro _ _ _ _ ⟨⟩; rfl) fun f cd0 A out s0 H E0 G Γ B r B' hR => by
  obtain ⟨a, n, d, B, a1, a2, hle, h1, h2, h0⟩ := hR
  refine sj_unpack [1, 2] (ds := [a.1.d, a.2.d]) G.calm (ej_dat (d := .tuple [a.1.d, a.2.d]) 0) (pgs_cons (pgN 1 G.nd) (pgs_cons (pgN 2 G.nd) pgs_nil)) rfl ?_
  refine sj_ret (ej_tupD (ad_cons (ej_tupD (ad_cons (ej_neg (ej_at (ej_is (ej_dat (d := a.2.d) 2) a.2.pair))) (ad_cons (ej_at (ej_is (ej_dat (d := a.2.d) 2) a.2.pair)) ad_nil)) (Nat.le_of_ble_eq_true rfl)) (ad_cons (ej_tupD (ad_cons (ej_neg (ej_at (ej_is (ej_dat (d := a.1.d) 1) a.1.pair))) (ad_cons (ej_at (ej_is (ej_dat (d := a.1.d) 1) a.1.pair)) ad_nil)) (Nat.le_of_ble_eq_true rfl)) ad_nil)) (Nat.le_of_ble_eq_true rfl)) ⟨?_, rfl⟩
  show _ = PyData.tuple [a.2.neg.d, a.1.neg.d]
  rw [Xe.neg_pair, Xe.neg_pair]

abbrev s_u_sizes : Stmt := topS 34
theorem sc_u_sizes : FnScope ["reach", "low", "high"] ["reach"] (defScope s_u_sizes) := ⟨rfl, rfl, rfl, by decide +kernel, rfl, by decide +kernel, by decide +kernel⟩

theorem c_of_u_sizes /-H-/ (c_greatest_of : Cal P w K mg base "greatest_of" 6 (R_xl maxLD)) (c_u_opposites : Cal P w K mg base "_opposites" 4 (R_r1 oppsX)) /-E-/ (T : At K mg "_sizes" s_u_sizes ["reach"]) : Cal P w K mg base "_sizes" 7 (R_r1 sizX) :=
  cal_at T sc_u_sizes (by rintro _ _ _ _ ⟨⟩; rfl) fun f cd0 A out s0 H E0 G Γ B r B' hR => by
  obtain ⟨a, n, d, B, a1, a2, hle, h1, h2, h0⟩ := hR
  refine sj_unpack [1, 2] (ds := [a.1.d, a.2.d]) G.calm (ej_dat (d := .tuple [a.1.d, a.2.d]) 0) (pgs_cons (pgN 1 G.nd) (pgs_cons (pgN 2 G.nd) pgs_nil)) rfl ?_
  refine sj_when (x := decide (a.1.n < 0) && decide (0 < a.2.n)) (tj_w (wj_and (tj_lt (ej_at (ej_is (ej_dat (d := a.1.d) 1) a.1.pair)) ej_int) fun _ => (wj_and1 (tj_gt (ej_at (ej_is (ej_dat (d := a.2.d) 2) a.2.pair)) ej_int)))) (fun h => ?_) (fun h => ?_)
  · rw [Bool.and_eq_true, decide_eq_true_eq, decide_eq_true_eq] at h
    refine sj_ret (ej_tupD (ad_cons (ej_tupD (ad_cons ej_int (ad_cons ej_int ad_nil)) (Nat.le_of_ble_eq_true rfl)) (ad_cons (ej_call c_greatest_of (G.le (by decide)) (aj_cons (ej_lstD (ad_cons (ej_is (ej_tupD (ad_cons (ej_neg (ej_at (ej_is (ej_dat (d := a.1.d) 1) a.1.pair))) (ad_cons (ej_at (ej_is (ej_dat (d := a.1.d) 1) a.1.pair)) ad_nil)) (Nat.le_of_ble_eq_true rfl)) (Xe.neg_pair a.1).symm) (ad_cons (ej_dat (d := a.2.d) 2) ad_nil)) (Nat.le_of_ble_eq_true rfl)) aj_nil) (R_xl.mk [a.1.neg, a.2] n d B (fun x hx => by
      rcases List.mem_cons.mp hx with rfl | hx
      · exact Xe.neg_bd a1
      · rw [List.mem_singleton.mp hx]; exact a2) (fun z => by cases z) (Nat.le_of_ble_eq_true rfl) (by omega) (by omega) h0)) ad_nil)) (Nat.le_of_ble_eq_true rfl)) ⟨?_, rfl⟩
    unfold sizX
    rw [if_pos h]; rfl
  · have h' : ¬ (a.1.n < 0 ∧ 0 < a.2.n) := fun z => by rw [decide_eq_true z.1, decide_eq_true z.2] at h; cases h
    by_cases g : 0 ≤ a.1.n
    · refine sj_ret (ej_ifT (tj_is (tj_ge (ej_at (ej_is (ej_dat (d := a.1.d) 1) a.1.pair)) ej_int) (decide_eq_true g)) (ej_dat (d := rD a) 0)) ⟨?_, rfl⟩
      unfold sizX
      rw [if_neg h', if_pos g]
    · refine sj_ret (ej_ifF (tj_is (tj_ge (ej_at (ej_is (ej_dat (d := a.1.d) 1) a.1.pair)) ej_int) (decide_eq_false g)) (ej_call c_u_opposites (G.le (by decide)) (aj_cons (ej_dat (d := rD a) 0) aj_nil) (R_r1.mk a n d B a1 a2 hle h1 h2 h0))) ⟨?_, rfl⟩
      unfold sizX
      rw [if_neg h', if_neg g]

abbrev s_worth : Stmt := topS 36
theorem sc_worth : FnScope ["form", "number", "_", "s", "c", "e"] ["form", "number"] (defScope s_worth) := ⟨rfl, rfl, rfl, by decide +kernel, rfl, by decide +kernel, by decide +kernel⟩

theorem c_of_worth (c_times : Cal P w K mg base "times" 4 (R_two (· * ·))) (c_power_of : Cal P w K mg base "power_of" 5 R_power_of) (T : At K mg "worth" s_worth ["form", "number"]) : Cal P w K mg base "worth" 6 R_worth :=
  cal_at T sc_worth (by rintro _ _ _ _ ⟨⟩; rfl) fun f cd0 A out s H E G Γ B r B' hR => by
  obtain ⟨b, p, low, high, s, c, e, B, F, hv⟩ := hR
  obtain ⟨h1, h3, h4, h5, h6⟩ := hv
  have b2 := F.b2; have bp := F.bp; have lo := F.lo; have hi := F.hi
  refine sj_unpack [2, 3, 4, 5] G.calm (ej_dat (d := .tuple [.str "num", .int s, .int c, .int e]) 1) (pgs_cons (pg_name (i := 2) G.nd rfl (Or.inl rfl)) (pgs_cons (pg_name (i := 3) G.nd rfl (Or.inl rfl)) (pgs_cons (pg_name (i := 4) G.nd rfl (Or.inl rfl)) (pgs_cons (pg_name (i := 5) G.nd rfl (Or.inl rfl)) pgs_nil)))) rfl ?_
  have hc : Qz 700 1 (((if s = 1 then -c else c : Int)) : Rat) := by
    refine ⟨?_, by rw [Rat.den_intCast]; unfold Bd; decide⟩
    rw [Rat.num_intCast]; unfold Bd
    split <;> omega
  refine sj_ret (ej_call c_times (G.le (by decide)) (aj_cons (ej_is (y := fq ((if s = 1 then -c else c : Int) : Rat)) (ej_tupD (ad_cons (ej_if (d := .da (.int (if s = 1 then -c else c))) (tj_eqI G.hu (ej_dat 3) ej_int) (fun h => ?_) (fun h => ?_)) (ad_cons ej_int ad_nil)) (Nat.le_of_ble_eq_true rfl)) (fq_int _).symm)
    (aj_cons (ej_call c_power_of (G.le (by decide)) (aj_cons (ej_at (ej_dat (d := .tuple [.int b, .int p, .int low, .int high]) 0)) (aj_cons (ej_dat 5) aj_nil)) (R_power_of.mk b e B (by omega) F.b6 (by omega) (by omega))) aj_nil))
    (R_two.mk _ _ _ _ _ _ B hc (F.qz h5 h6) (by decide) (by decide) (by decide))) ⟨rfl, rfl⟩
  · rw [if_pos (of_decide_eq_true h)]; exact ej_neg (ej_dat 4)
  · rw [if_neg (of_decide_eq_false h)]; exact ej_dat 4

abbrev s_zero : Stmt := topS 37
theorem sc_zero : FnScope ["form", "s"] ["form", "s"] (defScope s_zero) := ⟨rfl, rfl, rfl, by decide +kernel, rfl, by decide +kernel, by decide +kernel⟩

theorem c_of_zero (T : At K mg "zero" s_zero ["form", "s"]) : Cal P w K mg base "zero" 4 R_zero :=
  cal_at T sc_zero (by rintro _ _ _ _ ⟨⟩; rfl) fun f cd0 A out s H E G Γ B r B' hR => by
  obtain ⟨b, p, low, high, s, B⟩ := hR
  exact sj_ret (ej_tupD (ad_cons ej_str (ad_cons (ej_dat 1) (ad_cons ej_int (ad_cons (ej_at (ej_dat (d := .tuple [.int b, .int p, .int low, .int high]) 0)) ad_nil)))) (Nat.le_of_ble_eq_true rfl)) ⟨rfl, rfl⟩

abbrev s_is_finite : Stmt := topS 38
theorem sc_is_finite : FnScope ["value"] ["value"] (defScope s_is_finite) := ⟨rfl, rfl, rfl, by decide +kernel, rfl, by decide +kernel, by decide +kernel⟩

theorem c_of_is_finite (T : At K mg "is_finite" s_is_finite ["value"]) : Cal P w K mg base "is_finite" 4 (R_val (fun v => .bool v.isNum) (fun _ => True)) :=
  cal_at T sc_is_finite (by rintro _ _ _ _ ⟨⟩; rfl) fun f cd0 A out s H E G Γ B r B' hR => by
  obtain ⟨v, B, _⟩ := hR
  exact sj_ret (ej_eqS (ej_at (ej_dat (d := .tuple v.l) 0) v.at0) ej_str) ⟨by rw [tag_num], rfl⟩

abbrev s_is_zero : Stmt := topS 39
theorem sc_is_zero : FnScope ["value"] ["value"] (defScope s_is_zero) := ⟨rfl, rfl, rfl, by decide +kernel, rfl, by decide +kernel, by decide +kernel⟩

theorem c_of_is_zero (c_is_finite : Cal P w K mg base "is_finite" 4 (R_val (fun v => .bool v.isNum) (fun _ => True))) (T : At K mg "is_zero" s_is_zero ["value"]) : Cal P w K mg base "is_zero" 5 (R_val (fun v => .bool v.isZ) (fun _ => True)) :=
  cal_at T sc_is_zero (by rintro _ _ _ _ ⟨⟩; rfl) fun f cd0 A out s H E G Γ B r B' hR => by
  obtain ⟨v, B, _⟩ := hR
  cases v with
  | num sn c e => exact sj_ret (ej_is (y := .bool (decide (c = 0))) (ej_and (x := true) (ej_call c_is_finite (G.le (by decide)) (aj_cons (ej_dat 0) aj_nil) (R_val.mk (.num sn c e) B trivial)) fun _ => ej_one (ej_eqI G.hu (ej_at (ej_dat (d := .tuple [.str "num", .int sn, .int c, .int e]) 0)) ej_int)) (congrArg PyData.bool (Bool.true_and _))) ⟨rfl, rfl⟩
  | nan => exact sj_ret (ej_and (x := false) (y := false) (ej_call c_is_finite (G.le (by decide)) (aj_cons (ej_dat 0) aj_nil) (R_val.mk .nan B trivial)) fun h => Bool.noConfusion h) ⟨rfl, rfl⟩
  | inf t => exact sj_ret (ej_and (x := false) (y := false) (ej_call c_is_finite (G.le (by decide)) (aj_cons (ej_dat 0) aj_nil) (R_val.mk (.inf t) B trivial)) fun h => Bool.noConfusion h) ⟨rfl, rfl⟩

abbrev s_rounded : Stmt := topS 41
theorem sc_rounded : FnScope ["form", "way", "x", "s"] ["form", "way", "x", "s"] (defScope s_rounded) := ⟨rfl, rfl, rfl, by decide +kernel, rfl, by decide +kernel, by decide +kernel⟩

theorem c_of_rounded (c_zero : Cal P w K mg base "zero" 4 R_zero) (c_u_outcome : Cal P w K mg base "_outcome" 6 R_outcome) (c_sign_of_fraction : Cal P w K mg base "sign_of_fraction" 4 (R_one fun x => .int (sgn x))) (c_u_spot : Cal P w K mg base "_spot" 6 R_spot) (c_size_of : Cal P w K mg base "size_of" 4 (R_one fun x => fq (absQ x)))
    (T : At K mg "rounded" s_rounded ["form", "way", "x", "s"]) : Cal P w K mg base "rounded" 7 R_rounded :=
  cal_at T sc_rounded (by rintro _ _ _ _ ⟨⟩; rfl) fun f cd0 A out s H E G Γ B r B' hR => by
  obtain ⟨b, p, low, high, way, x, s, n, d, B, F, hw, hs, hx, hn, hd⟩ := hR
  refine sj_when (tj_eqI G.hu (ej_at (ej_dat (d := .tuple [.int x.num, .int (x.den : Int)]) 2)) ej_int) (fun h => ?_) (fun h => ?_)
  · have e : x = 0 := Rat.num_eq_zero.mp (of_decide_eq_true h)
    subst e
    rw [rdP_zero F.b2 F.lh]
    exact sj_ret (ej_tupD (ad_cons (ej_call c_zero (G.le (by decide)) (aj_cons (ej_dat 0) (aj_cons (ej_dat 3) aj_nil)) (R_zero.mk b p low high s B)) (ad_cons (ej_tupD ad_nil (Nat.le_of_ble_eq_true rfl)) ad_nil)) (Nat.le_of_ble_eq_true rfl)) ⟨rfl, rfl⟩
  · have e : x ≠ 0 := fun z => of_decide_eq_false h (Rat.num_eq_zero.mpr z)
    rw [rdP_pos e]
    exact sj_ret (ej_call c_u_outcome (G.le (by decide)) (aj_cons (ej_dat 0) (aj_cons (ej_dat 1) (aj_cons (ej_call c_sign_of_fraction (G.le (by decide)) (aj_cons (ej_dat 2) aj_nil) (R_one.mk x B))
      (aj_cons (ej_call c_u_spot (G.le (by decide)) (aj_cons (ej_dat 0) (aj_cons (ej_call c_size_of (G.le (by decide)) (aj_cons (ej_dat 2) aj_nil) (R_one.mk x B)) aj_nil)) (R_spot.mk b p low high (absQ x) n d B F (absQ_pos e) hx.abs hn hd)) aj_nil)))) (R_outcome.mk b p low high way (sgn x) _ _ _ B F)) ⟨rfl, rfl⟩

abbrev s_rounded_root : Stmt := topS 42
theorem sc_rounded_root : FnScope ["form", "way", "x"] ["form", "way", "x"] (defScope s_rounded_root) := ⟨rfl, rfl, rfl, by decide +kernel, rfl, by decide +kernel, by decide +kernel⟩

theorem c_of_rounded_root (c_zero : Cal P w K mg base "zero" 4 R_zero) (c_u_outcome : Cal P w K mg base "_outcome" 6 R_outcome) (c_u_root_spot : Cal P w K mg base "_root_spot" 6 R_rspot) (T : At K mg "rounded_root" s_rounded_root ["form", "way", "x"]) : Cal P w K mg base "rounded_root" 7 R_rroot :=
  cal_at T sc_rounded_root (by rintro _ _ _ _ (_ | _) <;> rfl) fun f cd0 A out s0 H E0 G Γ B r B' hR => by
  cases hR with
  | zero b p low high way B F hw =>
    unfold rtP
    rw [if_pos rfl]
    exact sj_when (x := true) (tj_is (tj_eqI G.hu (ej_at (ej_dat (d := .tuple [.int (0 : Rat).num, .int ((0 : Rat).den : Int)]) 2)) ej_int) rfl) (fun h => sj_ret (ej_tupD (ad_cons (ej_call c_zero (G.le (by decide)) (aj_cons (ej_dat 0) (aj_cons ej_int aj_nil)) (R_zero.mk b p low high 0 B)) (ad_cons (ej_tupD ad_nil (Nat.le_of_ble_eq_true rfl)) ad_nil)) (Nat.le_of_ble_eq_true rfl)) ⟨rfl, rfl⟩) (fun h => Bool.noConfusion h)
  | mk b p low high way q n d B F hw ok =>
    have hq : ¬ q = 0 := fun z => by have := ok.h0; rw [z] at this; exact absurd this (by decide)
    unfold rtP
    rw [if_neg hq]
    exact sj_when (x := false) (tj_is (tj_eqI G.hu (ej_at (ej_dat (d := .tuple [.int q.num, .int (q.den : Int)]) 2)) ej_int) (decide_eq_false fun z => hq (Rat.num_eq_zero.mp z))) (fun h => Bool.noConfusion h) (fun h => sj_ret (ej_call c_u_outcome (G.le (by decide)) (aj_cons (ej_dat 0) (aj_cons (ej_dat 1) (aj_cons ej_int (aj_cons (ej_call c_u_root_spot (G.le (by decide)) (aj_cons (ej_dat 0) (aj_cons (ej_dat 2) aj_nil)) (R_rspot.mk b p low high q n d B F ok)) aj_nil)))) (R_outcome.mk b p low high way 0 _ _ _ B F)) ⟨rfl, rfl⟩)

abbrev s_u_spot : Stmt := topS 43
theorem sc_u_spot : FnScope ["form", "unsigned", "base", "digits", "low", "_", "e", "up", "down", "whole", "c", "left"] ["form", "unsigned"] (defScope s_u_spot) := ⟨rfl, rfl, rfl, by decide +kernel, rfl, by decide +kernel, by decide +kernel⟩

theorem c_of_u_spot (m_max : mg "max" = none) (m_divmod : mg "divmod" = none) (c_power_below : Cal P w K mg base "power_below" 5 R_pbelow) (c_power_of : Cal P w K mg base "power_of" 5 R_power_of) (c_part_of : Cal P w K mg base "part_of" 4 R_part) (T : At K mg "_spot" s_u_spot ["form", "unsigned"]) : Cal P w K mg base "_spot" 6 R_spot :=
  cal_at T sc_u_spot (by rintro _ _ _ _ ⟨⟩; rfl) fun f cd0 A out s H E G Γ B r B' hR => by
  obtain ⟨b, p, low, high, q, n, d, B, F, h0, hq, hn, hd⟩ := hR
  have b2 := F.b2; have p2 := F.p2; have p7 := F.p7
  have hE := eQ_is (p := p) b2 low q
  have h0' := Rat.le_of_lt h0
  have he := F.e_hi hq h0' hE hn
  have hlo := hE.1
  have flo := F.lo
  refine sj_unpack [2, 3, 4, 5] G.calm (ej_dat (d := .tuple [.int b, .int p, .int low, .int high]) 0) (pgs_cons (pg_name (i := 2) G.nd rfl (Or.inl rfl)) (pgs_cons (pg_name (i := 3) G.nd rfl (Or.inl rfl)) (pgs_cons (pg_name (i := 4) G.nd rfl (Or.inl rfl)) (pgs_cons (pg_name (i := 5) G.nd rfl (Or.inl rfl)) pgs_nil)))) rfl ?_
  obtain ⟨k, k1, k3⟩ := log_ex b2 h0
  refine sj_set 6 G.nd (ej_is (y := .int (eQ b p low q)) (ej_max G.calm m_max (ej_dat 4) (ej_add (ej_sub (ej_call c_power_below (G.le (by decide)) (aj_cons (ej_dat 2) (aj_cons (ej_dat 1) aj_nil)) (R_pbelow.mk b q k n d B b2 h0 hq hn (by omega) k1 k3)) (ej_dat 3)) ej_int)) (congrArg PyData.int (e_of_log b2 k1 k3))) ?_
  generalize eQ b p low q = e at *
  have e1 : fq (pw b (-e)) = .tuple [.int ((b ^ (-e).toNat : Nat) : Int), .int ((b ^ e.toNat : Nat) : Int)] := by
    have := fq_pw b2 (-e)
    rw [Int.neg_neg] at this; exact this
  refine sj_unpack [7, 8] G.calm (ej_is (ej_call c_power_of (G.le (by decide)) (aj_cons (ej_dat 2) (aj_cons (ej_neg (ej_dat 6)) aj_nil)) (R_power_of.mk b (-e) B (by omega) F.b6 (by omega) (by omega))) e1) (pgs_cons (pg_name (i := 7) G.nd rfl (Or.inl rfl)) (pgs_cons (pg_name (i := 8) G.nd rfl (Or.inl rfl)) pgs_nil)) rfl ?_
  have hup : Bd 2340 ((b ^ (-e).toNat : Nat) : Int) := Bd.nat (F.pow_lo hlo)
  have hdn : Bd 9400 ((b ^ e.toNat : Nat) : Int) := by
    rcases F.e_bd hq h0' hE with ⟨z, _, _⟩ | z
    · have hd1 : 1 ≤ q.den := q.den_pos
      exact (Bd.nat (Nat.lt_of_le_of_lt (Nat.le_mul_of_pos_left _ hd1) z)).le (by omega)
    · have h1 : b ^ e.toNat < 2 ^ 2340 := by
        rcases z with z | z
        · have : e.toNat = 0 := by omega
          rw [this, Nat.pow_zero]; exact Nat.one_lt_two_pow (by decide)
        · rw [z]; exact F.pow_hi F.lh
      exact (Bd.nat h1).le (by decide)
  have hD := F.D_bd hq h0' hE hn hd
  have hDp := Dq_pos b2 e q
  refine sj_set 9 G.nd (ej_mul (ej_at (ej_dat (d := .tuple [.int q.num, .int (q.den : Int)]) 1)) (ej_dat 8) (cmz hq.de hdn)) ?_
  refine sj_unpack [10, 11] G.calm (ej_divmod m_divmod (ej_mul (ej_at (ej_dat (d := .tuple [.int q.num, .int (q.den : Int)]) 1)) (ej_dat 7) (cmz hq.nu hup)) (ej_dat (d := .int (Dq b e q)) 9) hDp (lg hD (by decide))) (pgs_cons (pg_name (i := 10) G.nd rfl (Or.inl rfl)) (pgs_cons (pg_name (i := 11) G.nd rfl (Or.inl rfl)) pgs_nil)) rfl ?_
  exact sj_ret (ej_tupD (ad_cons (ej_dat 6) (ad_cons (ej_dat (d := .int (cQ b e q)) 10) (ad_cons (ej_call c_part_of (G.le (by decide)) (aj_cons (ej_dat (d := .int (rQ b e q)) 11) (aj_cons (ej_dat (d := .int (Dq b e q)) 9) aj_nil)) (R_part.mk _ _ B 8900 (hD.mod hDp) (by decide))) ad_nil))) (Nat.le_of_ble_eq_true rfl)) ⟨rfl, rfl⟩

abbrev s_u_root_spot : Stmt := topS 44
theorem sc_u_root_spot : FnScope ["form", "x", "base", "digits", "low", "_", "e", "n", "d", "c"] ["form", "x"] (defScope s_u_root_spot) := ⟨rfl, rfl, rfl, by decide +kernel, rfl, by decide +kernel, by decide +kernel⟩

theorem c_of_u_root_spot (m_max : mg "max" = none) (m_isqrt : mg "isqrt" = some (.builtin "math.isqrt")) (c_power_below : Cal P w K mg base "power_below" 5 R_pbelow) (c_times : Cal P w K mg base "times" 4 (R_two (· * ·))) (c_power_of : Cal P w K mg base "power_of" 5 R_power_of) (c_u_root_part : Cal P w K mg base "_root_part" 4 R_rpart) (T : At K mg "_root_spot" s_u_root_spot ["form", "x"]) : Cal P w K mg base "_root_spot" 6 R_rspot :=
  cal_at T sc_u_root_spot (by rintro _ _ _ _ ⟨⟩; rfl) fun f cd0 A out s0 H E0 G Γ B r B' hR => by
  obtain ⟨b, p, low, high, q, n, d, B, F, ok⟩ := hR
  have b2 := F.b2; have p2 := F.p2; have p7 := F.p7; have flo := F.lo
  obtain ⟨k, k1, k3⟩ := log_ex b2 ok.h0
  have hE := eR_is (p := p) b2 low ok.h0
  have h0 := Rat.le_of_lt ok.h0
  have hD := DR_bd F ok hE
  have hhi := eR_hi F ok hE
  have hN := NR_bd F hE.1
  have hm := mR_bd F h0 hE
  have hm0 := c_ge b2 h0 (2 * eR b p low q)
  have hlo := hE.1
  refine sj_unpack [2, 3, 4, 5] G.calm (ej_dat (d := .tuple [.int b, .int p, .int low, .int high]) 0) (pgs_cons (pgN 2 G.nd) (pgs_cons (pgN 3 G.nd) (pgs_cons (pgN 4 G.nd) (pgs_cons (pgN 5 G.nd) pgs_nil)))) rfl ?_
  refine sj_set 6 G.nd (ej_is (y := .int (eR b p low q)) (ej_max G.calm m_max (ej_dat 4) (ej_add (ej_sub (ej_fdiv (ej_call c_power_below (G.le (by decide)) (aj_cons (ej_dat 2) (aj_cons (ej_dat 1) aj_nil)) (R_pbelow.mk b q k n d B b2 ok.h0 ok.hq (by have := ok.hn; omega) (by have := ok.hd; omega) k1 k3)) ej_int (cdv (n := 2) (by unfold Bd; decide) (by decide))) (ej_dat 3)) ej_int)) (congrArg PyData.int (eR_of b2 (isR_log b2 k1 k3)).symm)) ?_
  obtain ⟨d1, d2, a1, a2, a3, a4, a5⟩ := two_sizes q.den_pos (Nat.pow_pos (n := (2 * eR b p low q).toNat) (show 0 < b by omega)) hD
  have hc := floor_X b2 (2 * eR b p low q) q
  have hC : Bd 700 (cR b (eR b p low q) q) := by
    have cc := cR_can (p := p) b2 (by omega) h0 hE
    have := F.bp
    unfold Bd
    have := cc.1; have := cc.2.1
    omega
  unfold prR
  have hcR : cR b (eR b p low q) q = ((Float64.isqrt (cQ b (2 * eR b p low q) q).toNat : Nat) : Int) := rfl
  generalize eR b p low q = e at *
  have qx : Qz n d1 q := ⟨ok.hq.nu, Bd.nat a1⟩
  have qp : Qz 4680 d2 (pw b (-(2 * e))) := pw_bd b2 hN (by rw [Int.neg_neg]; exact a2) (by decide) a5
  have qX := qx.mul qp
  have hn := ok.hn
  have bE : Bd 14 e := by unfold Bd; omega
  refine sj_unpack [7, 8] G.calm (ej_call c_times (G.le (by decide)) (aj_cons (ej_dat 1) (aj_cons (ej_call c_power_of (G.le (by decide)) (aj_cons (ej_dat 2) (aj_cons (ej_is (ej_mul (ej_neg ej_int) (ej_dat 6) (cm (n := 2) (by unfold Bd; decide) bE)) (show PyData.int (-2 * e) = .int (-(2 * e)) by congr 1; omega)) aj_nil)) (R_power_of.mk b (-(2 * e)) B (by omega) F.b6 (by omega) (by omega))) aj_nil)) (R_two.mk _ _ _ _ _ _ B qx qp (by omega) (by omega) (by omega))) (pgs_cons (pgN 7 G.nd) (pgs_cons (pgN 8 G.nd) pgs_nil)) rfl ?_
  generalize q * pw b (-(2 * e)) = X at *
  have xd : Bd 8990 (X.den : Int) := qX.de.le (by omega)
  refine sj_set 9 G.nd (ej_is (y := .int (cR b e q)) (ej_isqrt m_isqrt (ej_is (ej_fdiv (ej_dat 7) (ej_dat 8) (cdv xd (den_pos X))) (congrArg PyData.int hc)) hm0 (Nat.lt_of_lt_of_le hm (Nat.pow_le_pow_right (by decide) (by decide)))) (congrArg PyData.int hcR.symm)) ?_
  exact sj_ret (ej_tupD (ad_cons (ej_dat 6) (ad_cons (ej_dat 9) (ad_cons (ej_call c_u_root_part (G.le (by decide)) (aj_cons (ej_dat 9) (aj_cons (ej_dat 7) (aj_cons (ej_dat 8) aj_nil))) (R_rpart.mk _ _ _ B (hC.le (by decide)) (qX.nu.le (by omega)) (xd.le (by decide)))) ad_nil))) (Nat.le_of_ble_eq_true rfl)) ⟨rfl, rfl⟩

abbrev s_u_root_part : Stmt := topS 45
theorem sc_u_root_part : FnScope ["c", "n", "d", "half_way"] ["c", "n", "d"] (defScope s_u_root_part) := ⟨rfl, rfl, rfl, by decide +kernel, rfl, by decide +kernel, by decide +kernel⟩

theorem c_of_u_root_part (T : At K mg "_root_part" s_u_root_part ["c", "n", "d"]) : Cal P w K mg base "_root_part" 4 R_rpart :=
  cal_at T sc_u_root_part (by rintro _ _ _ _ ⟨⟩; rfl) fun f cd0 A out s0 H E0 G Γ B r B' hR => by
  obtain ⟨c, n, d, B, hc, hn, hd⟩ := hR
  have b2 : Bd 2 (2 : Int) := by unfold Bd; decide
  have b4 : Bd 3 (4 : Int) := by unfold Bd; decide
  have h2c : Bd 1404 (2 * c + 1) := ((b2.mul hc).add (show Bd 1 (1 : Int) by unfold Bd; decide)).le (by decide)
  unfold rpN
  refine sj_when (tj_eqI G.hu (ej_mul (ej_mul (ej_dat 0) (ej_dat 0) (cmz hc hc)) (ej_dat 2) (cmz (hc.mul hc) hd)) (ej_dat 1)) (fun h => ?_) (fun h => ?_)
  · rw [if_pos (of_decide_eq_true h)]; exact sj_ret ej_int ⟨rfl, rfl⟩
  rw [if_neg (of_decide_eq_false h)]
  refine sj_set 3 G.nd (ej_mul (ej_mul (ej_add (ej_mul ej_int (ej_dat 0) (cmz b2 hc)) ej_int) (ej_add (ej_mul ej_int (ej_dat 0) (cmz b2 hc)) ej_int) (cmz h2c h2c)) (ej_dat 2) (cmz (h2c.mul h2c) hd)) ?_
  refine sj_when (tj_lt (ej_mul ej_int (ej_dat 1) (cmz b4 hn)) (ej_dat 3)) (fun h => ?_) (fun h => ?_)
  · rw [if_pos (of_decide_eq_true h)]; exact sj_ret ej_int ⟨rfl, rfl⟩
  rw [if_neg (of_decide_eq_false h)]
  refine sj_ret (ej_is (ej_ifV (tj_eqI G.hu (ej_mul ej_int (ej_dat 1) (cmz b4 hn)) (ej_dat 3)) (fun _ => ej_int) fun _ => ej_int) ?_) ⟨rfl, rfl⟩
  by_cases h : 4 * n = (2 * c + 1) * (2 * c + 1) * d
  · rw [if_pos h, decide_eq_true h]; rfl
  · rw [if_neg h, decide_eq_false h]; rfl

abbrev s_u_nearest : Stmt := topS 46
theorem sc_u_nearest : FnScope ["form", "way", "s", "spot", "base", "digits", "_", "e", "c", "part"] ["form", "way", "s", "spot"] (defScope s_u_nearest) := ⟨rfl, rfl, rfl, by decide +kernel, rfl, by decide +kernel, by decide +kernel⟩

theorem c_of_u_nearest (c_is_taken_outward : Cal P w K mg base "is_taken_outward" 4 R_outw) (c_integer_power : Cal P w K mg base "integer_power" 4 R_pow) (T : At K mg "_nearest" s_u_nearest ["form", "way", "s", "spot"]) : Cal P w K mg base "_nearest" 5 R_nearest :=
  cal_at T sc_u_nearest (by rintro _ _ _ _ ⟨⟩; rfl) fun f cd0 A out s H E G Γ B r B' hR => by
  obtain ⟨b, p, low, high, way, s, e, c, part, B, F⟩ := hR
  have b2 := F.b2; have p2 := F.p2; have p7 := F.p7
  refine sj_unpack [4, 5, 6, 6] G.calm (ej_dat (d := .tuple [.int b, .int p, .int low, .int high]) 0) (pgs_cons (pg_name (i := 4) G.nd rfl (Or.inl rfl)) (pgs_cons (pg_name (i := 5) G.nd rfl (Or.inl rfl)) (pgs_cons (pg_name (i := 6) G.nd rfl (Or.inl rfl)) (pgs_cons (pg_name (i := 6) G.nd rfl (Or.inl rfl)) pgs_nil)))) rfl ?_
  refine sj_unpack [7, 8, 9] G.calm (ej_dat (d := .tuple [.int e, .int c, .int part]) 3) (pgs_cons (pg_name (i := 7) G.nd rfl (Or.inl rfl)) (pgs_cons (pg_name (i := 8) G.nd rfl (Or.inl rfl)) (pgs_cons (pg_name (i := 9) G.nd rfl (Or.inl rfl)) pgs_nil))) rfl ?_
  refine sj_when (tj_not (tj_val (ej_call c_is_taken_outward (G.le (by decide)) (aj_cons (ej_dat 1) (aj_cons (ej_dat 2) (aj_cons (ej_dat 8) (aj_cons (ej_dat 9) aj_nil)))) (R_outw.mk way s c part B)))) (fun h => ?_) (fun h => ?_)
  · have ho : outw way s c part = false := by simpa using h
    rw [ho]
    exact sj_ret (ej_tupD (ad_cons ej_str (ad_cons (ej_dat 2) (ad_cons (ej_dat 8) (ad_cons (ej_dat 7) ad_nil)))) (Nat.le_of_ble_eq_true rfl)) ⟨rfl, rfl⟩
  · have ho : outw way s c part = true := by simpa using h
    rw [ho]
    unfold nb upN
    rw [if_pos rfl]
    refine sj_when (tj_eqI G.hu (ej_add (ej_dat 8) ej_int) (ej_call c_integer_power (G.le (by decide)) (aj_cons (ej_dat 4) (aj_cons (ej_dat 5) aj_nil)) (R_pow.mk b p B F.b6 (by omega)))) (fun h => ?_) (fun h => ?_)
    · rw [if_pos (of_decide_eq_true h)]
      have e1 : (p : Int) - 1 = ((p - 1 : Nat) : Int) := by omega
      exact sj_ret (ej_tupD (ad_cons ej_str (ad_cons (ej_dat 2) (ad_cons (ej_call c_integer_power (G.le (by decide)) (aj_cons (ej_dat 4) (aj_cons (ej_is (ej_sub (ej_dat 5) ej_int) (congrArg PyData.int e1)) aj_nil)) (R_pow.mk b (p - 1) B F.b6 (by omega))) (ad_cons (ej_add (ej_dat 7) ej_int) ad_nil)))) (Nat.le_of_ble_eq_true rfl)) ⟨rfl, rfl⟩
    · rw [if_neg (of_decide_eq_false h)]
      exact sj_ret (ej_tupD (ad_cons ej_str (ad_cons (ej_dat 2) (ad_cons (ej_add (ej_dat 8) ej_int) (ad_cons (ej_dat 7) ad_nil)))) (Nat.le_of_ble_eq_true rfl)) ⟨rfl, rfl⟩

abbrev s_u_outcome : Stmt := topS 47
theorem sc_u_outcome : FnScope ["form", "way", "s", "spot", "base", "digits", "_", "high", "number", "c", "part"] ["form", "way", "s", "spot"] (defScope s_u_outcome) := ⟨rfl, rfl, rfl, by decide +kernel, rfl, by decide +kernel, by decide +kernel⟩

theorem c_of_u_outcome (c_u_nearest : Cal P w K mg base "_nearest" 5 R_nearest) (c_u_too_great : Cal P w K mg base "_too_great" 5 R_toog) (c_integer_power : Cal P w K mg base "integer_power" 4 R_pow) (T : At K mg "_outcome" s_u_outcome ["form", "way", "s", "spot"]) : Cal P w K mg base "_outcome" 6 R_outcome :=
  cal_at T sc_u_outcome (by rintro _ _ _ _ ⟨⟩; rfl) fun f cd0 A out s H E G Γ B r B' hR => by
  obtain ⟨b, p, low, high, way, s, e, c, part, B, F⟩ := hR
  have b2 := F.b2; have p2 := F.p2; have p7 := F.p7
  refine sj_unpack [4, 5, 6, 7] G.calm (ej_dat (d := .tuple [.int b, .int p, .int low, .int high]) 0) (pgs_cons (pg_name (i := 4) G.nd rfl (Or.inl rfl)) (pgs_cons (pg_name (i := 5) G.nd rfl (Or.inl rfl)) (pgs_cons (pg_name (i := 6) G.nd rfl (Or.inl rfl)) (pgs_cons (pg_name (i := 7) G.nd rfl (Or.inl rfl)) pgs_nil)))) rfl ?_
  refine sj_set 8 G.nd (ej_call c_u_nearest (G.le (by decide)) (aj_cons (ej_dat 0) (aj_cons (ej_dat 1) (aj_cons (ej_dat 2) (aj_cons (ej_dat 3) aj_nil)))) (R_nearest.mk b p low high way s e c part B F)) ?_
  unfold outP
  generalize (nb b p (outw way s c part) c e).1 = c'
  generalize (nb b p (outw way s c part) c e).2 = e'
  refine sj_when (tj_gt (ej_at (ej_dat (d := .tuple [.str "num", .int s, .int c', .int e']) 8)) (ej_dat 7)) (fun h => ?_) (fun h => ?_)
  · rw [if_pos (of_decide_eq_true h)]
    exact sj_ret (ej_tupD (ad_cons (ej_call c_u_too_great (G.le (by decide)) (aj_cons (ej_dat 0) (aj_cons (ej_dat 1) (aj_cons (ej_dat 2) aj_nil))) (R_toog.mk b p low high way s B F)) (ad_cons (ej_tupD (ad_cons ej_str (ad_cons ej_str ad_nil)) (Nat.le_of_ble_eq_true rfl)) ad_nil)) (Nat.le_of_ble_eq_true rfl)) ⟨rfl, rfl⟩
  · rw [if_neg (of_decide_eq_false h)]
    refine sj_unpack [6, 9, 10] G.calm (ej_dat (d := .tuple [.int e, .int c, .int part]) 3) (pgs_cons (pg_name (i := 6) G.nd rfl (Or.inl rfl)) (pgs_cons (pg_name (i := 9) G.nd rfl (Or.inl rfl)) (pgs_cons (pg_name (i := 10) G.nd rfl (Or.inl rfl)) pgs_nil))) rfl ?_
    refine sj_when (tj_eqI G.hu (ej_dat 10) ej_int) (fun h => ?_) (fun h => ?_)
    · rw [if_pos (of_decide_eq_true h)]
      exact sj_ret (ej_tupD (ad_cons (ej_dat 8) (ad_cons (ej_tupD ad_nil (Nat.le_of_ble_eq_true rfl)) ad_nil)) (Nat.le_of_ble_eq_true rfl)) ⟨rfl, rfl⟩
    · rw [if_neg (of_decide_eq_false h)]
      have e1 : (p : Int) - 1 = ((p - 1 : Nat) : Int) := by omega
      refine sj_when (tj_lt (ej_dat 9) (ej_call c_integer_power (G.le (by decide)) (aj_cons (ej_dat 4) (aj_cons (ej_is (ej_sub (ej_dat 5) ej_int) (congrArg PyData.int e1)) aj_nil)) (R_pow.mk b (p - 1) B F.b6 (by omega)))) (fun h => ?_) (fun h => ?_)
      · rw [if_pos (of_decide_eq_true h)]
        exact sj_ret (ej_tupD (ad_cons (ej_dat 8) (ad_cons (ej_tupD (ad_cons ej_str (ad_cons ej_str ad_nil)) (Nat.le_of_ble_eq_true rfl)) ad_nil)) (Nat.le_of_ble_eq_true rfl)) ⟨rfl, rfl⟩
      · rw [if_neg (of_decide_eq_false h)]
        exact sj_ret (ej_tupD (ad_cons (ej_dat 8) (ad_cons (ej_tupD (ad_cons ej_str ad_nil) (Nat.le_of_ble_eq_true rfl)) ad_nil)) (Nat.le_of_ble_eq_true rfl)) ⟨rfl, rfl⟩

abbrev s_u_too_great : Stmt := topS 48
theorem sc_u_too_great : FnScope ["form", "way", "s", "base", "digits", "_", "high"] ["form", "way", "s"] (defScope s_u_too_great) := ⟨rfl, rfl, rfl, by decide +kernel, rfl, by decide +kernel, by decide +kernel⟩

theorem c_of_u_too_great (c_integer_power : Cal P w K mg base "integer_power" 4 R_pow) (T : At K mg "_too_great" s_u_too_great ["form", "way", "s"]) : Cal P w K mg base "_too_great" 5 R_toog :=
  cal_at T sc_u_too_great (by rintro _ _ _ _ ⟨⟩; rfl) fun f cd0 A out s H E G Γ B r B' hR => by
  obtain ⟨b, p, low, high, way, s, B, F⟩ := hR
  have b2 := F.b2; have p2 := F.p2; have p7 := F.p7
  refine sj_unpack [3, 4, 5, 6] G.calm (ej_dat (d := .tuple [.int b, .int p, .int low, .int high]) 0) (pgs_cons (pg_name (i := 3) G.nd rfl (Or.inl rfl)) (pgs_cons (pg_name (i := 4) G.nd rfl (Or.inl rfl)) (pgs_cons (pg_name (i := 5) G.nd rfl (Or.inl rfl)) (pgs_cons (pg_name (i := 6) G.nd rfl (Or.inl rfl)) pgs_nil)))) rfl ?_
  refine sj_when (x := isInf way s) (tj_is (tj_w (wj_or (tj_inT (ss := ["even", "away"]) (ej_dat 1) (ej_tupD (ad_cons ej_str (ad_cons ej_str ad_nil)) (Nat.le_of_ble_eq_true rfl))) fun _ => wj_or (tj_w (wj_and (tj_eqS (ej_dat 1) ej_str) fun _ => wj_and1 (tj_eqI G.hu (ej_dat 2) ej_int))) fun _ => wj_or1 (tj_w (wj_and (tj_eqS (ej_dat 1) ej_str) fun _ => wj_and1 (tj_eqI G.hu (ej_dat 2) ej_int))))) (isInf_or way s)) (fun h => ?_) (fun h => ?_)
  · exact sj_ret (ej_tupD (ad_cons ej_str (ad_cons (ej_dat 2) ad_nil)) (Nat.le_of_ble_eq_true rfl)) ⟨by unfold tooG; rw [if_pos h], rfl⟩
  · exact sj_ret (ej_tupD (ad_cons ej_str (ad_cons (ej_dat 2) (ad_cons (ej_sub (ej_call c_integer_power (G.le (by decide)) (aj_cons (ej_dat 3) (aj_cons (ej_dat 4) aj_nil)) (R_pow.mk b p B F.b6 (by omega))) ej_int) (ad_cons (ej_dat 6) ad_nil)))) (Nat.le_of_ble_eq_true rfl)) ⟨by unfold tooG; rw [if_neg (by rw [h]; decide)]; rfl, rfl⟩

abbrev s_hull : Stmt := topS 53
theorem sc_hull : FnScope ["form", "one", "other"] ["form", "one", "other"] (defScope s_hull) := ⟨rfl, rfl, rfl, by decide +kernel, rfl, by decide +kernel, by decide +kernel⟩

theorem c_of_hull (m_min : mg "min" = none) (m_max : mg "max" = none) (g_none : Glob K mg "NO_NUMBERS" noneP) (c_place_of : Cal P w K mg base "place_of" 4 (R_val plD (fun _ => True))) (T : At K mg "hull" s_hull ["form", "one", "other"]) : Cal P w K mg base "hull" 6 (R_sp2 hullD) :=
  cal_at T sc_hull (by rintro _ _ _ _ ⟨⟩; rfl) fun f cd0 A out s0 H E0 G Γ B r B' hR => by
  obtain ⟨b, p, low, high, s, t, B, F, hs, ht⟩ := hR
  refine sj_when (x := s.isN) (tj_is (tj_eq G.hu (ej_dat (d := s.d) 1) (ej_glob g_none) (sh_sp s).shaped sh_noneP) (sp_none s)) (fun h => ?_) (fun h => ?_)
  · cases s with
    | none => exact sj_ret (ej_dat (d := t.d) 2) ⟨by cases t <;> rfl, rfl⟩
    | span u v => cases h
  cases s with
  | none => cases h
  | span u v =>
    refine sj_when (x := t.isN) (tj_is (tj_eq G.hu (ej_dat (d := t.d) 2) (ej_glob g_none) (sh_sp t).shaped sh_noneP) (sp_none t)) (fun h => ?_) (fun h => ?_)
    · cases t with
      | none => exact sj_ret (ej_dat (d := (Sp.span u v).d) 1) ⟨rfl, rfl⟩
      | span u v => cases h
    cases t with
    | none => cases h
    | span x y =>
      exact sj_ret (ej_tupD (ad_cons ej_str (ad_cons (ej_is (ej_minK2 (k1 := plD u) (k2 := plD x) c_place_of (G.le (by decide)) m_min (ej_tupD (ad_cons (ej_at (y := u.d) (ej_dat (d := .tuple [.str "span", u.d, v.d]) 1)) (ad_cons (ej_at (y := x.d) (ej_dat (d := .tuple [.str "span", x.d, y.d]) 2)) ad_nil)) (Nat.le_of_ble_eq_true rfl)) (R_val.mk u B trivial) (R_val.mk x B trivial) (pl_al u x) (pl_ok u x)) (min_d u x)) (ad_cons (ej_is (ej_maxK2 (k1 := plD v) (k2 := plD y) c_place_of (G.le (by decide)) m_max (ej_tupD (ad_cons (ej_at (y := v.d) (ej_dat (d := .tuple [.str "span", u.d, v.d]) 1)) (ad_cons (ej_at (y := y.d) (ej_dat (d := .tuple [.str "span", x.d, y.d]) 2)) ad_nil)) (Nat.le_of_ble_eq_true rfl)) (R_val.mk v B trivial) (R_val.mk y B trivial) (pl_al v y) (pl_ok v y)) (max_d v y)) ad_nil))) (Nat.le_of_ble_eq_true rfl)) ⟨rfl, rfl⟩

abbrev s_low_end : Stmt := topS 54
theorem sc_low_end : FnScope ["form", "x"] ["form", "x"] (defScope s_low_end) := ⟨rfl, rfl, rfl, by decide +kernel, rfl, by decide +kernel, by decide +kernel⟩

theorem c_of_low_end (c_rounded : Cal P w K mg base "rounded" 7 R_rounded) (T : At K mg "low_end" s_low_end ["form", "x"]) : Cal P w K mg base "low_end" 8 (R_endx loV) :=
  cal_at T sc_low_end (by rintro _ _ _ _ ⟨⟩; rfl) fun f cd0 A out s0 H E0 G Γ B r B' hR => by
  obtain ⟨b, p, low, high, x, n, d, B, F, hx, hn, hd⟩ := hR
  have r1 := R_rounded.mk b p low high "down" x 0 n d B F (by decide) (.inl rfl) hx hn hd
  rw [rdP_eq] at r1
  exact sj_ret (ej_at (ds := [(rdV b p low high "down" x 0).d, words (rdF b p low high "down" x 0)]) (ej_call c_rounded (G.le (by decide)) (aj_cons (ej_dat 0) (aj_cons ej_str (aj_cons (ej_dat 1) (aj_cons ej_int aj_nil)))) (r1))) ⟨rfl, rfl⟩

abbrev s_high_end : Stmt := topS 55
theorem sc_high_end : FnScope ["form", "x", "value"] ["form", "x"] (defScope s_high_end) := ⟨rfl, rfl, rfl, by decide +kernel, rfl, by decide +kernel, by decide +kernel⟩

theorem c_of_high_end (c_rounded : Cal P w K mg base "rounded" 7 R_rounded) (c_is_zero : Cal P w K mg base "is_zero" 5 (R_val (fun v => .bool v.isZ) (fun _ => True))) (c_zero : Cal P w K mg base "zero" 4 R_zero) (T : At K mg "high_end" s_high_end ["form", "x"]) : Cal P w K mg base "high_end" 8 (R_endx upV) :=
  cal_at T sc_high_end (by rintro _ _ _ _ ⟨⟩; rfl) fun f cd0 A out s0 H E0 G Γ B r B' hR => by
  obtain ⟨b, p, low, high, x, n, d, B, F, hx, hn, hd⟩ := hR
  have r1 := R_rounded.mk b p low high "up" x 0 n d B F (by decide) (.inl rfl) hx hn hd
  rw [rdP_eq] at r1
  unfold upV
  generalize rdV b p low high "up" x 0 = v at *
  refine sj_set 2 G.nd (d := .da v.d) (ej_at (ds := [v.d, words (rdF b p low high "up" x 0)]) (ej_call c_rounded (G.le (by decide)) (aj_cons (ej_dat 0) (aj_cons ej_str (aj_cons (ej_dat 1) (aj_cons ej_int aj_nil)))) (r1))) ?_
  cases h : v.isZ with
  | true =>
    rw [if_pos rfl]
    exact sj_ret (ej_ifT (tj_is (tj_val (ej_call c_is_zero (G.le (by decide)) (aj_cons (ej_dat (d := v.d) 2) aj_nil) (R_val.mk v B trivial))) h) (ej_call c_zero (G.le (by decide)) (aj_cons (ej_dat (d := fmP b p low high) 0) (aj_cons ej_int aj_nil)) (R_zero.mk b p low high 0 B))) ⟨rfl, rfl⟩
  | false =>
    rw [if_neg Bool.false_ne_true]
    exact sj_ret (ej_ifF (tj_is (tj_val (ej_call c_is_zero (G.le (by decide)) (aj_cons (ej_dat (d := v.d) 2) aj_nil) (R_val.mk v B trivial))) h) (ej_dat (d := v.d) 2)) ⟨rfl, rfl⟩

abbrev s_span_result : Stmt := topS 57
theorem sc_span_result : FnScope ["form", "word", "spans", "reaches", "one"] ["form", "word", "spans"] (defScope s_span_result) := ⟨rfl, rfl, rfl, by decide +kernel, rfl, by decide +kernel, by decide +kernel⟩

theorem c_of_span_result (m_any : mg "any" = none) (g_none : Glob K mg "NO_NUMBERS" noneP) (c_u_reach_of : Cal P w K mg base "_reach_of" 7 R_reach) (c_reached : Cal P w K mg base "reached" 8 R_reached) (c_u_least_span : Cal P w K mg base "_least_span" 9 R_lsp) (T : At K mg "span_result" s_span_result ["form", "word", "spans"]) : Cal P w K mg base "span_result" 10 R_spres :=
  cal_at T sc_span_result (by rintro _ _ _ _ (_ | _) <;> rfl) fun f cd0 A out s0 H E0 G Γ B r B' hR => by
  cases hR with
  | none b p low high w L B F hL h hl =>
    refine sj_when (x := true) (tj_val (ej_is (ej_any (bs := L.map Sp.isN) G.calm m_any (ej_is (x := .list (L.map fun s => PyData.bool s.isN)) (ej_lcT (B1 := B) (x := "one") (j := 4) G.nd G.calm (blkOk_by (N := ["form", "word", "spans", "reaches", "one"]) (sc := defScope s_span_result) (by decide +kernel)) (fun _ _ _ _ _ => pg_name (i := 4) G.nd rfl (Or.inl rfl)) (rj_lcT (ds := L.map Sp.d) (ys := L.map fun s => PyData.bool s.isN) (fun _ => B) (ej_dat (d := .tuple (L.map Sp.d)) 2) (by simp only [List.length_map]) (by rw [List.length_map]; omega) (fun i y z hy hz => ?_))) (by rw [List.map_map]; rfl))) (congrArg PyData.bool (by rw [List.any_map]; exact List.any_eq_true.mpr ⟨_, h, rfl⟩)))) (fun _ => sj_ret (ej_tupD (ad_cons (ej_glob g_none) (ad_cons ej_bl ad_nil)) (Nat.le_of_ble_eq_true rfl)) ⟨rfl, rfl⟩) (fun h => Bool.noConfusion h)
    rw [List.getElem?_map] at hy hz
    obtain ⟨s, hs, rfl⟩ := Option.map_eq_some_iff.mp hy
    rw [hs] at hz
    obtain rfl : PyData.bool s.isN = z := Option.some.inj hz
    intro s1 H1 C1 cl1 fp1
    exact ej_is (ej_eq G.hu (ej_dat (d := s.d) 4) (ej_glob g_none) (sh_sp s).shaped sh_noneP) (congrArg PyData.bool (sp_none s))
  | some b p low high w L r B F hL h hl =>
    refine sj_when (x := false) (tj_val (ej_is (ej_any (bs := L.map fun _ => false) G.calm m_any (ej_is (x := .list (L.map fun _ => PyData.bool false)) (ej_lcT (B1 := B) (x := "one") (j := 4) G.nd G.calm (blkOk_by (N := ["form", "word", "spans", "reaches", "one"]) (sc := defScope s_span_result) (by decide +kernel)) (fun _ _ _ _ _ => pg_name (i := 4) G.nd rfl (Or.inl rfl)) (rj_lcT (ds := L.map fun s => (Sp.span s.1 s.2).d) (ys := L.map fun _ => PyData.bool false) (fun _ => B) (ej_dat (d := .tuple (L.map fun s => (Sp.span s.1 s.2).d)) 2) (by simp only [List.length_map]) (by rw [List.length_map]; omega) (fun i y z hy hz => ?_))) (by rw [List.map_map]; rfl))) (congrArg PyData.bool (by rw [List.any_map]; exact List.any_eq_false.mpr fun s _ z => by cases z)))) (fun h => Bool.noConfusion h) (fun _ => ?_)
    · rw [List.getElem?_map] at hy hz
      obtain ⟨s, hs, rfl⟩ := Option.map_eq_some_iff.mp hy
      rw [hs] at hz
      obtain rfl : PyData.bool false = z := Option.some.inj hz
      intro s1 H1 C1 cl1 fp1
      exact ej_is (ej_eq G.hu (ej_dat (d := (Sp.span s.1 s.2).d) 4) (ej_glob g_none) (sh_sp (Sp.span s.1 s.2)).shaped sh_noneP) (congrArg PyData.bool (sp_none (Sp.span s.1 s.2)))
    have hL2 : ∀ a ∈ L.map (fun s => (Xe.of b s.1, Xe.of b s.2)), Rok (b ^ (-low).toNat) a := fun a ha => by
      obtain ⟨s, hs, rfl⟩ := List.mem_map.mp ha
      exact reach_ok F (hL s hs)
    refine sj_setLcT (B1 := B) 3 (j := 4) (x := "one") (d := .da (.list ((L.map fun s => (Xe.of b s.1, Xe.of b s.2)).map rD))) G.nd G.calm (blkOk_by (N := ["form", "word", "spans", "reaches", "one"]) (sc := defScope s_span_result) (by decide +kernel)) (fun _ _ _ _ _ => pg_name (i := 4) G.nd rfl (Or.inl rfl))
      (rj_lcT (ds := L.map fun s => (Sp.span s.1 s.2).d) (ys := (L.map fun s => (Xe.of b s.1, Xe.of b s.2)).map rD) (fun _ => B) (ej_dat (d := .tuple (L.map fun s => (Sp.span s.1 s.2).d)) 2) (by simp only [List.length_map]) (by rw [List.length_map]; omega) (fun i y z hy hz => ?_)) ?_ (sw_true rfl rfl rfl (by decide +kernel))
    · rw [List.map_map, List.getElem?_map] at hz
      rw [List.getElem?_map] at hy
      obtain ⟨s, hs, rfl⟩ := Option.map_eq_some_iff.mp hy
      rw [hs] at hz
      obtain rfl : rD (Xe.of b s.1, Xe.of b s.2) = z := Option.some.inj hz
      intro s1 H1 C1 cl1 fp1
      exact (ej_call c_u_reach_of ⟨G.gd, G.rm.mono (by decide), G.nd, G.calm⟩ (aj_cons (ej_dat 0) (aj_cons (ej_dat (d := (Sp.span s.1 s.2).d) 4) aj_nil)) (R_reach.mk b p low high s.1 s.2 B F (hL s (List.mem_of_getElem? hs))))
    obtain ⟨w1, w2⟩ := op_word h
    have hb0 : 0 < b ^ (-low).toNat := Nat.pow_pos (by have := F.b2; omega)
    obtain ⟨q1, q2, q3, q4⟩ := op_ok hb0 F.bl h hL2
    generalize hK : L.map (fun s => (Xe.of b s.1, Xe.of b s.2)) = K2 at *
    refine sj_when (x := false) (tj_is (tj_eqS (ej_dat 1) ej_str) w1) (fun h => Bool.noConfusion h) (fun _ => ?_)
    refine sj_when (x := false) (tj_is (tj_eqS (ej_dat 1) ej_str) w2) (fun h => Bool.noConfusion h) (fun _ => ?_)
    exact sj_ret (ej_tupD (ad_cons (ej_call c_u_least_span (G.le (by decide)) (aj_cons (ej_dat 0) (aj_cons (ej_call c_reached (G.le (by decide)) (aj_cons (ej_dat 1) (aj_cons (ej_dat (d := .list (K2.map rD)) 3) aj_nil)) (R_reached.mk w K2 r (b ^ (-low).toNat) B h hL2)) aj_nil)) (R_lsp.mk b p low high r B F q1 q2 q3 q4)) (ad_cons ej_bl ad_nil)) (Nat.le_of_ble_eq_true rfl)) ⟨rfl, rfl⟩

abbrev s_u_reach_of : Stmt := topS 58
theorem sc_u_reach_of : FnScope ["form", "one", "low", "high"] ["form", "one"] (defScope s_u_reach_of) := ⟨rfl, rfl, rfl, by decide +kernel, rfl, by decide +kernel, by decide +kernel⟩

theorem c_of_u_reach_of (g_nohigh : Glob K mg "NO_HIGH" Xe.hi.d) (g_nolow : Glob K mg "NO_LOW" Xe.lo.d) (c_is_finite : Cal P w K mg base "is_finite" 4 (R_val (fun v => .bool v.isNum) (fun _ => True))) (c_worth : Cal P w K mg base "worth" 6 R_worth) (T : At K mg "_reach_of" s_u_reach_of ["form", "one"]) : Cal P w K mg base "_reach_of" 7 R_reach :=
  cal_at T sc_u_reach_of (by rintro _ _ _ _ ⟨⟩; rfl) fun f cd0 A out s0 H E0 G Γ B r B' hR => by
  obtain ⟨b, p, low, high, u, v, B, F, hs⟩ := hR
  obtain ⟨⟨⟨hu, nu⟩, hv, nv⟩, pu, pv, iu, iv, hle⟩ := hs
  refine sj_set 2 G.nd (B1 := B) (d := .da (Xe.of b u).d) ?_ ?_
  · cases u with
    | nan => cases nu
    | inf s =>
      rcases hu with rfl | rfl
      · exact absurd rfl iu
      · exact ej_ifF (tj_is (tj_val (ej_call c_is_finite (G.le (by decide)) (aj_cons (ej_at (y := (Va.inf 1).d) (ej_dat (d := .tuple [.str "span", (Va.inf 1).d, v.d]) 1)) aj_nil) (R_val.mk (Va.inf 1) B trivial))) rfl) (ej_glob g_nolow)
    | num s c e => exact ej_ifT (tj_is (tj_val (ej_call c_is_finite (G.le (by decide)) (aj_cons (ej_at (y := (Va.num s c e).d) (ej_dat (d := .tuple [.str "span", (Va.num s c e).d, v.d]) 1)) aj_nil) (R_val.mk (Va.num s c e) B trivial))) rfl) (ej_call c_worth (G.le (by decide)) (aj_cons (ej_dat 0) (aj_cons (ej_at (y := (Va.num s c e).d) (ej_dat (d := .tuple [.str "span", (Va.num s c e).d, v.d]) 1)) aj_nil)) (R_worth.mk b p low high s c e B F hu.ok))
  refine sj_set 3 G.nd (B1 := B) (d := .da (Xe.of b v).d) ?_ ?_
  · cases v with
    | nan => cases nv
    | inf s =>
      rcases hv with rfl | rfl
      · exact ej_ifF (tj_is (tj_val (ej_call c_is_finite (G.le (by decide)) (aj_cons (ej_at (y := (Va.inf 0).d) (ej_dat (d := .tuple [.str "span", u.d, (Va.inf 0).d]) 1)) aj_nil) (R_val.mk (Va.inf 0) B trivial))) rfl) (ej_glob g_nohigh)
      · exact absurd rfl iv
    | num s c e => exact ej_ifT (tj_is (tj_val (ej_call c_is_finite (G.le (by decide)) (aj_cons (ej_at (y := (Va.num s c e).d) (ej_dat (d := .tuple [.str "span", u.d, (Va.num s c e).d]) 1)) aj_nil) (R_val.mk (Va.num s c e) B trivial))) rfl) (ej_call c_worth (G.le (by decide)) (aj_cons (ej_dat 0) (aj_cons (ej_at (y := (Va.num s c e).d) (ej_dat (d := .tuple [.str "span", u.d, (Va.num s c e).d]) 1)) aj_nil)) (R_worth.mk b p low high s c e B F hv.ok))
  exact sj_ret (ej_tupD (ad_cons (ej_dat (d := (Xe.of b u).d) 2) (ad_cons (ej_dat (d := (Xe.of b v).d) 3) ad_nil)) (Nat.le_of_ble_eq_true rfl)) ⟨rfl, rfl⟩

abbrev s_u_least_span : Stmt := topS 59
theorem sc_u_least_span : FnScope ["form", "reach", "low", "high"] ["form", "reach"] (defScope s_u_least_span) := ⟨rfl, rfl, rfl, by decide +kernel, rfl, by decide +kernel, by decide +kernel⟩

theorem c_of_u_least_span (g_nohigh : Glob K mg "NO_HIGH" Xe.hi.d) (g_nolow : Glob K mg "NO_LOW" Xe.lo.d) (g_bottom : Glob K mg "BOTTOM" (Va.inf 1).d) (g_top : Glob K mg "TOP" (Va.inf 0).d) (c_low_end : Cal P w K mg base "low_end" 8 (R_endx loV)) (c_high_end : Cal P w K mg base "high_end" 8 (R_endx upV)) (T : At K mg "_least_span" s_u_least_span ["form", "reach"]) : Cal P w K mg base "_least_span" 9 R_lsp :=
  cal_at T sc_u_least_span (by rintro _ _ _ _ ⟨⟩; rfl) fun f cd0 A out s0 H E0 G Γ B r B' hR => by
  obtain ⟨b, p, low, high, a, B, F, b1, b2, l1, l2⟩ := hR
  obtain ⟨x, y⟩ := a
  have l1 : x ≠ .hi := l1
  have l2 : y ≠ .lo := l2
  have b1 : x.bd 8900 6500 := b1
  have b2 : y.bd 8900 6500 := b2
  refine sj_unpack [2, 3] (ds := [x.d, y.d]) G.calm (ej_dat (d := .tuple [x.d, y.d]) 1) (pgs_cons (pgN 2 G.nd) (pgs_cons (pgN 3 G.nd) pgs_nil)) rfl ?_
  refine sj_ret (ej_tupD (ad_cons ej_str (ad_cons (ej_if (d := .da (loX b p low high x).d) (B1 := B) (tj_is (x := PyData.eqv x.d Xe.lo.d) (tj_eq G.hu (ej_dat (d := x.d) 2) (ej_glob g_nolow) (Xe.sh x) (Xe.sh .lo)) (Xe.eqvB x .lo)) (fun h => ?_) (fun h => ?_)) (ad_cons (ej_if (d := .da (upX b p low high y).d) (B1 := B) (tj_is (x := PyData.eqv y.d Xe.hi.d) (tj_eq G.hu (ej_dat (d := y.d) 3) (ej_glob g_nohigh) (Xe.sh y) (Xe.sh .hi)) (Xe.eqvB y .hi)) (fun h => ?_) (fun h => ?_)) ad_nil))) (Nat.le_of_ble_eq_true rfl)) ⟨rfl, rfl⟩
  · have h := of_decide_eq_true h
    subst h
    exact ej_glob g_bottom
  · have h := of_decide_eq_false h
    cases x with
    | lo => exact absurd rfl h
    | hi => exact absurd rfl l1
    | q r => exact (ej_call c_low_end (G.le (by decide)) (aj_cons (ej_dat 0) (aj_cons (ej_dat (d := fq r) 2) aj_nil)) (R_endx.mk b p low high r 8900 6500 B F b1 (by decide) (by decide)))
  · have h := of_decide_eq_true h
    subst h
    exact ej_glob g_top
  · have h := of_decide_eq_false h
    cases y with
    | lo => exact absurd rfl l2
    | hi => exact absurd rfl h
    | q r => exact (ej_call c_high_end (G.le (by decide)) (aj_cons (ej_dat 0) (aj_cons (ej_dat (d := fq r) 3) aj_nil)) (R_endx.mk b p low high r 8900 6500 B F b2 (by decide) (by decide)))

abbrev s_u_root_result : Stmt := topS 60
theorem sc_u_root_result : FnScope ["form", "reach", "low", "high", "least", "greatest"] ["form", "reach"] (defScope s_u_root_result) := ⟨rfl, rfl, rfl, by decide +kernel, rfl, by decide +kernel, by decide +kernel⟩

theorem c_of_u_root_result (g_none : Glob K mg "NO_NUMBERS" noneP) (g_nohigh : Glob K mg "NO_HIGH" Xe.hi.d) (g_top : Glob K mg "TOP" (Va.inf 0).d) (c_rounded_root : Cal P w K mg base "rounded_root" 7 R_rroot) (T : At K mg "_root_result" s_u_root_result ["form", "reach"]) : Cal P w K mg base "_root_result" 8 R_rootr :=
  cal_at T sc_u_root_result (by rintro _ _ _ _ (_ | _) <;> rfl) fun f cd0 A out s0 H E0 G Γ B r B' hR => by
  cases hR with
  | no b p low high a N B F hk hn =>
    refine sj_unpack [2, 3] (ds := [a.1.d, a.2.d]) G.calm (ej_dat (d := .tuple [a.1.d, a.2.d]) 1) (pgs_cons (pgN 2 G.nd) (pgs_cons (pgN 3 G.nd) pgs_nil)) rfl ?_
    exact sj_when (x := true) (tj_is (tj_lt (ej_at (ej_is (ej_dat (d := a.2.d) 3) a.2.pair)) ej_int) (decide_eq_true hn)) (fun _ => sj_ret (ej_tupD (ad_cons (ej_glob g_none) (ad_cons ej_bl ad_nil)) (Nat.le_of_ble_eq_true rfl)) ⟨rfl, rfl⟩) (fun h => Bool.noConfusion h)
  | mk b p low high a N B F hk hn r1 r2 =>
    obtain ⟨x, y⟩ := a
    have e0 : ∀ way : Str, rtP b p low high way 0 = .tuple [(Va.num 0 0 low).d, words []] := fun way => by unfold rtP; rw [if_pos rfl]; rfl
    have l1 : x ≠ .hi := hk.l1
    have l2 : y ≠ .lo := hk.l2
    have hn : 0 ≤ y.n := hn
    have r1 : x.rt b low := r1
    have r2 : y.rt b low := r2
    refine sj_unpack [2, 3] (ds := [x.d, y.d]) G.calm (ej_dat (d := .tuple [x.d, y.d]) 1) (pgs_cons (pgN 2 G.nd) (pgs_cons (pgN 3 G.nd) pgs_nil)) rfl ?_
    refine sj_when (x := false) (tj_is (tj_lt (ej_at (ej_is (ej_dat (d := y.d) 3) y.pair)) ej_int) (decide_eq_false (by omega))) (fun h => Bool.noConfusion h) (fun _ => ?_)
    refine sj_set 4 G.nd (B1 := B) (d := .da (rtLo b p low high x).d) ?_ ?_
    · by_cases h : 0 < x.n
      · cases x with
        | lo => exact absurd h (by decide)
        | hi => exact absurd rfl l1
        | q r =>
          have ok : RtOk b low r 3040 2341 := by
            rcases r1 with z | z | ⟨r', e, z⟩
            · exact absurd z (den_ne r)
            · exact absurd h (by omega)
            · injection e with e; rw [e]; exact z
          have rr := R_rroot.mk b p low high "down" r 3040 2341 B F (by decide) ok
          rw [rtP_eq ok.h0] at rr
          have ev : rtLo b p low high (.q r) = outV b p high "down" 0 (eR b p low r) (cR b (eR b p low r) r) (prR b (eR b p low r) r) := by
            show rtV b p low high "down" r = _
            unfold rtV
            rw [if_pos ok.h0]
          rw [ev]
          exact ej_at (ds := [_, words (outF b p high "down" 0 (eR b p low r) (cR b (eR b p low r) r) (prR b (eR b p low r) r))]) (ej_call c_rounded_root (G.le (by decide)) (aj_cons (ej_dat 0) (aj_cons ej_str (aj_cons (ej_ifT (tj_is (tj_gt (ej_at (ej_dat (d := fq r) 2)) ej_int) (decide_eq_true h)) (ej_dat (d := fq r) 2)) aj_nil))) (rr))
      · have ev : rtLo b p low high x = .num 0 0 low := by
          cases x with
          | q r =>
            show rtV b p low high "down" r = _
            unfold rtV
            rw [if_neg fun z => h (by
              have := Rat.lt_iff 0 r |>.mp z
              show 0 < r.num
              have this : 0 * (r.den : Int) < r.num * 1 := this
              omega)]
          | _ => rfl
        rw [ev]
        have rr := R_rroot.zero b p low high "down" B F (by decide)
        rw [e0] at rr
        exact ej_at (ds := [_, words []]) (ej_call c_rounded_root (G.le (by decide)) (aj_cons (ej_dat 0) (aj_cons ej_str (aj_cons (ej_ifF (tj_is (tj_gt (ej_at (ej_is (ej_dat (d := x.d) 2) x.pair)) ej_int) (decide_eq_false h)) (ej_is (y := fq 0) (ej_tupD (ad_cons ej_int (ad_cons ej_int ad_nil)) (Nat.le_of_ble_eq_true rfl)) rfl)) aj_nil))) (rr))
    refine sj_set 5 G.nd (B1 := B) (d := .da (rtUp b p low high y).d) ?_ ?_
    · cases y with
      | lo => exact absurd rfl l2
      | hi => exact ej_ifT (tj_is (tj_eq G.hu (ej_dat (d := Xe.hi.d) 3) (ej_glob g_nohigh) (Xe.sh .hi) (Xe.sh .hi)) rfl) (ej_glob g_top)
      | q r =>
        refine ej_ifF (tj_is (tj_eq G.hu (ej_dat (d := (Xe.q r).d) 3) (ej_glob g_nohigh) (Xe.sh (.q r)) (Xe.sh .hi)) ((Xe.eqvB (.q r) .hi).trans rfl)) ?_
        by_cases h : 0 < r
        · have ok : RtOk b low r 3040 2341 := by
            rcases r2 with z | z | ⟨r', e, z⟩
            · exact absurd z (den_ne r)
            · exfalso
              have := Rat.lt_iff 0 r |>.mp h
              have this : 0 * (r.den : Int) < r.num * 1 := this
              have z : r.num ≤ 0 := z
              omega
            · injection e with e; rw [e]; exact z
          have rr := R_rroot.mk b p low high "up" r 3040 2341 B F (by decide) ok
          rw [rtP_eq ok.h0] at rr
          have ev : rtUp b p low high (.q r) = outV b p high "up" 0 (eR b p low r) (cR b (eR b p low r) r) (prR b (eR b p low r) r) := by
            show rtV b p low high "up" r = _
            unfold rtV
            rw [if_pos ok.h0]
          rw [ev]
          exact ej_at (ds := [_, words (outF b p high "up" 0 (eR b p low r) (cR b (eR b p low r) r) (prR b (eR b p low r) r))]) (ej_call c_rounded_root (G.le (by decide)) (aj_cons (ej_dat 0) (aj_cons ej_str (aj_cons (ej_dat (d := fq r) 3) aj_nil))) (rr))
        · have er : r = 0 := by
            have hn : 0 ≤ r.num := hn
            have := Rat.num_nonneg.mp hn
            exact Rat.le_antisymm (by grind) this
          subst er
          have ev : rtUp b p low high (.q 0) = .num 0 0 low := by
            show rtV b p low high "up" 0 = _
            unfold rtV
            rw [if_neg h]
          rw [ev]
          have rr := R_rroot.zero b p low high "up" B F (by decide)
          rw [e0] at rr
          exact ej_at (ds := [_, words []]) (ej_call c_rounded_root (G.le (by decide)) (aj_cons (ej_dat 0) (aj_cons ej_str (aj_cons (ej_dat (d := fq 0) 3) aj_nil))) (rr))
    exact sj_ret (ej_tupD (ad_cons (ej_tupD (ad_cons ej_str (ad_cons (ej_dat (d := (rtLo b p low high x).d) 4) (ad_cons (ej_dat (d := (rtUp b p low high y).d) 5) ad_nil))) (Nat.le_of_ble_eq_true rfl)) (ad_cons (ej_ge (ej_at (ej_is (ej_dat (d := x.d) 2) x.pair)) ej_int) ad_nil)) (Nat.le_of_ble_eq_true rfl)) ⟨rfl, rfl⟩

abbrev s_u_quotient_result : Stmt := topS 61
theorem sc_u_quotient_result : FnScope ["form", "one", "other", "span", "part", "low", "high"] ["form", "one", "other"] (defScope s_u_quotient_result) := ⟨rfl, rfl, rfl, by decide +kernel, rfl, by decide +kernel, by decide +kernel⟩

theorem c_of_u_quotient_result (g_none : Glob K mg "NO_NUMBERS" noneP) (c_reciprocals : Cal P w K mg base "reciprocals" 7 (R_recs recL)) (c_hull : Cal P w K mg base "hull" 6 (R_sp2 hullD)) (c_u_least_span : Cal P w K mg base "_least_span" 9 R_lsp) (c_products : Cal P w K mg base "products" 7 (R_r2 prodX)) (T : At K mg "_quotient_result" s_u_quotient_result ["form", "one", "other"]) : Cal P w K mg base "_quotient_result" 10 R_quo :=
  cal_at T sc_u_quotient_result (by rintro _ _ _ _ ⟨⟩; rfl) fun f cd0 A out s0 H E0 G Γ B r B' hR => by
  obtain ⟨b, p, low, high, one, other, N, B, F, k1, k2⟩ := hR
  refine sj_set 3 G.nd (d := .da (Sp.d .none)) (ej_glob g_none) ?_
  have hp : ∀ r ∈ recL other, Pok r := fun r hr => by
    unfold recL at hr
    rcases List.mem_append.mp hr with hr | hr
    · split at hr
      · rw [List.mem_singleton.mp hr]; exact recN_ok k2 (by assumption)
      · cases hr
    · split at hr
      · rw [List.mem_singleton.mp hr]; exact recP_ok k2 (by assumption)
      · cases hr
  have hl : (recL other).length ≤ 2 := by unfold recL; split <;> split <;> simp
  have ht : ∀ r ∈ recL other, (lspX b p low high (prodX one r)).ok2 b p low high := fun r hr => by
    obtain ⟨_, _, q3, q4⟩ := quo_ok k1 (hp r hr)
    exact lsp_ok2 F q3 q4 (prod_le one r)
  have hq : (recL other).foldl (fun s r => hullS s (lspX b p low high (prodX one r))) .none = quoS b p low high one other := by
    unfold recL quoS
    by_cases h1 : other.1.n < 0
    · by_cases h2 : 0 < other.2.n
      · rw [if_pos h1, if_pos h2, if_pos h1, if_pos h2]; rfl
      · rw [if_pos h1, if_neg h2, if_pos h1, if_neg h2]; rfl
    · by_cases h2 : 0 < other.2.n
      · rw [if_neg h1, if_pos h2, if_neg h1, if_pos h2]; rfl
      · rw [if_neg h1, if_neg h2, if_neg h1, if_neg h2]; rfl
  rw [← hq]
  have rr := R_recs.mk (f := recL) other N B k2
  generalize recL other = L at *
  refine sj_forL (ds := L.map rD) 4 G.nd G.calm (fun i Γ' B' => (∃ g4, Γ' = [.da (fmP b p low high), .da (rD one), .da (rD other), .da ((L.take i).foldl (fun s r => hullS s (lspX b p low high (prodX one r))) Lw.Sp.none).d, g4, .no, .no]) ∧ B' = B) (ej_call c_reciprocals (G.le (by decide)) (aj_cons (ej_dat (d := rD other) 2) aj_nil) (rr)) ⟨⟨.no, rfl⟩, rfl⟩ (fun i yy Γ' B' hy hP => ?_) (fun Γ' B' hP => ?_)
  · obtain ⟨⟨g4, rfl⟩, rfl⟩ := hP
    rw [List.getElem?_map] at hy
    obtain ⟨r, hr, rfl⟩ := Option.map_eq_some_iff.mp hy
    have hm := List.mem_of_getElem? hr
    have hi := (List.getElem?_eq_some_iff.mp hr).1
    have so : ((L.take i).foldl (fun s r => hullS s (lspX b p low high (prodX one r))) Lw.Sp.none).ok2 b p low high := by
      match i, hi with
      | 0, _ => exact ⟨trivial, trivial⟩
      | 1, hi =>
        match L, hi with
        | r0 :: L', _ => exact ht r0 (List.mem_cons_self ..)
      | i + 2, hi => omega
    have step : (L.take (i + 1)).foldl (fun s r => hullS s (lspX b p low high (prodX one r))) Lw.Sp.none = hullS ((L.take i).foldl (fun s r => hullS s (lspX b p low high (prodX one r))) Lw.Sp.none) (lspX b p low high (prodX one r)) := by rw [List.take_add_one, hr, List.foldl_append]; rfl
    generalize (L.take i).foldl (fun s r => hullS s (lspX b p low high (prodX one r))) Lw.Sp.none = s at *
    obtain ⟨q1, q2, q3, q4⟩ := quo_ok k1 (hp r hm)
    have pk := hp r hm
    refine sj_set 3 G.nd (d := .da (hullS s (lspX b p low high (prodX one r))).d) (ej_call c_hull (G.le (by decide)) (aj_cons (ej_dat 0) (aj_cons (ej_dat (d := s.d) 3) (aj_cons (ej_call c_u_least_span (G.le (by decide)) (aj_cons (ej_dat 0) (aj_cons (ej_call c_products (G.le (by decide)) (aj_cons (ej_dat (d := rD one) 1) (aj_cons (ej_dat (d := rD r) 4) aj_nil)) (R_r2.mk one r 3040 2341 2342 3041 B' k1.b1 k1.b2 pk.b1 pk.b2 (by decide) (by decide) (by decide) ⟨by decide, by decide⟩)) aj_nil)) (R_lsp.mk b p low high (prodX one r) B' F q1 q2 q3 q4)) aj_nil))) (R_sp2.mk b p low high s (lspX b p low high (prodX one r)) B' F so (ht r hm))) (sj_nil ⟨⟨.da (rD r), by rw [step]; rfl⟩, rfl⟩)
  · obtain ⟨⟨g4, rfl⟩, rfl⟩ := hP
    rw [List.length_map, List.take_length]
    refine sj_unpack [5, 6] (ds := [other.1.d, other.2.d]) G.calm (ej_dat (d := .tuple [other.1.d, other.2.d]) 2) (pgs_cons (pgN 5 G.nd) (pgs_cons (pgN 6 G.nd) pgs_nil)) rfl ?_
    generalize L.foldl (fun s r => hullS s (lspX b p low high (prodX one r))) Lw.Sp.none = s at *
    exact sj_ret (ej_tupD (ad_cons (ej_dat (d := s.d) 3) (ad_cons (ej_or (ej_gt (ej_at (ej_is (ej_dat (d := other.1.d) 5) other.1.pair)) ej_int) fun _ => (ej_one (ej_lt (ej_at (ej_is (ej_dat (d := other.2.d) 6) other.2.pair)) ej_int))) ad_nil)) (Nat.le_of_ble_eq_true rfl)) ⟨rfl, rfl⟩

abbrev s_l_bag : Stmt := topS 63
theorem sc_l_bag : FnScope ["_law_script", "_law_cell"] ["_law_script"] (defScope s_l_bag) := ⟨rfl, rfl, rfl, by decide +kernel, rfl, by decide +kernel, by decide +kernel⟩

theorem c_of_l_bag (m_abs : mg "abs" = none) (T : At K mg "_law_bag" s_l_bag ["_law_script"]) : Cal P w K mg base "_law_bag" 4 R_bag :=
  cal_at T sc_l_bag (by rintro _ _ _ _ ⟨⟩; rfl) fun f cd0 A out s H E G Γ B r B' hR => by
  obtain ⟨ns, B, hl⟩ := hR
  refine sj_ret (ej_lstD (ad_cons ej_int (ad_cons ej_int (ad_cons ej_int (ad_cons (ej_lc (j := 1) (x := "_law_cell") G.nd G.calm (blkOk_by (N := ["_law_script", "_law_cell"]) (sc := defScope s_l_bag) (by decide +kernel)) (fun _ _ _ _ _ => pg_name (i := 1) G.nd rfl (Or.inl rfl))
    (rj_lc (ds := (ns.take 63).map .int) (ys := ((ns.take 63).map absI).map .int) (fun _ => B) (ej_is (ej_sliceScr (ej_var 0 (d := .scr ns) rfl (fun z => nomatch z)) oj_none (oj_some ej_int)) (congrArg PyData.list (cut_head ns 63)))
      (by simp) (by rw [List.length_map, List.length_take]; omega) ?_)) ad_nil)))) (Nat.le_of_ble_eq_true rfl)) ⟨rfl, rfl⟩
  intro i y z hy hz s H C cl fp
  rw [List.getElem?_map] at hy hz
  rw [List.getElem?_map] at hz
  obtain ⟨n, hn, rfl⟩ := Option.map_eq_some_iff.mp hy
  rw [hn] at hz
  cases hz
  exact ej_abs m_abs (ej_dat 1)

abbrev s_l_take : Stmt := topS 64
theorem sc_l_take : FnScope ["_law_bag_here", "_law_many", "_law_cell", "_law_stirred", "_law_value", "_law_begin", "_law_second"] ["_law_bag_here", "_law_many"] (defScope s_l_take) := ⟨rfl, rfl, rfl, by decide +kernel, rfl, by decide +kernel, by decide +kernel⟩

theorem c_of_l_take (m_int : mg "int" = none) (T : At K mg "_law_take" s_l_take ["_law_bag_here", "_law_many"]) : Cal P w K mg base "_law_take" 4 R_take :=
  cal_at T sc_l_take (by rintro _ _ _ _ ⟨⟩; rfl) fun f cd0 A out s H E G Γ B r B' hR => by
  obtain ⟨B, m, hm, hb, hc⟩ := hR
  refine sj_ifM (fun Γ' B2 => B2 = stir B ∧ Γ'[0]? = some .bag ∧ Γ'[1]? = some (.da (.int m)) ∧ Γ'.length = 7) (tj_eqI G.hu (ej_bagAt (k := 0) (ej_bag 0) ej_int rfl (.inl ⟨rfl, rfl⟩) fun _ _ => rfl) ej_int) (fun h => ?_) (fun h => ?_) ?_
  · have hx : B.x = 0 := of_decide_eq_true h
    refine sj_set 2 G.nd (ej_ixL (ej_catL (ej_sliceL (ej_bagAt (k := 3) (ej_bag 0) ej_int rfl (.inr (.inr (.inr ⟨rfl, rfl⟩))) fun _ _ => rfl) (oj_some (ej_bagAt (k := 2) (ej_bag 0) ej_int rfl (.inr (.inr (.inl ⟨rfl, rfl⟩))) fun _ _ => rfl)) oj_none) (ej_lstD (ad_cons ej_int ad_nil) (Nat.le_of_ble_eq_true rfl)) ?_) ej_int (drop_cell B) fun _ _ => rfl) ?_
    · have h63 : B.cs.length ≤ 63 := hc
      show (cutP (B.cs.map PyData.int) (some B.z) none).length + 1 ≤ 1000
      unfold cutP
      rw [List.length_take, List.length_drop, List.length_map]; omega
    refine sj_bagAug (ej_bag 0) ej_int ej_int rfl ?_
    refine sj_ifM (fun Γ' B2 => Γ' = [.bag, .da (.int m), .da (.int (cell B)), .no, .no, .no, .no] ∧ B2 = ⟨if 10 ^ 18 ≤ cell B then cell B else B.x, B.y, B.z + 1, B.cs⟩)
      (tj_ge (ej_dat 2) (ej_pow ej_int ej_int ⟨by decide, by decide, by decide⟩)) (fun h => ?_) (fun h => ?_) ?_
    · refine sj_bagSet (ej_dat 2) (ej_bag 0) ej_int (k := 0) rfl (.inl ⟨rfl, rfl⟩) (sj_nil ⟨rfl, ?_⟩)
      have h' : (10 : Int) ^ 18 ≤ cell B := of_decide_eq_true h
      rw [if_pos h']
    · refine sj_nil ⟨rfl, ?_⟩
      have h' : ¬ (10 : Int) ^ 18 ≤ cell B := of_decide_eq_false h
      rw [if_neg h']
    · rintro Γ2 B2 ⟨rfl, rfl⟩
      refine sj_set 3 G.nd (ej_add (ej_add (ej_mulC (ej_bagAt (k := 1) (ej_bag 0) ej_int rfl (.inr (.inl ⟨rfl, rfl⟩)) fun _ _ => rfl) ej_int (.inr (by decide))) (ej_mod (ej_int1 m_int (ej_dat 2)) ej_int (by decide)))
        (ej_mulC ej_int (ej_bagAt (k := 2) (ej_bag 0) ej_int rfl (.inr (.inr (.inl ⟨rfl, rfl⟩))) fun _ _ => rfl) (.inl (by decide)))) ?_
      refine sj_bagSet (ej_mod (ej_int1 m_int (ej_dat 3)) ej_int (by decide)) (ej_bag 0) ej_int (k := 1) rfl (.inr (.inl ⟨rfl, rfl⟩)) (sj_nil ⟨?_, rfl, rfl, rfl⟩)
      unfold stir
      rw [if_pos hx]
  · refine sj_nil ⟨?_, rfl, rfl, rfl⟩
    unfold stir
    rw [if_neg (of_decide_eq_false h)]
  · rintro Γ2 B2 ⟨rfl, g0, g1, gl⟩
    refine sj_when (tj_gt (ej_bagAt (k := 0) (ej_bag 0 g0) ej_int rfl (.inl ⟨rfl, rfl⟩) fun _ _ => rfl) ej_int) (fun h => ?_) (fun h => ?_)
    · have h' : 0 < (stir B).x := of_decide_eq_true h
      refine sj_set 4 G.nd (ej_mod (ej_int1 m_int (ej_bagAt (k := 0) (ej_bag 0 g0) ej_int rfl (.inl ⟨rfl, rfl⟩) fun _ _ => rfl)) (ej_dat 1 g1) hm) ?_
      have g0' : (Γ2.set 4 (.da (.int ((stir B).x % m))))[0]? = some .bag := by rw [List.getElem?_set_ne (by decide)]; exact g0
      have g1' : (Γ2.set 4 (.da (.int ((stir B).x % m))))[1]? = some (.da (.int m)) := by rw [List.getElem?_set_ne (by decide)]; exact g1
      have g4 : (Γ2.set 4 (.da (.int ((stir B).x % m))))[4]? = some (.da (.int ((stir B).x % m))) := List.getElem?_set_self (by omega)
      refine sj_bagSet (ej_fdiv (ej_int1 m_int (ej_bagAt (k := 0) (ej_bag 0 g0') ej_int rfl (.inl ⟨rfl, rfl⟩) fun _ _ => rfl)) (ej_dat 1 g1') (cdv hb hm)) (ej_bag 0 g0') ej_int (k := 0) rfl (.inl ⟨rfl, rfl⟩) ?_
      refine sj_ret (ej_dat 4 g4) ⟨?_, ?_⟩
      · unfold tkV; rw [if_pos h']
      · unfold tkB; rw [if_pos h']
    · have h' : ¬ 0 < (stir B).x := of_decide_eq_false h
      refine sj_set 5 G.nd (ej_mod (ej_int1 m_int (ej_mulC (ej_add (ej_bagAt (k := 1) (ej_bag 0 g0) ej_int rfl (.inr (.inl ⟨rfl, rfl⟩)) fun _ _ => rfl) ej_int) ej_int (.inr (by decide)))) ej_int (by decide)) ?_
      generalize hbg : (((stir B).y + 1) * 39373) % 1000000007 = bg
      have hb5 : 0 ≤ bg ∧ bg < 1000000007 := by rw [← hbg]; exact ⟨Int.emod_nonneg _ (by decide), Int.emod_lt_of_pos _ (by decide)⟩
      have g5 : (Γ2.set 5 (.da (.int bg)))[5]? = some (.da (.int bg)) := List.getElem?_set_self (by omega)
      refine sj_set 6 G.nd (ej_mod (ej_int1 m_int (ej_mulC (ej_mod (ej_int1 m_int (ej_mulC (ej_dat 5 g5) (ej_dat 5 g5) (.inl (by omega)))) ej_int (by decide)) ej_int (.inr (by decide)))) ej_int (by decide)) ?_
      have g6 : ((Γ2.set 5 (.da (.int bg))).set 6 (.da (.int ((bg * bg) % 998244353 * 30011 % 998244353))))[6]? = some (.da (.int ((bg * bg) % 998244353 * 30011 % 998244353))) := List.getElem?_set_self (by rw [List.length_set]; omega)
      have g1' : ((Γ2.set 5 (.da (.int bg))).set 6 (.da (.int ((bg * bg) % 998244353 * 30011 % 998244353))))[1]? = some (.da (.int m)) := by
        rw [List.getElem?_set_ne (by decide), List.getElem?_set_ne (by decide)]; exact g1
      refine sj_ret (ej_mod (ej_int1 m_int (ej_fdiv (ej_dat 6 g6) ej_int (cdv (show Bd 3 7 from by unfold Bd; decide) (by decide)))) (ej_dat 1 g1') hm) ⟨?_, ?_⟩
      · unfold tkV low; rw [if_neg h', hbg]
      · unfold tkB; rw [if_neg h']

abbrev s_l_some : Stmt := topS 65
theorem sc_l_some : FnScope ["_law_bag_here", "_law_things"] ["_law_bag_here", "_law_things"] (defScope s_l_some) := ⟨rfl, rfl, rfl, by decide +kernel, rfl, by decide +kernel, by decide +kernel⟩

theorem c_of_l_some (m_len : mg "len" = none) (c_l_take : Cal P w K mg base "_law_take" 4 R_take) (T : At K mg "_law_some" s_l_some ["_law_bag_here", "_law_things"]) : Cal P w K mg base "_law_some" 5 R_some :=
  cal_at T sc_l_some (by rintro _ _ _ _ ⟨⟩; rfl) fun f cd0 A out s H E G Γ B r B' hR => by
  obtain ⟨B, ds, h, hl, hc⟩ := hR
  have hb : Bd 8000 (ds.length : Int) := by
    have h10 : ds.length < 2 ^ 10 := by omega
    exact (Bd.nat h10).le (by decide)
  exact sj_ret (ej_ixL (ej_dat 1) (ej_call c_l_take (G.le (by decide)) (aj_cons (ej_bag 0) (aj_cons (ej_lenL m_len (ej_dat 1)) aj_nil)) (R_take.mk B _ (by omega) hb hc)) (pick_at ds B h) fun _ _ => rfl) ⟨rfl, rfl⟩


abbrev s_l_alike : Stmt := topS 66
theorem sc_l_alike : FnScope ["_law_found", "_law_due"] ["_law_found", "_law_due"] (defScope s_l_alike) := ⟨rfl, rfl, rfl, by decide +kernel, rfl, by decide +kernel, by decide +kernel⟩

theorem c_of_l_alike (nd : base.NoDigits) (m_repr : mg "repr" = none) (T : At K mg "_law_alike" s_l_alike ["_law_found", "_law_due"]) : Cal P w K mg base "_law_alike" 4 R_alikeT :=
  cal_at T sc_l_alike (by rintro _ _ _ _ ⟨⟩; rfl) fun f cd0 A out s H E G Γ B r B' hR => by
  obtain ⟨d, B, h, hb⟩ := hR
  rcases hb with hb | rfl | ⟨b, rfl⟩
  · refine sj_ret (ej_and (ej_eq G.hu (ej_dat 0) (ej_dat 1) h.shaped h.shaped) fun _ => (ej_one (ej_eqS (ej_reprB G nd m_repr (ej_dat 0) hb h) (ej_reprB G nd m_repr (ej_dat 1) hb h)))) ⟨?_, rfl⟩
    rw [eqv_refl_of h.shaped, decide_eq_true rfl]; rfl
  · refine sj_ret (ej_and (ej_eq G.hu (ej_dat 0) (ej_dat 1) h.shaped h.shaped) fun _ => (ej_one (ej_eqS (ej_reprN m_repr (ej_dat 0)) (ej_reprN m_repr (ej_dat 1))))) ⟨?_, rfl⟩
    rw [eqv_refl_of h.shaped, decide_eq_true rfl]; rfl
  · refine sj_ret (ej_and (ej_eq G.hu (ej_dat 0) (ej_dat 1) h.shaped h.shaped) fun _ => (ej_one (ej_eqS (ej_reprL m_repr (ej_dat 0)) (ej_reprL m_repr (ej_dat 1))))) ⟨?_, rfl⟩
    rw [eqv_refl_of h.shaped, decide_eq_true rfl]; rfl

abbrev s_l_common : Stmt := topS 67
theorem sc_l_common : FnScope ["_law_one", "_law_other"] ["_law_one", "_law_other"] (defScope s_l_common) := ⟨rfl, rfl, rfl, by decide +kernel, rfl, by decide +kernel, by decide +kernel⟩

theorem c_of_l_common (m_abs : mg "abs" = none) (m_int : mg "int" = none) (T : At K mg "_law_common" s_l_common ["_law_one", "_law_other"]) : Cal P w K mg base "_law_common" 4 R_common :=
  cal_at T sc_l_common (by rintro _ _ _ _ ⟨⟩; rfl) fun f cd0 A out s H E G Γ B r B' hR => by
  obtain ⟨n, d, B⟩ := hR
  refine sj_par 0 1 G.nd G.calm (aj_cons (ej_abs m_abs (ej_dat 0)) (aj_cons (ej_abs m_abs (ej_dat 1)) aj_nil)) ?_ (by decide) (by rfl)
  refine sj_while G.nd (fun Γ' B' => ∃ a c : Nat, Γ' = [.da (.int a), .da (.int c)] ∧ Nat.gcd a c = Nat.gcd n.natAbs d.natAbs ∧ B' = B) (fun Γ' _ => (intAt Γ' 1).toNat)
    ⟨n.natAbs, d.natAbs, by rw [absI_nat, absI_nat]; rfl, rfl, rfl⟩ ?_
  rintro Γ' B' ⟨a, c, rfl, hg, rfl⟩
  refine ⟨_, tj_gt (ej_dat 1) ej_int, fun h => ?_, fun h => ?_⟩
  · have hc : 0 < c := by have := of_decide_eq_true h; omega
    refine sj_par 0 1 G.nd G.calm (aj_cons (ej_dat 1) (aj_cons (ej_mod (ej_int1 m_int (ej_dat 0)) (ej_dat 1) (by omega)) aj_nil)) (sj_nil ?_) (by decide) (by rfl)
    rw [← Int.natCast_emod]
    refine ⟨⟨c, a % c, rfl, ?_, rfl⟩, show ((a % c : Nat) : Int).toNat < (c : Int).toNat from ?_⟩
    · rw [← hg, Nat.gcd_comm a c, Nat.gcd_rec c a, Nat.gcd_comm]
    · have := Nat.mod_lt a hc; omega
  · have hc : c = 0 := by have := of_decide_eq_false h; omega
    subst hc
    rw [Nat.gcd_zero_right] at hg
    exact sj_ret (ej_dat 0) ⟨by rw [hg], rfl⟩

abbrev s_l_to : Stmt := topS 68
theorem sc_l_to : FnScope ["_law_base", "_law_n", "_law_found", "_law_factor"] ["_law_base", "_law_n"] (defScope s_l_to) := ⟨rfl, rfl, rfl, by decide +kernel, rfl, by decide +kernel, by decide +kernel⟩

theorem c_of_l_to (m_int : mg "int" = none) (T : At K mg "_law_to" s_l_to ["_law_base", "_law_n"]) : Cal P w K mg base "_law_to" 4 R_pow :=
  cal_at T sc_l_to (by rintro _ _ _ _ ⟨⟩; rfl) fun f cd0 A out s H E G Γ B r B' hR => by
  obtain ⟨b, e, B, hb, he⟩ := hR
  refine sj_par 2 3 G.nd G.calm (aj_cons ej_int (aj_cons (ej_dat 0) aj_nil)) ?_ (by decide) (by rfl)
  refine sj_while G.nd (fun Γ' B' => ∃ k m j : Nat, Γ' = [.da (.int b), .da (.int m), .da (.int ((b ^ j : Nat) : Int)), .da (.int ((b ^ k : Nat) : Int))] ∧ j + k * m = e ∧ B' = B) (fun Γ' _ => (intAt Γ' 1).toNat)
    ⟨1, e, 0, by rw [Nat.pow_one]; rfl, by omega, rfl⟩ ?_
  rintro Γ' B' ⟨k, m, j, rfl, hk, rfl⟩
  refine ⟨_, tj_gt (ej_dat 1) ej_int, fun h => ?_, fun h => ?_⟩
  · have hm : 0 < m := by have := of_decide_eq_true h; omega
    obtain ⟨k1, j1⟩ := k_le hk hm
    refine sj_ifM (fun Γ' B2 => ∃ j' : Nat, Γ' = [.da (.int b), .da (.int m), .da (.int ((b ^ j' : Nat) : Int)), .da (.int ((b ^ k : Nat) : Int))] ∧ j' + (k + k) * (m / 2) = e ∧ B2 = B') (tj_eqI G.hu (ej_mod (ej_int1 m_int (ej_dat 1)) ej_int (by decide)) ej_int) (fun h1 => ?_) (fun h1 => ?_) ?_
    · refine sj_set 2 G.nd (ej_mul (ej_dat 2) (ej_dat 3) (cm (bd_pow j hb) (bd_pow k hb) (by omega))) (sj_nil ?_)
      rw [pow_up]
      exact ⟨j + k, rfl, turn_odd hk (by have := of_decide_eq_true h1; omega), rfl⟩
    · exact sj_nil ⟨j, rfl, turn_even hk (by have := of_decide_eq_false h1; omega), rfl⟩
    · rintro Γ2 B2 ⟨j', rfl, hj', rfl⟩
      refine sj_par 3 1 G.nd G.calm (aj_cons (ej_mul (ej_dat 3) (ej_dat 3) (cm (bd_pow k hb) (bd_pow k hb) (by omega))) (aj_cons (ej_fdiv (ej_int1 m_int (ej_dat 1)) ej_int (cdv (show Bd 2 2 from by unfold Bd; decide) (by decide))) aj_nil)) (sj_nil ?_) (by decide) (by rfl)
      rw [pow_sq, half]
      exact ⟨⟨k + k, m / 2, j', rfl, hj', rfl⟩, show ((m / 2 : Nat) : Int).toNat < (m : Int).toNat by omega⟩
  · have hm : ¬ 0 < m := by have := of_decide_eq_false h; omega
    have := j_end hk hm
    subst this
    exact sj_ret (ej_dat 2) ⟨rfl, rfl⟩

abbrev s_l_over : Stmt := topS 69
theorem sc_l_over : FnScope ["_law_n", "_law_d", "_law_shared"] ["_law_n", "_law_d"] (defScope s_l_over) := ⟨rfl, rfl, rfl, by decide +kernel, rfl, by decide +kernel, by decide +kernel⟩

theorem c_of_l_over (m_int : mg "int" = none) (c_l_common : Cal P w K mg base "_law_common" 4 R_common) (T : At K mg "_law_over" s_l_over ["_law_n", "_law_d"]) : Cal P w K mg base "_law_over" 5 R_reduced :=
  cal_at T sc_l_over (by rintro _ _ _ _ ⟨⟩; rfl) fun f cd0 A out s H E G Γ B r B' hR => by
  obtain ⟨n, d, B, hd, hb⟩ := hR
  have cx : ∀ m, CDivX m (com n d) := fun m => cdx (com_bd hd hb) (com_ne hd)
  refine sj_set 2 G.nd (ej_call c_l_common (G.le (by decide)) (aj_cons (ej_dat 0) (aj_cons (ej_dat 1) aj_nil)) (R_common.mk n d B)) ?_
  refine sj_set 2 G.nd (ej_is (ej_ifI (tj_gt (ej_dat 1) ej_int) (fun _ => (ej_dat 2)) fun _ => (ej_neg (ej_dat 2))) (congrArg PyData.int (com_if (n := n) hd))) ?_
  exact sj_ret (ej_tupD (ad_cons (ej_fdivX (ej_int1 m_int (ej_dat 0)) (ej_dat 2) (cx _)) (ad_cons (ej_fdivX (ej_int1 m_int (ej_dat 1)) (ej_dat 2) (cx _)) ad_nil)) (Nat.le_of_ble_eq_true rfl)) ⟨by rw [red_num hd, red_den hd]; rfl, rfl⟩

abbrev s_l_added : Stmt := topS 70
theorem sc_l_added : FnScope ["_law_x", "_law_y"] ["_law_x", "_law_y"] (defScope s_l_added) := ⟨rfl, rfl, rfl, by decide +kernel, rfl, by decide +kernel, by decide +kernel⟩

theorem c_of_l_added (c_l_over : Cal P w K mg base "_law_over" 5 R_reduced) (T : At K mg "_law_added" s_l_added ["_law_x", "_law_y"]) : Cal P w K mg base "_law_added" 6 (R_two (· + ·)) :=
  cal_at T sc_l_added (by rintro _ _ _ _ ⟨⟩; rfl) fun f cd0 A out s H E G Γ B r B' hR => by
  obtain ⟨n, d, m, c, x, y, B, hx, hy, h1, h2, h3⟩ := hR
  have hne : (x.den : Int) * (y.den : Int) ≠ 0 := Int.mul_ne_zero (den_ne x) (den_ne y)
  exact sj_ret (ej_call c_l_over (G.le (by decide)) (aj_cons (ej_add (ej_mul (ej_at (ej_dat 0)) (ej_at (ej_dat 1)) (cmz hx.nu hy.de)) (ej_mul (ej_at (ej_dat 1)) (ej_at (ej_dat 0)) (cmz hy.nu hx.de)))
    (aj_cons (ej_mul (ej_at (ej_dat 0)) (ej_at (ej_dat 1)) (cmz hx.de hy.de)) aj_nil)) (R_reduced.mk _ _ _ hne ((hx.de.mul hy.de).le (by omega)))) ⟨by rw [add_div], rfl⟩

abbrev s_l_lessened : Stmt := topS 71
theorem sc_l_lessened : FnScope ["_law_x", "_law_y"] ["_law_x", "_law_y"] (defScope s_l_lessened) := ⟨rfl, rfl, rfl, by decide +kernel, rfl, by decide +kernel, by decide +kernel⟩

theorem c_of_l_lessened (c_l_over : Cal P w K mg base "_law_over" 5 R_reduced) (T : At K mg "_law_lessened" s_l_lessened ["_law_x", "_law_y"]) : Cal P w K mg base "_law_lessened" 6 (R_two (· - ·)) :=
  cal_at T sc_l_lessened (by rintro _ _ _ _ ⟨⟩; rfl) fun f cd0 A out s H E G Γ B r B' hR => by
  obtain ⟨n, d, m, c, x, y, B, hx, hy, h1, h2, h3⟩ := hR
  have hne : (x.den : Int) * (y.den : Int) ≠ 0 := Int.mul_ne_zero (den_ne x) (den_ne y)
  exact sj_ret (ej_call c_l_over (G.le (by decide)) (aj_cons (ej_sub (ej_mul (ej_at (ej_dat 0)) (ej_at (ej_dat 1)) (cmz hx.nu hy.de)) (ej_mul (ej_at (ej_dat 1)) (ej_at (ej_dat 0)) (cmz hy.nu hx.de)))
    (aj_cons (ej_mul (ej_at (ej_dat 0)) (ej_at (ej_dat 1)) (cmz hx.de hy.de)) aj_nil)) (R_reduced.mk _ _ _ hne ((hx.de.mul hy.de).le (by omega)))) ⟨by rw [sub_div], rfl⟩

abbrev s_l_multiplied : Stmt := topS 72
theorem sc_l_multiplied : FnScope ["_law_x", "_law_y"] ["_law_x", "_law_y"] (defScope s_l_multiplied) := ⟨rfl, rfl, rfl, by decide +kernel, rfl, by decide +kernel, by decide +kernel⟩

theorem c_of_l_multiplied (c_l_over : Cal P w K mg base "_law_over" 5 R_reduced) (T : At K mg "_law_multiplied" s_l_multiplied ["_law_x", "_law_y"]) : Cal P w K mg base "_law_multiplied" 6 (R_two (· * ·)) :=
  cal_at T sc_l_multiplied (by rintro _ _ _ _ ⟨⟩; rfl) fun f cd0 A out s H E G Γ B r B' hR => by
  obtain ⟨n, d, m, c, x, y, B, hx, hy, h1, h2, h3⟩ := hR
  have hne : (x.den : Int) * (y.den : Int) ≠ 0 := Int.mul_ne_zero (den_ne x) (den_ne y)
  exact sj_ret (ej_call c_l_over (G.le (by decide)) (aj_cons (ej_mul (ej_at (ej_dat 0)) (ej_at (ej_dat 1)) (cmz hx.nu hy.nu))
    (aj_cons (ej_mul (ej_at (ej_dat 0)) (ej_at (ej_dat 1)) (cmz hx.de hy.de)) aj_nil)) (R_reduced.mk _ _ _ hne ((hx.de.mul hy.de).le (by omega)))) ⟨by rw [mul_div], rfl⟩

abbrev s_l_divided : Stmt := topS 73
theorem sc_l_divided : FnScope ["_law_x", "_law_y"] ["_law_x", "_law_y"] (defScope s_l_divided) := ⟨rfl, rfl, rfl, by decide +kernel, rfl, by decide +kernel, by decide +kernel⟩

theorem c_of_l_divided (c_l_over : Cal P w K mg base "_law_over" 5 R_reduced) (T : At K mg "_law_divided" s_l_divided ["_law_x", "_law_y"]) : Cal P w K mg base "_law_divided" 6 R_over :=
  cal_at T sc_l_divided (by rintro _ _ _ _ ⟨⟩; rfl) fun f cd0 A out s H E G Γ B r B' hR => by
  obtain ⟨n, d, m, c, x, y, B, hx, hy, h1, h2, h3, h0⟩ := hR
  have hne : (x.den : Int) * y.num ≠ 0 := Int.mul_ne_zero (den_ne x) (num_ne h0)
  exact sj_ret (ej_call c_l_over (G.le (by decide)) (aj_cons (ej_mul (ej_at (ej_dat 0)) (ej_at (ej_dat 1)) (cmz hx.nu hy.de))
    (aj_cons (ej_mul (ej_at (ej_dat 0)) (ej_at (ej_dat 1)) (cmz hx.de hy.nu)) aj_nil)) (R_reduced.mk _ _ _ hne ((hx.de.mul hy.nu).le (by omega)))) ⟨by rw [div_div _ _ h0], rfl⟩

abbrev s_l_is_below : Stmt := topS 74
theorem sc_l_is_below : FnScope ["_law_x", "_law_y"] ["_law_x", "_law_y"] (defScope s_l_is_below) := ⟨rfl, rfl, rfl, by decide +kernel, rfl, by decide +kernel, by decide +kernel⟩

theorem c_of_l_is_below (T : At K mg "_law_is_below" s_l_is_below ["_law_x", "_law_y"]) : Cal P w K mg base "_law_is_below" 4 R_below :=
  cal_at T sc_l_is_below (by rintro _ _ _ _ ⟨⟩; rfl) fun f cd0 A out s H E G Γ B r B' hR => by
  obtain ⟨n, d, m, c, x, y, B, hx, hy, h1, h2⟩ := hR
  refine sj_ret (ej_lt (ej_mul (ej_at (ej_dat 0)) (ej_at (ej_dat 1)) (cmz hx.nu hy.de)) (ej_mul (ej_at (ej_dat 1)) (ej_at (ej_dat 0)) (cmz hy.nu hx.de))) ⟨?_, rfl⟩
  congr 1
  by_cases h : x < y
  · rw [decide_eq_true h, decide_eq_true ((Rat.lt_iff x y).mp h)]
  · rw [decide_eq_false h, decide_eq_false fun z => h ((Rat.lt_iff x y).mpr z)]

abbrev s_l_sized : Stmt := topS 75
theorem sc_l_sized : FnScope ["_law_x"] ["_law_x"] (defScope s_l_sized) := ⟨rfl, rfl, rfl, by decide +kernel, rfl, by decide +kernel, by decide +kernel⟩

theorem c_of_l_sized (m_abs : mg "abs" = none) (T : At K mg "_law_sized" s_l_sized ["_law_x"]) : Cal P w K mg base "_law_sized" 4 (R_one fun x => fq (absQ x)) :=
  cal_at T sc_l_sized (by rintro _ _ _ _ ⟨⟩; rfl) fun f cd0 A out s H E G Γ B r B' hR => by
  obtain ⟨x, B⟩ := hR
  refine sj_ret (ej_tupD (ad_cons (ej_abs m_abs (ej_at (ej_dat 0))) (ad_cons (ej_at (ej_dat 0)) ad_nil)) (Nat.le_of_ble_eq_true rfl)) ⟨?_, rfl⟩
  unfold fq
  rw [(absQ_num x).1, (absQ_num x).2]

abbrev s_l_power : Stmt := topS 76
theorem sc_l_power : FnScope ["_law_base", "_law_e"] ["_law_base", "_law_e"] (defScope s_l_power) := ⟨rfl, rfl, rfl, by decide +kernel, rfl, by decide +kernel, by decide +kernel⟩

theorem c_of_l_power (c_l_to : Cal P w K mg base "_law_to" 4 R_pow) (T : At K mg "_law_power" s_l_power ["_law_base", "_law_e"]) : Cal P w K mg base "_law_power" 5 R_power_of :=
  cal_at T sc_l_power (by rintro _ _ _ _ ⟨⟩; rfl) fun f cd0 A out s H E G Γ B r B' hR => by
  obtain ⟨b, e, B, h0, hb, h1, h2⟩ := hR
  refine sj_ret (ej_if (d := .da (fq (pw b e))) (tj_ge (ej_dat 1) ej_int) (fun h => ?_) (fun h => ?_)) ⟨rfl, rfl⟩
  · have he : ¬ e < 0 := by have := of_decide_eq_true h; omega
    have hn : e = (e.toNat : Int) := by omega
    unfold pw
    rw [if_neg he, fq_nat]
    exact ej_tupD (ad_cons (ej_call c_l_to (G.le (by decide)) (aj_cons (ej_dat 0) (aj_cons (ej_is (ej_dat 1) (congrArg PyData.int hn)) aj_nil)) (R_pow.mk b e.toNat B hb (by omega))) (ad_cons ej_int ad_nil)) (Nat.le_of_ble_eq_true rfl)
  · have he : e < 0 := by have := of_decide_eq_false h; omega
    have hn : -e = ((-e).toNat : Int) := by omega
    unfold pw
    rw [if_pos he, fq_inv (Nat.pow_pos h0)]
    exact ej_tupD (ad_cons ej_int (ad_cons (ej_call c_l_to (G.le (by decide)) (aj_cons (ej_dat 0) (aj_cons (ej_is (ej_neg (ej_dat 1)) (congrArg PyData.int hn)) aj_nil)) (R_pow.mk b (-e).toNat B hb (by omega))) ad_nil)) (Nat.le_of_ble_eq_true rfl)

abbrev s_l_worth : Stmt := topS 77
theorem sc_l_worth : FnScope ["_law_form", "_law_number", "_law_size"] ["_law_form", "_law_number"] (defScope s_l_worth) := ⟨rfl, rfl, rfl, by decide +kernel, rfl, by decide +kernel, by decide +kernel⟩

theorem c_of_l_worth (c_l_multiplied : Cal P w K mg base "_law_multiplied" 6 (R_two (· * ·))) (c_l_power : Cal P w K mg base "_law_power" 5 R_power_of) (T : At K mg "_law_worth" s_l_worth ["_law_form", "_law_number"]) : Cal P w K mg base "_law_worth" 7 R_worth :=
  cal_at T sc_l_worth (by rintro _ _ _ _ ⟨⟩; rfl) fun f cd0 A out s H E G Γ B r B' hR => by
  obtain ⟨b, p, low, high, s, c, e, B, F, hv⟩ := hR
  obtain ⟨h1, h3, h4, h5, h6⟩ := hv
  have b2 := F.b2; have bp := F.bp; have lo := F.lo; have hi := F.hi
  have hc : Qz 700 1 (c : Rat) := ⟨by rw [Rat.num_intCast]; unfold Bd; omega, by rw [Rat.den_intCast]; unfold Bd; decide⟩
  refine sj_set 2 G.nd (ej_call c_l_multiplied (G.le (by decide)) (aj_cons (ej_is (y := fq (c : Rat)) (ej_tupD (ad_cons (ej_at (ej_dat (d := .tuple [.str "num", .int s, .int c, .int e]) 1)) (ad_cons ej_int ad_nil)) (Nat.le_of_ble_eq_true rfl)) (fq_int c).symm)
    (aj_cons (ej_call c_l_power (G.le (by decide)) (aj_cons (ej_at (ej_dat (d := .tuple [.int b, .int p, .int low, .int high]) 0)) (aj_cons (ej_at (ej_dat (d := .tuple [.str "num", .int s, .int c, .int e]) 1)) aj_nil)) (R_power_of.mk b e B (by omega) F.b6 (by omega) (by omega))) aj_nil))
    (R_two.mk _ _ _ _ _ _ B hc (F.qz h5 h6) (by decide) (by decide) (by decide))) ?_
  generalize hq : (c : Rat) * pw b e = q
  refine sj_ret (ej_if (d := .da (fq (Va.wQ b (.num s c e)))) (tj_eqI G.hu (ej_at (ej_dat (d := .tuple [.str "num", .int s, .int c, .int e]) 1)) ej_int) (fun h => ?_) (fun h => ?_)) ⟨rfl, rfl⟩
  · have e1 : Va.wQ b (.num s c e) = -q := by
      show ((if s = 1 then -c else c : Int) : Rat) * pw b e = -q
      rw [if_pos (of_decide_eq_true h), Rat.intCast_neg, ← hq]; grind
    have e2 : fq (-q) = .tuple [.int (-q.num), .int (q.den : Int)] := by unfold fq; rw [Rat.neg_num, Rat.neg_den]
    rw [e1, e2]
    exact ej_tupD (ad_cons (ej_neg (ej_at (ej_dat (d := .tuple [.int q.num, .int (q.den : Int)]) 2))) (ad_cons (ej_at (ej_dat (d := .tuple [.int q.num, .int (q.den : Int)]) 2)) ad_nil)) (Nat.le_of_ble_eq_true rfl)
  · have e1 : Va.wQ b (.num s c e) = q := by
      show ((if s = 1 then -c else c : Int) : Rat) * pw b e = q
      rw [if_neg (of_decide_eq_false h), ← hq]
    rw [e1]; exact ej_dat 2

abbrev s_l_formats : Stmt := topS 78
theorem sc_l_formats : FnScope ["_law_bag_here", "_law_small"] ["_law_bag_here"] (defScope s_l_formats) := ⟨rfl, rfl, rfl, by decide +kernel, rfl, by decide +kernel, by decide +kernel⟩

theorem c_of_l_formats (c_l_some : Cal P w K mg base "_law_some" 5 R_some) (T : At K mg "_law_formats" s_l_formats ["_law_bag_here"]) : Cal P w K mg base "_law_formats" 6 (R_fmt smallV smallB) :=
  cal_at T sc_l_formats (by rintro _ _ _ _ ⟨⟩; rfl) fun f cd0 A out s H E G Γ B r B' hR => by
  obtain ⟨B, hc⟩ := hR
  refine sj_set 1 G.nd (ej_is (y := .list (([(2, 2, 0, 0), (2, 2, -3, 2), (2, 3, -4, 3), (4, 2, -2, 1), (10, 2, -2, 1), (6, 2, -1, 2), (2, 4, -2, 2)] : List F4).map F4.d)) (ej_lstD (ad_cons (ej_tupD (ad_cons ej_int (ad_cons ej_int (ad_cons ej_int (ad_cons ej_int ad_nil)))) (Nat.le_of_ble_eq_true rfl)) (ad_cons (ej_tupD (ad_cons ej_int (ad_cons ej_int (ad_cons (ej_neg ej_int) (ad_cons ej_int ad_nil)))) (Nat.le_of_ble_eq_true rfl)) (ad_cons (ej_tupD (ad_cons ej_int (ad_cons ej_int (ad_cons (ej_neg ej_int) (ad_cons ej_int ad_nil)))) (Nat.le_of_ble_eq_true rfl)) (ad_cons (ej_tupD (ad_cons ej_int (ad_cons ej_int (ad_cons (ej_neg ej_int) (ad_cons ej_int ad_nil)))) (Nat.le_of_ble_eq_true rfl)) (ad_cons (ej_tupD (ad_cons ej_int (ad_cons ej_int (ad_cons (ej_neg ej_int) (ad_cons ej_int ad_nil)))) (Nat.le_of_ble_eq_true rfl)) (ad_cons (ej_tupD (ad_cons ej_int (ad_cons ej_int (ad_cons (ej_neg ej_int) (ad_cons ej_int ad_nil)))) (Nat.le_of_ble_eq_true rfl)) (ad_cons (ej_tupD (ad_cons ej_int (ad_cons ej_int (ad_cons (ej_neg ej_int) (ad_cons ej_int ad_nil)))) (Nat.le_of_ble_eq_true rfl)) ad_nil))))))) (Nat.le_of_ble_eq_true rfl)) rfl) ?_
  have r := R_some.mk B (smallF.map F4.d) (by decide) (by decide) hc
  rw [pick_fm smallF B (by decide)] at r
  exact sj_ret (ej_call c_l_some (G.le (by decide)) (aj_cons (ej_bag 0) (aj_cons (ej_is (y := .list (smallF.map F4.d)) (ej_catL (ej_dat 1) (ej_lstD (ad_cons (ej_tupD (ad_cons ej_int (ad_cons ej_int (ad_cons ej_int (ad_cons ej_int ad_nil)))) (Nat.le_of_ble_eq_true rfl)) (ad_cons (ej_tupD (ad_cons ej_int (ad_cons ej_int (ad_cons ej_int (ad_cons ej_int ad_nil)))) (Nat.le_of_ble_eq_true rfl)) (ad_cons (ej_tupD (ad_cons ej_int (ad_cons ej_int (ad_cons (ej_neg ej_int) (ad_cons (ej_neg ej_int) ad_nil)))) (Nat.le_of_ble_eq_true rfl)) ad_nil))) (Nat.le_of_ble_eq_true rfl)) (Nat.le_of_ble_eq_true rfl)) rfl) aj_nil)) r) ⟨rfl, rfl⟩

abbrev s_l_grid : Stmt := topS 79
theorem sc_l_grid : FnScope ["_law_form", "_law_x", "_law_base", "_law_digits", "_law_low", "_law_high", "_law_size", "_law_bound", "_law_e", "_law_many", "_law_step"] ["_law_form", "_law_x"] (defScope s_l_grid) := ⟨rfl, rfl, rfl, by decide +kernel, rfl, by decide +kernel, by decide +kernel⟩

theorem c_of_l_grid (m_int : mg "int" = none) (m_max : mg "max" = none) (c_l_to : Cal P w K mg base "_law_to" 4 R_pow) (T : At K mg "_law_grid" s_l_grid ["_law_form", "_law_x"]) : Cal P w K mg base "_law_grid" 5 R_grid :=
  cal_at T sc_l_grid (by rintro _ _ _ _ ⟨⟩; rfl) fun f cd0 A out s H E G Γ B r B' hR => by
  obtain ⟨b, p, low, high, q, n, d, B, F, h0, hq, hn, hd⟩ := hR
  have b2 := F.b2; have p2 := F.p2; have p7 := F.p7; have lo := F.lo; have lh := F.lh; have hi := F.hi; have b6 := F.b6
  refine sj_unpack [2, 3, 4, 5] G.calm (ej_dat (d := .tuple [.int b, .int p, .int low, .int high]) 0) (pgs_cons (pg_name (i := 2) G.nd rfl (Or.inl rfl)) (pgs_cons (pg_name (i := 3) G.nd rfl (Or.inl rfl)) (pgs_cons (pg_name (i := 4) G.nd rfl (Or.inl rfl)) (pgs_cons (pg_name (i := 5) G.nd rfl (Or.inl rfl)) pgs_nil)))) rfl ?_
  have ei : max 0 (-low) = ((-low).toNat : Int) := by omega
  have ej : (p : Int) + max 0 low = ((p + low.toNat : Nat) : Int) := by omega
  have hbl := F.bl
  have hb0 : Bd 2340 ((b ^ (-low).toNat : Nat) : Int) := Bd.nat hbl
  have hbj : b ^ (p + low.toNat) < 2 ^ 3040 := by
    have h1 := F.pow_hi lh; have h3 := F.bp
    rw [Nat.pow_add]
    have h5 : b ^ p * b ^ low.toNat < 2 ^ 700 * 2 ^ 2340 := Nat.mul_lt_mul'' h3 h1
    have h7 : 2 ^ 700 * 2 ^ 2340 = 2 ^ 3040 := by rw [← Nat.pow_add]
    rw [h7] at h5; exact h5
  have hsz : Bd 11240 (q.num * ((b ^ (-low).toNat : Nat) : Int)) := (hq.nu.mul hb0).le (by omega)
  have hb00 : Bd 9540 ((q.den : Int) * ((b ^ (p + low.toNat) : Nat) : Int)) := (hq.de.mul (Bd.nat hbj)).le (by omega)
  refine sj_par3 6 7 8 G.nd G.calm (aj_cons (ej_mul (ej_at (ej_dat (d := .tuple [.int q.num, .int (q.den : Int)]) 1)) (ej_call c_l_to (G.le (by decide)) (aj_cons (ej_dat 2) (aj_cons (ej_is (ej_max G.calm m_max ej_int (ej_neg (ej_dat 4))) (congrArg PyData.int ei)) aj_nil)) (R_pow.mk b _ B b6 (by omega))) (cmz hq.nu hb0))
    (aj_cons (ej_mul (ej_at (ej_dat (d := .tuple [.int q.num, .int (q.den : Int)]) 1)) (ej_call c_l_to (G.le (by decide)) (aj_cons (ej_dat 2) (aj_cons (ej_is (ej_add (ej_dat 3) (ej_max G.calm m_max ej_int (ej_dat 4))) (congrArg PyData.int ej)) aj_nil)) (R_pow.mk b _ B b6 (by omega))) (cmz hq.de (Bd.nat hbj)))
    (aj_cons (ej_dat 4) aj_nil))) ?_ (by decide) (by decide) (by decide) (by rfl)
  generalize hS : q.num * ((b ^ (-low).toNat : Nat) : Int) = S at *
  have hS0 : 0 ≤ S := by rw [← hS]; exact Int.mul_nonneg (Rat.num_nonneg.mpr h0) (Int.natCast_nonneg _)
  have hbd : ∀ t : Nat, (t = 0 ∨ (q.den : Int) * ((b ^ (p + low.toNat + t) : Nat) : Int) ≤ S) → Bd 11240 ((q.den : Int) * ((b ^ (p + low.toNat + t) : Nat) : Int)) := by
    rintro t (rfl | h)
    · exact hb00.le (by decide)
    · have : 0 ≤ (q.den : Int) * ((b ^ (p + low.toNat + t) : Nat) : Int) := Int.mul_nonneg (Int.le_of_lt (den_pos q)) (Int.natCast_nonneg _)
      unfold Bd at *; omega
  have hst : ∀ (t m : Nat), (q.den : Int) * ((b ^ (p + low.toNat + t) : Nat) : Int) * ((b ^ m : Nat) : Int) = (q.den : Int) * ((b ^ (p + low.toNat + (t + m)) : Nat) : Int) := by
    intro t m; rw [Int.mul_assoc, ← Int.natCast_mul, ← Nat.pow_add, Nat.add_assoc]
  have hpos : ∀ t : Nat, 0 < (q.den : Int) * ((b ^ (p + low.toNat + t) : Nat) : Int) := fun t => Int.mul_pos (den_pos q) (Int.natCast_pos.mpr (Nat.pow_pos (by omega)))
  refine sj_forT (ds := [.int 512, .int 64, .int 8, .int 1]) 9 G.nd G.calm (fun i Γ' B2 => ∃ (t : Nat) (z1 z2 : VD), Γ' = [.da (fmP b p low high), .da (fq q), .da (.int b), .da (.int p), .da (.int low), .da (.int high), .da (.int S), .da (.int ((q.den : Int) * ((b ^ (p + low.toNat + t) : Nat) : Int))), .da (.int (low + t)), z1, z2] ∧ B2 = B ∧
      (t = 0 ∨ (q.den : Int) * ((b ^ (p + low.toNat + t) : Nat) : Int) ≤ S) ∧ (i = 4 → S < (q.den : Int) * ((b ^ (p + low.toNat + (t + 1)) : Nat) : Int)))
    (ej_tupD (ad_cons ej_int (ad_cons ej_int (ad_cons ej_int (ad_cons ej_int ad_nil)))) (Nat.le_of_ble_eq_true rfl)) ⟨0, .no, .no, by rw [show low + ((0 : Nat) : Int) = low by omega]; rfl, rfl, .inl rfl, fun z => absurd z (by decide)⟩ (fun i y Γ' B2 hy hP => ?_) (fun Γ' B2 hP => ?_)
  · obtain ⟨t, z1, z2, rfl, rfl, ht, _⟩ := hP
    obtain ⟨m, rfl, hm1, hm512, hm4⟩ : ∃ m : Nat, y = .int (m : Int) ∧ 1 ≤ m ∧ m ≤ 512 ∧ (i = 3 → m = 1) := by
      match i, hy with
      | 0, hy => cases hy; exact ⟨512, rfl, by decide, by decide, fun z => absurd z (by decide)⟩
      | 1, hy => cases hy; exact ⟨64, rfl, by decide, by decide, fun z => absurd z (by decide)⟩
      | 2, hy => cases hy; exact ⟨8, rfl, by decide, by decide, fun z => absurd z (by decide)⟩
      | 3, hy => cases hy; exact ⟨1, rfl, by decide, by decide, fun _ => rfl⟩
      | i + 4, hy => cases hy
    have hbm : Bd 3073 ((b ^ m : Nat) : Int) := (bd_pow m b6).le (by omega)
    refine sj_set 10 G.nd (ej_call c_l_to (G.le (by decide)) (aj_cons (ej_dat 2) (aj_cons (ej_dat 9) aj_nil)) (R_pow.mk b m B2 b6 (by omega))) ?_
    refine sj_while G.nd (fun Γ' B3 => ∃ t : Nat, Γ' = [.da (fmP b p low high), .da (fq q), .da (.int b), .da (.int p), .da (.int low), .da (.int high), .da (.int S), .da (.int ((q.den : Int) * ((b ^ (p + low.toNat + t) : Nat) : Int))), .da (.int (low + t)), .da (.int (m : Int)), .da (.int ((b ^ m : Nat) : Int))] ∧ B3 = B2 ∧
      (t = 0 ∨ (q.den : Int) * ((b ^ (p + low.toNat + t) : Nat) : Int) ≤ S)) (fun Γ' _ => (S + 1 - intAt Γ' 7).toNat) ⟨t, rfl, rfl, ht⟩ ?_
    rintro Γ3 B3 ⟨t, rfl, rfl, ht⟩
    have hbt := hbd t ht
    refine ⟨_, tj_ge (ej_dat 6) (ej_mul (ej_dat 7) (ej_dat 10) (cmz hbt hbm)), fun h => ?_, fun h => ?_⟩
    · have hge : (q.den : Int) * ((b ^ (p + low.toNat + (t + m)) : Nat) : Int) ≤ S := by rw [← hst]; exact of_decide_eq_true h
      refine sj_par 7 8 G.nd G.calm (aj_cons (ej_mul (ej_dat 7) (ej_dat 10) (cmz hbt hbm)) (aj_cons (ej_add (ej_dat 8) (ej_dat 9)) aj_nil)) (sj_nil ?_) (by decide) (by rfl)
      rw [hst]
      refine ⟨⟨t + m, by rw [show low + (t : Int) + (m : Int) = low + ((t + m : Nat) : Int) by omega]; rfl, rfl, .inr hge⟩, ?_⟩
      show (S + 1 - (q.den : Int) * ((b ^ (p + low.toNat + (t + m)) : Nat) : Int)).toNat < (S + 1 - (q.den : Int) * ((b ^ (p + low.toNat + t) : Nat) : Int)).toNat
      have hlt : (q.den : Int) * ((b ^ (p + low.toNat + t) : Nat) : Int) < (q.den : Int) * ((b ^ (p + low.toNat + (t + m)) : Nat) : Int) :=
        Int.mul_lt_mul_of_pos_left (Int.ofNat_lt.mpr (Nat.pow_lt_pow_right (by omega) (by omega))) (den_pos q)
      omega
    · have hlt : S < (q.den : Int) * ((b ^ (p + low.toNat + (t + m)) : Nat) : Int) := by rw [← hst]; have := of_decide_eq_false h; omega
      exact sj_nil ⟨t, _, _, rfl, rfl, ht, fun h4 => by rw [hm4 (by omega)] at hlt; exact hlt⟩
  · obtain ⟨t, z1, z2, rfl, rfl, ht, h4⟩ := hP
    have h4 := h4 rfl
    have hbt := hbd t ht
    have es : ∀ t : Nat, ((p + low.toNat + t : Nat) : Int) - ((-low).toNat : Nat) = p + (low + t) := fun t => by omega
    have k1 := lt_pw_iff b2 q (-low).toNat (p + low.toNat + (t + 1))
    rw [es, hS] at k1
    have k0 := lt_pw_iff b2 q (-low).toNat (p + low.toNat + t)
    rw [es, hS] at k0
    have hE : IsE b p low q (low + t + (if decide ((q.den : Int) * ((b ^ (p + low.toNat + t) : Nat) : Int) ≤ S) = true then 1 else 0)) := by
      by_cases h : (q.den : Int) * ((b ^ (p + low.toNat + t) : Nat) : Int) ≤ S
      · rw [decide_eq_true h, if_pos rfl]
        refine ⟨by omega, ?_, .inr ?_⟩
        · have := k1.mpr h4
          rw [show (p : Int) + (low + t + 1) = p + (low + (t + 1 : Nat)) by omega]; exact this
        · have := Rat.not_lt.mp (fun z => absurd (k0.mp z) (by omega))
          rw [show (p : Int) + (low + t + 1) - 1 = p + (low + t) by omega]; exact this
      · rw [decide_eq_false h, if_neg (by decide)]
        rcases ht with rfl | ht
        · refine ⟨by omega, ?_, .inl (by omega)⟩
          have := k0.mpr (by omega)
          rw [show (p : Int) + (low + ((0 : Nat) : Int) + 0) = p + (low + ((0 : Nat) : Int)) by omega]; exact this
        · exact absurd ht h
    have eE := (eQ_of b2 hE).symm
    refine sj_set 8 G.nd (ej_is (y := .int (eQ b p low q)) (ej_add (ej_dat 8) (ej_intB m_int (ej_ge (ej_dat 6) (ej_dat 7)))) (congrArg PyData.int eE)) ?_
    clear hE eE
    have hE := eQ_is (p := p) b2 low q
    have he := F.e_hi hq h0 hE hn
    have hlo := hE.1
    generalize eQ b p low q = e at *
    have hD := F.D_bd hq h0 hE hn hd
    have hDp := Dq_pos b2 e q
    have e1 : max 0 (-e) = ((-e).toNat : Int) := by omega
    have e3 : max 0 e = (e.toNat : Int) := by omega
    have hup : Bd 2340 ((b ^ (-e).toNat : Nat) : Int) := Bd.nat (F.pow_lo hlo)
    have hdn : Bd 9400 ((b ^ e.toNat : Nat) : Int) := by
      rcases F.e_bd hq h0 hE with ⟨z, _, _⟩ | z
      · have hd1 : 1 ≤ q.den := q.den_pos
        exact (Bd.nat (Nat.lt_of_le_of_lt (Nat.le_mul_of_pos_left _ hd1) z)).le (by omega)
      · have h1 : b ^ e.toNat < 2 ^ 2340 := by
          rcases z with z | z
          · have : e.toNat = 0 := by omega
            rw [this, Nat.pow_zero]; exact Nat.one_lt_two_pow (by decide)
          · rw [z]; exact F.pow_hi F.lh
        exact (Bd.nat h1).le (by decide)
    exact sj_ret (ej_tupD (ad_cons (ej_is (y := .int (cQ b e q)) (ej_fdiv (ej_int1 m_int (ej_mul (ej_at (ej_dat (d := .tuple [.int q.num, .int (q.den : Int)]) 1)) (ej_call c_l_to (G.le (by decide)) (aj_cons (ej_dat 2) (aj_cons (ej_is (ej_max G.calm m_max ej_int (ej_neg (ej_dat 8))) (congrArg PyData.int e1)) aj_nil)) (R_pow.mk b _ _ b6 (by omega))) (cmz hq.nu hup)))
      (ej_is (y := .int (Dq b e q)) (ej_mul (ej_at (ej_dat (d := .tuple [.int q.num, .int (q.den : Int)]) 1)) (ej_call c_l_to (G.le (by decide)) (aj_cons (ej_dat 2) (aj_cons (ej_is (ej_max G.calm m_max ej_int (ej_dat 8)) (congrArg PyData.int e3)) aj_nil)) (R_pow.mk b _ _ b6 (by omega))) (cmz hq.de hdn)) rfl) (cdv hD hDp)) rfl) (ad_cons (ej_dat 8) ad_nil)) (Nat.le_of_ble_eq_true rfl)) ⟨rfl, rfl⟩

abbrev s_l_neighbours : Stmt := topS 80
theorem sc_l_neighbours : FnScope ["_law_form", "_law_x", "_law_c", "_law_e", "_law_unit", "_law_lower"] ["_law_form", "_law_x"] (defScope s_l_neighbours) := ⟨rfl, rfl, rfl, by decide +kernel, rfl, by decide +kernel, by decide +kernel⟩

theorem c_of_l_neighbours (c_l_grid : Cal P w K mg base "_law_grid" 5 R_grid) (c_l_power : Cal P w K mg base "_law_power" 5 R_power_of) (c_l_multiplied : Cal P w K mg base "_law_multiplied" 6 (R_two (· * ·))) (T : At K mg "_law_neighbours" s_l_neighbours ["_law_form", "_law_x"]) : Cal P w K mg base "_law_neighbours" 7 R_neigh :=
  cal_at T sc_l_neighbours (by rintro _ _ _ _ ⟨⟩; rfl) fun f cd0 A out s H E G Γ B r B' hR => by
  obtain ⟨b, p, low, high, q, n, d, B, F, h0, hq, hn, hd⟩ := hR
  have b2 := F.b2; have lo := F.lo; have bp := F.bp
  have hE := eQ_is (p := p) b2 low q
  refine sj_unpack [2, 3] G.calm (ej_call c_l_grid (G.le (by decide)) (aj_cons (ej_dat 0) (aj_cons (ej_dat 1) aj_nil)) (R_grid.mk b p low high q n d B F h0 hq hn hd)) (pgs_cons (pg_name (i := 2) G.nd rfl (Or.inl rfl)) (pgs_cons (pg_name (i := 3) G.nd rfl (Or.inl rfl)) pgs_nil)) rfl ?_
  have he := F.e_hi hq h0 hE hn
  have hu := F.u_bd hq h0 hE
  have hlo := hE.1
  have hc0 := c_ge b2 h0 (eQ b p low q)
  have hc1 := c_lt b2 hE
  generalize eQ b p low q = e at *
  have hc : Qz 700 1 (cQ b e q : Rat) := ⟨by rw [Rat.num_intCast]; unfold Bd; omega, by rw [Rat.den_intCast]; unfold Bd; decide⟩
  have hc' : Qz 701 1 ((cQ b e q + 1 : Int) : Rat) := ⟨by rw [Rat.num_intCast]; unfold Bd; omega, by rw [Rat.den_intCast]; unfold Bd; decide⟩
  refine sj_set 4 G.nd (ej_call c_l_power (G.le (by decide)) (aj_cons (ej_at (ej_dat (d := .tuple [.int b, .int p, .int low, .int high]) 0)) (aj_cons (ej_dat 3) aj_nil)) (R_power_of.mk b e B (by omega) F.b6 (by omega) (by omega))) ?_
  refine sj_set 5 G.nd (ej_call c_l_multiplied (G.le (by decide)) (aj_cons (ej_is (y := fq (cQ b e q : Rat)) (ej_tupD (ad_cons (ej_dat 2) (ad_cons ej_int ad_nil)) (Nat.le_of_ble_eq_true rfl)) (fq_int _).symm) (aj_cons (ej_dat 4) aj_nil)) (R_two.mk _ _ _ _ _ _ B hc hu (by decide) (by omega) (by decide))) ?_
  refine sj_when (x := decide (rQ b e q = 0)) (tj_is (tj_eq G.hu (ej_dat (d := fq (loQ b e q)) 5) (ej_dat 1) (shaped_fq _) (shaped_fq _)) (by rw [eqv_fq]; exact decide_eq_decide.mpr (lo_eq b2 e q))) (fun h => ?_) (fun h => ?_)
  · have hr : rQ b e q = 0 := of_decide_eq_true h
    refine sj_ret (ej_tupD (ad_cons (ej_dat (d := fq (loQ b e q)) 5) (ad_cons (ej_dat (d := fq (loQ b e q)) 5) (ad_cons (ej_dat 2) (ad_cons (ej_dat 2) ad_nil)))) (Nat.le_of_ble_eq_true rfl)) ⟨?_, rfl⟩
    unfold upQ; rw [if_pos hr, if_pos hr]
  · have hr : ¬ rQ b e q = 0 := of_decide_eq_false h
    refine sj_ret (ej_tupD (ad_cons (ej_dat (d := fq (loQ b e q)) 5) (ad_cons (ej_call c_l_multiplied (G.le (by decide)) (aj_cons (ej_is (y := fq ((cQ b e q + 1 : Int) : Rat)) (ej_tupD (ad_cons (ej_add (ej_dat 2) ej_int) (ad_cons ej_int ad_nil)) (Nat.le_of_ble_eq_true rfl)) (fq_int _).symm) (aj_cons (ej_dat 4) aj_nil)) (R_two.mk _ _ _ _ _ _ B hc' hu (by decide) (by omega) (by decide)))
      (ad_cons (ej_dat 2) (ad_cons (ej_add (ej_dat 2) ej_int) ad_nil)))) (Nat.le_of_ble_eq_true rfl)) ⟨?_, rfl⟩
    unfold upQ; rw [if_neg hr, if_neg hr]

abbrev s_l_greatest : Stmt := topS 81
theorem sc_l_greatest : FnScope ["_law_form", "_law_base", "_law_digits", "_law_low", "_law_high"] ["_law_form"] (defScope s_l_greatest) := ⟨rfl, rfl, rfl, by decide +kernel, rfl, by decide +kernel, by decide +kernel⟩

theorem c_of_l_greatest (c_l_to : Cal P w K mg base "_law_to" 4 R_pow) (c_l_power : Cal P w K mg base "_law_power" 5 R_power_of) (c_l_multiplied : Cal P w K mg base "_law_multiplied" 6 (R_two (· * ·))) (T : At K mg "_law_greatest" s_l_greatest ["_law_form"]) : Cal P w K mg base "_law_greatest" 7 R_great :=
  cal_at T sc_l_greatest (by rintro _ _ _ _ ⟨⟩; rfl) fun f cd0 A out s H E G Γ B r B' hR => by
  obtain ⟨b, p, low, high, B, F⟩ := hR
  have b2 := F.b2; have p7 := F.p7; have lo := F.lo; have lh := F.lh; have hi := F.hi; have bp := F.bp
  refine sj_unpack [1, 2, 3, 4] G.calm (ej_dat (d := .tuple [.int b, .int p, .int low, .int high]) 0) (pgs_cons (pg_name (i := 1) G.nd rfl (Or.inl rfl)) (pgs_cons (pg_name (i := 2) G.nd rfl (Or.inl rfl)) (pgs_cons (pg_name (i := 3) G.nd rfl (Or.inl rfl)) (pgs_cons (pg_name (i := 4) G.nd rfl (Or.inl rfl)) pgs_nil)))) rfl ?_
  have hc : Qz 700 1 ((((b ^ p : Nat) : Int) - 1 : Int) : Rat) := ⟨by rw [Rat.num_intCast]; unfold Bd; omega, by rw [Rat.den_intCast]; unfold Bd; decide⟩
  exact sj_ret (ej_call c_l_multiplied (G.le (by decide)) (aj_cons (ej_is (y := fq ((((b ^ p : Nat) : Int) - 1 : Int) : Rat)) (ej_tupD (ad_cons (ej_sub (ej_call c_l_to (G.le (by decide)) (aj_cons (ej_dat 1) (aj_cons (ej_dat 2) aj_nil)) (R_pow.mk b p B F.b6 (by omega))) ej_int) (ad_cons ej_int ad_nil)) (Nat.le_of_ble_eq_true rfl)) (fq_int _).symm)
    (aj_cons (ej_call c_l_power (G.le (by decide)) (aj_cons (ej_dat 1) (aj_cons (ej_dat 4) aj_nil)) (R_power_of.mk b high B (by omega) F.b6 (by omega) (by omega))) aj_nil)) (R_two.mk _ _ _ _ _ _ B hc (F.qz lh (Int.le_refl _)) (by decide) (by decide) (by decide))) ⟨rfl, rfl⟩

abbrev s_l_normal : Stmt := topS 82
theorem sc_l_normal : FnScope ["_law_form"] ["_law_form"] (defScope s_l_normal) := ⟨rfl, rfl, rfl, by decide +kernel, rfl, by decide +kernel, by decide +kernel⟩

theorem c_of_l_normal (c_l_power : Cal P w K mg base "_law_power" 5 R_power_of) (T : At K mg "_law_normal" s_l_normal ["_law_form"]) : Cal P w K mg base "_law_normal" 6 R_normal :=
  cal_at T sc_l_normal (by rintro _ _ _ _ ⟨⟩; rfl) fun f cd0 A out s H E G Γ B r B' hR => by
  obtain ⟨b, p, low, high, B, F⟩ := hR
  have b2 := F.b2; have p7 := F.p7; have lo := F.lo; have lh := F.lh; have hi := F.hi
  exact sj_ret (ej_call c_l_power (G.le (by decide)) (aj_cons (ej_at (ej_dat (d := .tuple [.int b, .int p, .int low, .int high]) 0)) (aj_cons (ej_sub (ej_add (ej_at (ej_dat (d := .tuple [.int b, .int p, .int low, .int high]) 0)) (ej_at (ej_dat (d := .tuple [.int b, .int p, .int low, .int high]) 0))) ej_int) aj_nil)) (R_power_of.mk b (low + p - 1) B (by omega) F.b6 (by omega) (by omega))) ⟨rfl, rfl⟩

abbrev s_l_nearer : Stmt := topS 83
theorem sc_l_nearer : FnScope ["_law_way", "_law_x", "_law_lower", "_law_upper", "_law_c", "_law_one", "_law_other"] ["_law_way", "_law_x", "_law_lower", "_law_upper", "_law_c"] (defScope s_l_nearer) := ⟨rfl, rfl, rfl, by decide +kernel, rfl, by decide +kernel, by decide +kernel⟩

theorem c_of_l_nearer (m_int : mg "int" = none) (c_l_lessened : Cal P w K mg base "_law_lessened" 6 (R_two (· - ·))) (c_l_is_below : Cal P w K mg base "_law_is_below" 4 R_below) (T : At K mg "_law_nearer" s_l_nearer ["_law_way", "_law_x", "_law_lower", "_law_upper", "_law_c"]) : Cal P w K mg base "_law_nearer" 7 R_nearer :=
  cal_at T sc_l_nearer (by rintro _ _ _ _ ⟨⟩; rfl) fun f cd0 A out s H E G Γ B r B' hR => by
  obtain ⟨its, q, lo, up, c, n, d, m, k, B, hq, hl, hu, h1, h2, h3⟩ := hR
  have hd : d ≤ 8900 := by omega
  have hk : k ≤ 8900 := by omega
  unfold nearQ
  refine sj_when (x := decide (its = "zero" ∨ its = "lower")) (tj_is (tj_inT (ss := ["zero", "lower"]) (ej_dat 0) (ej_tupD (ad_cons ej_str (ad_cons ej_str ad_nil)) (Nat.le_of_ble_eq_true rfl))) (in2' "zero" "lower" its)) (fun h => ?_) (fun h => ?_)
  · rw [if_pos (of_decide_eq_true h)]
    exact sj_ret (ej_dat 2) ⟨rfl, rfl⟩
  · rw [if_neg (of_decide_eq_false h)]
    refine sj_when (tj_eqS (ej_dat 0) ej_str) (fun h => ?_) (fun h => ?_)
    · rw [if_pos (of_decide_eq_true h)]
      exact sj_ret (ej_dat 3) ⟨rfl, rfl⟩
    · rw [if_neg (of_decide_eq_false h)]
      have a1 : Qz 40000 (d + k) (q - lo) := hq.sub hl 40000 (by omega) (by omega)
      have a2 : Qz 40000 (k + d) (up - q) := hu.sub hq 40000 (by omega) (by omega)
      refine sj_par 5 6 G.nd G.calm (aj_cons (ej_call c_l_lessened (G.le (by decide)) (aj_cons (ej_dat 1) (aj_cons (ej_dat 2) aj_nil)) (R_two.mk _ _ _ _ _ _ B hq hl (by omega) (by omega) h3)) (aj_cons (ej_call c_l_lessened (G.le (by decide)) (aj_cons (ej_dat 3) (aj_cons (ej_dat 1) aj_nil)) (R_two.mk _ _ _ _ _ _ B hu hq (by omega) (by omega) (by omega))) aj_nil)) ?_ (by decide) (by rfl)
      refine sj_when (tj_is (tj_eq G.hu (ej_dat 5) (ej_dat 6) (shaped_fq _) (shaped_fq _)) (eqv_fq _ _)) (fun h => ?_) (fun h => ?_)
      · rw [if_pos (of_decide_eq_true h)]
        refine sj_ret (ej_if (d := .da (fq (if its = "even" ∧ c % 2 = 0 then lo else up))) (tj_w (wj_and (tj_eqS (ej_dat 0) ej_str) fun _ => wj_and1 (tj_eqI G.hu (ej_mod (ej_int1 m_int (ej_dat 4)) ej_int (by decide)) ej_int))) (fun h => ?_) (fun h => ?_)) ⟨rfl, rfl⟩
        · have h' : its = "even" ∧ c % 2 = 0 := by simpa using h
          rw [if_pos h']; exact ej_dat 2
        · have h' : ¬ (its = "even" ∧ c % 2 = 0) := by simpa using h
          rw [if_neg h']; exact ej_dat 3
      · rw [if_neg (of_decide_eq_false h)]
        refine sj_ret (ej_if (d := .da (fq (if q - lo < up - q then lo else up))) (tj_val (ej_call c_l_is_below (G.le (by decide)) (aj_cons (ej_dat 5) (aj_cons (ej_dat 6) aj_nil)) (R_below.mk _ _ _ _ _ _ B a1 a2 (by omega) (by omega)))) (fun h => ?_) (fun h => ?_)) ⟨rfl, rfl⟩
        · rw [if_pos (of_decide_eq_true h)]; exact ej_dat 2
        · rw [if_neg (of_decide_eq_false h)]; exact ej_dat 3

abbrev s_l_form_of : Stmt := topS 84
theorem sc_l_form_of : FnScope ["_law_form", "_law_s", "_law_worth_here", "_law_c", "_law_e"] ["_law_form", "_law_s", "_law_worth_here"] (defScope s_l_form_of) := ⟨rfl, rfl, rfl, by decide +kernel, rfl, by decide +kernel, by decide +kernel⟩

theorem c_of_l_form_of (c_l_grid : Cal P w K mg base "_law_grid" 5 R_grid) (T : At K mg "_law_form_of" s_l_form_of ["_law_form", "_law_s", "_law_worth_here"]) : Cal P w K mg base "_law_form_of" 6 R_formof :=
  cal_at T sc_l_form_of (by rintro _ _ _ _ ⟨⟩; rfl) fun f cd0 A out s H E G Γ B r B' hR => by
  obtain ⟨b, p, low, high, sn, C, Ee, q, n, d, B, F, hC, rfl, hE⟩ := hR
  have z := can_qz F hC hE
  have ce := can_e F.b2 (by have := F.p2; omega) hC
  have R := R_grid.mk b p low high _ 3040 2341 B F z.2 z.1 (by decide) (by decide)
  rw [ce.1, ce.2] at R
  refine sj_unpack [3, 4] G.calm (ej_call c_l_grid (G.le (by decide)) (aj_cons (ej_dat 0) (aj_cons (ej_dat 2) aj_nil)) R) (pgs_cons (pg_name (i := 3) G.nd rfl (Or.inl rfl)) (pgs_cons (pg_name (i := 4) G.nd rfl (Or.inl rfl)) pgs_nil)) rfl ?_
  exact sj_ret (ej_tupD (ad_cons ej_str (ad_cons (ej_dat 1) (ad_cons (ej_dat 3) (ad_cons (ej_dat 4) ad_nil)))) (Nat.le_of_ble_eq_true rfl)) ⟨rfl, rfl⟩

abbrev s_l_rounded : Stmt := topS 85
theorem sc_l_rounded : FnScope ["_law_form", "_law_way", "_law_x", "_law_s", "_law_size", "_law_its", "_law_lower", "_law_upper", "_law_c", "_law_more", "_law_worth_here", "_law_flags", "_law_is_inf"] ["_law_form", "_law_way", "_law_x", "_law_s"] (defScope s_l_rounded) := ⟨rfl, rfl, rfl, by decide +kernel, rfl, by decide +kernel, by decide +kernel⟩

theorem c_of_l_rounded (m_int : mg "int" = none) (m_tuple : mg "tuple" = none) (m_sorted : mg "sorted" = none) (m_set : mg "set" = none) (c_l_sized : Cal P w K mg base "_law_sized" 4 (R_one fun x => fq (absQ x))) (c_l_neighbours : Cal P w K mg base "_law_neighbours" 7 R_neigh)
    (c_l_nearer : Cal P w K mg base "_law_nearer" 7 R_nearer) (c_l_is_below : Cal P w K mg base "_law_is_below" 4 R_below) (c_l_normal : Cal P w K mg base "_law_normal" 6 R_normal) (c_l_greatest : Cal P w K mg base "_law_greatest" 7 R_great)
    (c_l_form_of : Cal P w K mg base "_law_form_of" 6 R_formof) (T : At K mg "_law_rounded" s_l_rounded ["_law_form", "_law_way", "_law_x", "_law_s"]) : Cal P w K mg base "_law_rounded" 8 R_rounded :=
  cal_at T sc_l_rounded (by rintro _ _ _ _ ⟨⟩; rfl) fun f cd0 A out s H E G Γ B r B' hR => by
  obtain ⟨b, p, low, high, way, x, sv, n, d, B, F, hw, hs, hx, hn, hd⟩ := hR
  have b2 := F.b2; have p2 := F.p2; have lh := F.lh
  have hrd : rdP b p low high way x sv = outP b p high way (if x = 0 then sv else sgn x) (eQ b p low (absQ x)) (cQ b (eQ b p low (absQ x)) (absQ x)) (pt (rQ b (eQ b p low (absQ x)) (absQ x)) (Dq b (eQ b p low (absQ x)) (absQ x))) := rfl
  rw [hrd]
  clear hrd
  have h0 := absQ_nonneg x
  have hq : Qz n d (absQ x) := hx.abs
  have hE := eQ_is (p := p) b2 low (absQ x)
  refine sj_set (B1 := B) 3 G.nd (ej_if (d := .da (.int (if x = 0 then sv else sgn x))) (tj_eqI G.hu (ej_at (ej_dat (d := .tuple [.int x.num, .int (x.den : Int)]) 2)) ej_int) (fun h => ?_) (fun h => ?_)) ?_
  · rw [if_pos (Rat.num_eq_zero.mp (of_decide_eq_true h))]; exact ej_dat 3
  · rw [if_neg (fun z => of_decide_eq_false h (Rat.num_eq_zero.mpr z))]
    refine ej_is (ej_intB m_int (ej_lt (ej_at (ej_dat (d := .tuple [.int x.num, .int (x.den : Int)]) 2)) ej_int)) ?_
    unfold sgn
    by_cases h : x.num < 0
    · rw [if_pos h, decide_eq_true h]; rfl
    · rw [if_neg h, decide_eq_false h]; rfl
  have hS : (if x = 0 then sv else sgn x) = 0 ∨ (if x = 0 then sv else sgn x) = 1 := by
    split
    · exact hs
    · exact sgn_01 x
  generalize (if x = 0 then sv else sgn x) = S at *
  refine sj_par 4 5 G.nd G.calm (aj_cons (ej_call c_l_sized (G.le (by decide)) (aj_cons (ej_dat 2) aj_nil) (R_one.mk x B)) (aj_cons (ej_dat 1) aj_nil)) ?_ (by decide) (by rfl)
  generalize absQ x = q at *
  refine sj_ifM (fun Γ' B2 => Γ' = [.da (fmP b p low high), .da (.str way), .da (fq x), .da (.int S), .da (fq q), .da (.str (itsOf way S)), .no, .no, .no, .no, .no, .no, .no] ∧ B2 = B)
    (tj_is (tj_inT (ss := ["up", "down"]) (ej_dat 1) (ej_tupD (ad_cons ej_str (ad_cons ej_str ad_nil)) (Nat.le_of_ble_eq_true rfl))) (in2' "up" "down" way)) (fun h => ?_) (fun h => ?_) ?_
  · have h' := of_decide_eq_true h
    refine sj_set (B1 := B) 5 G.nd (ej_if (d := .da (.str (itsOf way S))) (tj_eqB G.hu (ej_eqS (ej_dat 1) ej_str) (ej_eqI G.hu (ej_dat 3) ej_int)) (fun h => ?_) (fun h => ?_)) (sj_nil ⟨rfl, rfl⟩)
    · rw [its_in h', if_pos (of_decide_eq_true h)]; exact ej_str
    · rw [its_in h', if_neg (of_decide_eq_false h)]; exact ej_str
  · refine sj_nil ⟨?_, rfl⟩
    rw [its_out (of_decide_eq_false h)]; rfl
  rintro Γ2 B2 ⟨rfl, rfl⟩
  have hno := near_ok b2 hw hS (eQ b p low q) q
  have hQl := F.lo_qz hq h0 hE
  have hQu := F.up_qz hq h0 hE
  have hpk := fun o => F.pick_qz hq h0 hE o
  have hsp := spot_can b2 (by omega) h0 hE
  have hti := tiny_iff b2 p2 h0 hE
  refine sj_unpack [6, 7, 8, 9] G.calm (ej_call c_l_neighbours (G.le (by decide)) (aj_cons (ej_dat 0) (aj_cons (ej_dat 4) aj_nil)) (R_neigh.mk b p low high q n d B2 F h0 hq hn hd)) (pgs_cons (pg_name (i := 6) G.nd rfl (Or.inl rfl)) (pgs_cons (pg_name (i := 7) G.nd rfl (Or.inl rfl)) (pgs_cons (pg_name (i := 8) G.nd rfl (Or.inl rfl)) (pgs_cons (pg_name (i := 9) G.nd rfl (Or.inl rfl)) pgs_nil)))) rfl ?_
  generalize eQ b p low q = e at *
  refine sj_set 10 G.nd (ej_is (ej_call c_l_nearer (G.le (by decide)) (aj_cons (ej_dat 5) (aj_cons (ej_dat 4) (aj_cons (ej_dat 6) (aj_cons (ej_dat 7) (aj_cons (ej_dat 8) aj_nil))))) (R_nearer.mk (itsOf way S) q _ _ _ _ _ _ _ B2 hq hQl hQu (by omega) (by omega) (by omega))) (congrArg fq hno)) ?_
  have hWo := outw_r (b := b) (e := e) (q := q) (way := way) (s := S) (c := cQ b e q)
  have hpe := fun o ho => pick_eq (b := b) (e := e) (q := q) b2 (o := o) ho
  have hp0 := pt_zero (b := b) (e := e) (q := q)
  have hnb := nb_can (o := outw way S (cQ b e q) (pt (rQ b e q) (Dq b e q))) b2 p2 hsp
  have hob := fun h => over_big (o := outw way S (cQ b e q) (pt (rQ b e q) (Dq b e q))) (high := high) p2 b2 lh hsp h
  have hWq := hpe (outw way S (cQ b e q) (pt (rQ b e q) (Dq b e q))) hWo
  have hWz := hpk (outw way S (cQ b e q) (pt (rQ b e q) (Dq b e q)))
  unfold outP
  clear hpe hpk hno hQl hQu hWo
  rw [← hnb.2] at hWq hWz
  rw [← hnb.2]
  have hC := hnb.1
  clear hnb
  have hov := over_iff b2 p2 lh hC
  generalize pt (rQ b e q) (Dq b e q) = part at *
  generalize rQ b e q = r at *
  generalize hcq : cQ b e q = c at *
  generalize (nb b p (outw way S c part) c e).1 = C at *
  generalize (nb b p (outw way S c part) c e).2 = Ee at *
  generalize hWW : (C : Rat) * pw b Ee = W at *
  have hnn : (if r = 0 then 0 else 1 : Nat) = 0 ∨ (if r = 0 then 0 else 1 : Nat) = 1 := by split <;> simp
  refine sj_own 11 G.nd (fj_rep (n := if r = 0 then 0 else 1) (ds := [.str "inexact"]) (ej_lstD (ad_cons ej_str ad_nil) (Nat.le_of_ble_eq_true rfl)) (ej_is (y := .int ((if r = 0 then 0 else 1 : Nat) : Int)) (ej_intB m_int (ej_ne G.hu (ej_dat 10) (ej_dat 4) (shaped_fq _) (shaped_fq _))) ?_) (by omega) (by decide)) (by exact Nat.le_of_ble_eq_true rfl) ?_
  · rw [eqv_fq]
    by_cases hr : r = 0
    · rw [if_pos hr, decide_eq_true (hWq.mpr hr)]; rfl
    · rw [if_neg hr, decide_eq_false (fun z => hr (hWq.mp z))]; rfl
  rw [rep_one hnn]
  refine ow_if (fun Γ' B3 acc => Γ' = [.da (fmP b p low high), .da (.str way), .da (fq x), .da (.int S), .da (fq q), .da (.str (itsOf way S)), .da (fq (loQ b e q)), .da (fq (upQ b e q)), .da (.int c), .da (.int (if r = 0 then c else c + 1)), .da (fq W), .no, .no] ∧ B3 = B2 ∧ acc = (flagsL r c ((b ^ (p - 1) : Nat) : Int)).map .str)
    (tj_w (wj_and (tj_ne G.hu (ej_dat 10) (ej_dat 4) (shaped_fq _) (shaped_fq _)) fun _ => wj_and1 (tj_val (ej_call c_l_is_below (G.le (by decide)) (aj_cons (ej_dat 4) (aj_cons (ej_call c_l_normal (G.le (by decide)) (aj_cons (ej_dat 0) aj_nil) (R_normal.mk b p low high B2 F)) aj_nil)) (R_below.mk _ _ _ _ _ _ B2 hq F.nz (by omega) (by decide)))))) (fun h => ?_) (fun h => ?_) ?_
  · rw [eqv_fq] at h
    have h' : ¬ W = q ∧ q < pw b (low + p - 1) := by simpa using h
    have hr : ¬ r = 0 := fun z => h'.1 (hWq.mpr z)
    have hc := hti.mp h'.2
    refine ow_app G.nd ej_str (by split <;> decide) (ow_nil ⟨rfl, rfl, ?_⟩)
    unfold flagsL
    rw [if_neg hr, if_neg hr, if_pos hc, if_neg (by decide)]; rfl
  · rw [eqv_fq] at h
    have h' : ¬ (¬ W = q ∧ q < pw b (low + p - 1)) := by simpa using h
    refine ow_nil ⟨rfl, rfl, ?_⟩
    unfold flagsL
    by_cases hr : r = 0
    · rw [if_pos hr, if_pos hr, if_pos rfl]; rfl
    · have hc : ¬ c < ((b ^ (p - 1) : Nat) : Int) := fun z => h' ⟨fun y => hr (hWq.mp y), hti.mpr z⟩
      rw [if_neg hr, if_neg hr, if_neg hc, if_neg (by decide)]; rfl
  rintro Γ3 B3 acc ⟨rfl, rfl, rfl⟩
  refine ow_end ?_
  have hgz := can_qz F (great_can F) (Int.le_refl high)
  refine sj_when (tj_not (tj_val (ej_call c_l_is_below (G.le (by decide)) (aj_cons (ej_call c_l_greatest (G.le (by decide)) (aj_cons (ej_dat 0) aj_nil) (R_great.mk b p low high B3 F)) (aj_cons (ej_dat 10) aj_nil)) (R_below.mk _ _ _ _ (grQ b p high) W B3 hgz.1 hWz (by decide) (by omega))))) (fun h => ?_) (fun h => ?_)
  · have h' : ¬ grQ b p high < W := by simpa using h
    have hno : ¬ high < Ee := fun z => h' (hov.mpr z)
    refine sj_ret (ej_tupD (ad_cons (ej_call c_l_form_of (G.le (by decide)) (aj_cons (ej_dat 0) (aj_cons (ej_dat 3) (aj_cons (ej_dat 10) aj_nil))) (R_formof.mk b p low high S C Ee W 3040 2341 B3 F hC hWW.symm (by omega))) (ad_cons (ej_tupleL m_tuple (ej_dat (d := .list ((flagsL r c ((b ^ (p - 1) : Nat) : Int)).map .str)) 11)) ad_nil)) (Nat.le_of_ble_eq_true rfl)) ⟨?_, rfl⟩
    rw [if_neg hno]
    unfold flagsL
    by_cases hr : r = 0
    · rw [if_pos hr, if_pos (hp0.mpr hr)]; rfl
    · rw [if_neg hr, if_neg (fun z => hr (hp0.mp z))]
      split <;> rfl
  · have h' : grQ b p high < W := by simpa using h
    have hyes : high < Ee := hov.mp h'
    have hcb := hob hyes
    rw [if_pos hyes]
    refine sj_set 12 G.nd (ej_is (y := .bool (isInf way S)) (ej_or (ej_inT (ss := ["even", "away"]) (ej_dat 1) (ej_tupD (ad_cons ej_str (ad_cons ej_str ad_nil)) (Nat.le_of_ble_eq_true rfl))) fun _ => ej_or (ej_and (ej_eqS (ej_dat 1) ej_str) fun _ => ej_one (ej_eqI G.hu (ej_dat 3) ej_int)) fun _ => ej_one (ej_and (ej_eqS (ej_dat 1) ej_str) fun _ => ej_one (ej_eqI G.hu (ej_dat 3) ej_int))) (congrArg PyData.bool (isInf_or way S))) ?_
    refine sj_set 11 G.nd (ej_tupleL m_tuple (ej_sortedSet (xs := flagsL r c ((b ^ (p - 1) : Nat) : Int) ++ (["inexact", "over"] : List Str)) (out := (["inexact", "over"] : List Str)) G.calm m_sorted m_set (ej_is (ej_catL (ej_dat (d := .list ((flagsL r c ((b ^ (p - 1) : Nat) : Int)).map .str)) 11) (ej_lstD (ad_cons ej_str (ad_cons ej_str ad_nil)) (Nat.le_of_ble_eq_true rfl)) (by rw [List.length_map]; unfold flagsL; split <;> (try split) <;> decide)) (by rw [List.map_append]; rfl)) (by rw [List.length_append]; unfold flagsL; split <;> (try split) <;> decide) (over_words hcb))) ?_
    refine sj_ret (ej_tupD (ad_cons (ej_if (d := .da (tooG b p high way S)) (tj_val (ej_dat 12)) (fun h => ?_) (fun h => ?_)) (ad_cons (ej_dat 11) ad_nil)) (Nat.le_of_ble_eq_true rfl)) ⟨rfl, rfl⟩
    · rw [show tooG b p high way S = .tuple [.str "inf", .int S] from if_pos h]
      exact ej_tupD (ad_cons ej_str (ad_cons (ej_dat 3) ad_nil)) (Nat.le_of_ble_eq_true rfl)
    · rw [show tooG b p high way S = nm S (((b ^ p : Nat) : Int) - 1) high from if_neg (by rw [h]; decide)]
      exact ej_call c_l_form_of (G.le (by decide)) (aj_cons (ej_dat 0) (aj_cons (ej_dat 3) (aj_cons (ej_call c_l_greatest (G.le (by decide)) (aj_cons (ej_dat 0) aj_nil) (R_great.mk b p low high B3 F)) aj_nil))) (R_formof.mk b p low high S _ high (grQ b p high) 3040 2341 B3 F (great_can F) rfl (Int.le_refl _))

abbrev s_l_true_step : Stmt := topS 86
theorem sc_l_true_step : FnScope ["_law_step", "_law_found", "_law_inputs", "_law_word", "_law_parts", "_law_x", "_law_y", "_law_index"] ["_law_step", "_law_found", "_law_inputs"] (defScope s_l_true_step) := ⟨rfl, rfl, rfl, by decide +kernel, rfl, by decide +kernel, by decide +kernel⟩

theorem c_of_l_true_step_t (c_l_is_below : Cal P w K mg base "_law_is_below" 4 R_below) (c_l_sized : Cal P w K mg base "_law_sized" 4 (R_one fun x => fq (absQ x))) (c_l_added : Cal P w K mg base "_law_added" 6 (R_two (· + ·))) (c_l_lessened : Cal P w K mg base "_law_lessened" 6 (R_two (· - ·))) (c_l_multiplied : Cal P w K mg base "_law_multiplied" 6 (R_two (· * ·))) (c_l_divided : Cal P w K mg base "_law_divided" 6 R_over) (T_l_true_step : At K mg "_law_true_step" s_l_true_step ["_law_step", "_law_found", "_law_inputs"]) : ∀ tup : Bool, Cal P w K mg base "_law_true_step" 8 (R_tst tup) := fun tup =>
  cal_at T_l_true_step sc_l_true_step (by rintro _ _ _ _ ⟨⟩; rfl) fun f cd0 A out s0 H E0 G Γ B r B' hR => by
  obtain ⟨s, many, found, ins, N, B, hs, hr, hil, hf, hN, hl⟩ := hR
  cases s with
  | input i =>
    have hi : i < ins.length := by have : i < many := hs; omega
    refine sj_set 3 G.nd (d := .da (.str "input")) (ej_at (ds := [.str "input", .int (i : Nat)]) (ej_dat (d := (Stp.input i).d) 0)) ?_
    refine sj_when (x := true) (tj_is (tj_inT (ss := ["input", "told"]) (ej_dat (d := .str "input") 3) (ej_tupD (ad_cons ej_str (ad_cons ej_str ad_nil)) (Nat.le_of_ble_eq_true rfl))) (by decide)) (fun _ => ?_) (fun h => Bool.noConfusion h)
    exact sj_ret (ej_ifT (tj_is (tj_eqS (ej_dat (d := .str "input") 3) ej_str) (by decide)) (ej_ixT (ej_dat (d := .tuple (ins.map fq)) 2) (ej_at (ds := [.str "input", .int (i : Nat)]) (y := .int (i : Nat)) (ej_dat (d := (Stp.input i).d) 0)) (atI_nat (by rw [List.getElem?_map, List.getElem?_eq_getElem hi]; rfl)) fun _ _ => rfl)) ⟨by show fq _ = fq (ins.getD i 0); rw [List.getD_eq_getElem?_getD, List.getElem?_eq_getElem hi]; rfl, rfl⟩
  | told q =>
    refine sj_set 3 G.nd (d := .da (.str "told")) (ej_at (ds := [.str "told", fq q]) (ej_dat (d := (Stp.told q).d) 0)) ?_
    refine sj_when (x := true) (tj_is (tj_inT (ss := ["input", "told"]) (ej_dat (d := .str "told") 3) (ej_tupD (ad_cons ej_str (ad_cons ej_str ad_nil)) (Nat.le_of_ble_eq_true rfl))) (by decide)) (fun _ => ?_) (fun h => Bool.noConfusion h)
    exact sj_ret (ej_ifF (tj_is (tj_eqS (ej_dat (d := .str "told") 3) ej_str) (by decide)) (ej_at (ds := [.str "told", fq q]) (y := fq q) (ej_dat (d := (Stp.told q).d) 0))) ⟨rfl, rfl⟩
  | op wd is =>
    obtain ⟨hw, ha, hi⟩ := hs
    obtain ⟨_, _, n1, n2⟩ := words_in hw
    have al := arity_le wd
    have hr : wd ≠ "root" := hr
    have get : ∀ i ∈ is, atI (found.map optQ) ((i : Nat) : Int) = some (optQ (found.getD i none)) := fun i h => atI_nat (by rw [List.getElem?_map, List.getD_eq_getElem?_getD, List.getElem?_eq_getElem (hi i h)]; rfl)
    refine sj_set 3 G.nd (d := .da (.str wd)) (ej_at (ds := .str wd :: is.map fun i => PyData.int (i : Nat)) (ej_dat (d := (Stp.op wd is).d) 0) (atI_head rfl)) ?_
    refine sj_when (x := false) (tj_is (tj_inT (ss := ["input", "told"]) (ej_dat (d := .str wd) 3) (ej_tupD (ad_cons ej_str (ad_cons ej_str ad_nil)) (Nat.le_of_ble_eq_true rfl))) ?_) (fun h => Bool.noConfusion h) (fun _ => ?_)
    · simp only [List.any_cons, List.any_nil, Bool.or_false, Bool.or_eq_false_iff, decide_eq_false_iff_not]
      exact ⟨fun z => n1 z.symm, fun z => n2 z.symm⟩
    refine sj_setLcT (B1 := B) 4 (j := 7) (x := "_law_index") (d := .da (.list ((is.map fun i => found.getD i none).map optQ))) G.nd G.calm (blkOk_by (N := ["_law_step", "_law_found", "_law_inputs", "_law_word", "_law_parts", "_law_x", "_law_y", "_law_index"]) (sc := defScope s_l_true_step) (by decide +kernel)) (fun _ _ _ _ _ => pg_name (i := 7) G.nd rfl (Or.inl rfl)) ?_ ?_ (sw_true rfl rfl rfl (by decide +kernel))
    · rw [List.map_map]
      refine rj_mapT is (fun i => PyData.int (i : Nat)) (fun i => optQ (found.getD i none)) (ej_is (ej_sliceT (ej_dat (d := .tuple (.str wd :: is.map fun i => PyData.int (i : Nat))) 0) (oj_some ej_int) oj_none) (congrArg PyData.tuple (cut1 _))) (by omega) (fun i h => ?_)
      intro s1 H1 C1 cl1 fp1
      cases tup with
      | true => exact (ej_ixT (ej_dat (d := .tuple (found.map optQ)) 1) (ej_dat (d := .int (i : Nat)) 7) (get i h) fun _ _ => rfl)
      | false => exact (ej_ixL (ej_dat (d := .list (found.map optQ)) 1) (ej_dat (d := .int (i : Nat)) 7) (get i h) fun _ _ => rfl)
    refine sj_when (tj_eqS (ej_dat (d := .str wd) 3) ej_str) (fun h => ?_) (fun h => ?_)
    · have h := of_decide_eq_true h
      subst h
      have hl4 : is.length = 4 := ha
      match is, hl4 with
      | [i0, i1, i2, i3], _ =>
      have qz : ∀ (i : Nat) q, found.getD i none = some q → Qz N N q := fun i q h => hf q (get_mem h)
      have q0 := qz i0
      have q1 := qz i1
      rw [show PyData.list (List.map optQ (List.map (fun i => found.getD i none) [i0, i1, i2, i3])) = .list [optQ (found.getD i0 none), optQ (found.getD i1 none), optQ (found.getD i2 none), optQ (found.getD i3 none)] from rfl, show tsR found ins (.op "if" [i0, i1, i2, i3]) = ifQ (found.getD i0 none) (found.getD i1 none) (found.getD i2 none) (found.getD i3 none) from rfl]
      clear get
      generalize found.getD i0 none = x0 at *
      generalize found.getD i1 none = x1 at *
      generalize found.getD i2 none = x2 at *
      generalize found.getD i3 none = x3 at *
      cases x0 with
      | none => exact sj_when (x := true) (tj_w (wj_or (x := true) (y := false) (tj_is (tj_isN (ej_atL (y := .none) (ej_dat (d := .list [.none, optQ x1, optQ x2, optQ x3]) 4) rfl)) rfl) (fun h => Bool.noConfusion h))) (fun _ => sj_ret ej_non ⟨by cases x1 <;> rfl, rfl⟩) (fun h => Bool.noConfusion h)
      | some a =>
        cases x1 with
        | none => exact sj_when (x := true) (tj_w (wj_or (x := false) (y := true) (tj_is (tj_isN (ej_atL (y := fq a) (ej_dat (d := .list [fq a, .none, optQ x2, optQ x3]) 4) rfl)) rfl) fun _ => (wj_or1 (tj_is (tj_isN (ej_atL (y := .none) (ej_dat (d := .list [fq a, .none, optQ x2, optQ x3]) 4) rfl)) rfl)))) (fun _ => sj_ret ej_non ⟨rfl, rfl⟩) (fun h => Bool.noConfusion h)
        | some c =>
          refine sj_when (x := false) (tj_w (wj_or (x := false) (y := false) (tj_is (tj_isN (ej_atL (y := fq a) (ej_dat (d := .list [fq a, fq c, optQ x2, optQ x3]) 4) rfl)) rfl) fun _ => (wj_or1 (tj_is (tj_isN (ej_atL (y := fq c) (ej_dat (d := .list [fq a, fq c, optQ x2, optQ x3]) 4) rfl)) rfl)))) (fun h => Bool.noConfusion h) (fun _ => ?_)
          refine sj_ret (ej_ifV (x := decide (a < c)) (tj_val (ej_call c_l_is_below (G.le (by decide)) (aj_cons (ej_atL (y := fq a) (ej_dat (d := .list [fq a, fq c, optQ x2, optQ x3]) 4) rfl) (aj_cons (ej_atL (y := fq c) (ej_dat (d := .list [fq a, fq c, optQ x2, optQ x3]) 4) rfl) aj_nil)) (R_below.mk N N N N a c B (q0 a rfl) (q1 c rfl) (by omega) (by omega)))) (fun _ => (ej_atL (y := optQ x2) (ej_dat (d := .list [fq a, fq c, optQ x2, optQ x3]) 4) rfl)) fun _ => (ej_atL (y := optQ x3) (ej_dat (d := .list [fq a, fq c, optQ x2, optQ x3]) 4) rfl)) ⟨?_, rfl⟩
          show _ = optQ (if a < c then x2 else x3)
          by_cases g : a < c
          · rw [decide_eq_true g, if_pos g]; rfl
          · rw [decide_eq_false g, if_neg g]; rfl
    have hne := of_decide_eq_false h
    have er : tsR found ins (.op wd is) = if (is.map fun i => found.getD i none).all (·.isSome) = true then (if wd = "by" ∧ ((found.getD (is.getD 1 0) none).getD 0) = 0 then none else some (opQ wd (is.map fun i => (found.getD i none).getD 0))) else none := by
      show (if wd = "if" then _ else _) = _
      rw [if_neg hne]
    rw [er]
    have anyN : ((is.map fun i => found.getD i none).map optQ).any (fun z => PyData.eqv z .none) = !((is.map fun i => found.getD i none).all (·.isSome)) := by
      rw [List.any_map]
      generalize is.map (fun i => found.getD i none) = L
      induction L with
      | nil => rfl
      | cons o L ih => rw [List.any_cons, List.all_cons, ih]; show (PyData.eqv (optQ o) .none || _) = _; rw [opt_eqv, Bool.not_and]
    by_cases all : (is.map fun i => found.getD i none).all (·.isSome) = true
    · rw [if_pos all]
      rw [all] at anyN
      -- the parts are FRACTIONS
      obtain ⟨Q, eQ, hQ⟩ : ∃ Q : List Rat, (is.map fun i => found.getD i none) = Q.map some ∧ ∀ q ∈ Q, Qz N N q := by
        refine ⟨is.map fun i => (found.getD i none).getD 0, ?_, fun q hq => ?_⟩
        · rw [List.map_map]
          refine List.map_congr_left fun i h => ?_
          have h1 := List.all_eq_true.mp all _ (List.mem_map_of_mem h)
          obtain ⟨r, e⟩ := Option.isSome_iff_exists.mp h1
          show found.getD i none = some ((found.getD i none).getD 0)
          rw [e]; rfl
        · obtain ⟨i, h, rfl⟩ := List.mem_map.mp hq
          have h1 := List.all_eq_true.mp all _ (List.mem_map_of_mem h)
          obtain ⟨r, e⟩ := Option.isSome_iff_exists.mp h1
          rw [e]
          exact hf r (get_mem e)
      have eQ2 : (is.map fun i => (found.getD i none).getD 0) = Q := by
        have := congrArg (List.map fun o : Option Rat => o.getD 0) eQ
        rw [List.map_map, List.map_map] at this
        rw [show (fun i => (found.getD i none).getD 0) = ((fun o : Option Rat => o.getD 0) ∘ fun i => found.getD i none) from rfl, this]
        show List.map (fun q : Rat => q) Q = Q
        exact List.map_id Q
      have e1 : ((found.getD (is.getD 1 0) none).getD 0) = if 1 < is.length then Q.getD 1 0 else ((found.getD 0 none).getD 0) := by
        by_cases z : 1 < is.length
        · rw [if_pos z, ← eQ2]
          have k1 : (is.map fun i => (found.getD i none).getD 0).getD 1 0 = (found.getD is[1] none).getD 0 := by
            rw [List.getD_eq_getElem?_getD (l := is.map fun i => (found.getD i none).getD 0), List.getElem?_map, List.getElem?_eq_getElem z]; rfl
          have k2 : is.getD 1 0 = is[1] := by rw [List.getD_eq_getElem?_getD, List.getElem?_eq_getElem z]; rfl
          rw [k1, k2]
        · rw [if_neg z, List.getD_eq_getElem?_getD (l := is), List.getElem?_eq_none (by omega)]; rfl
      have lQ : Q.length = arity wd := by rw [← eQ2, List.length_map]; exact ha
      have elem : PyData.list ((is.map fun i => found.getD i none).map optQ) = .list (Q.map fq) := by rw [eQ, List.map_map]; rfl
      rw [eQ2]
      have l1 : 1 < is.length ↔ 1 < Q.length := by rw [lQ, ha]
      clear get all er eQ eQ2
      rw [e1, elem]
      clear e1 elem anyN hi
      simp only [pgWords, List.mem_cons, List.not_mem_nil, or_false] at hw
      rcases hw with rfl | rfl | rfl | rfl | rfl | rfl | rfl | rfl | rfl | rfl | rfl
      · obtain ⟨x, y, rfl⟩ := two_ofL (show Q.length = 2 from lQ)
        have qx := hQ x (by simp)
        have qy := hQ y (by simp)
        rw [if_neg (show ¬ (("add" : Str) = "by" ∧ _) from fun z => absurd z.1 (by decide))]
        refine sj_when (x := false) (tj_w (wj_or (x := false) (y := false) (tj_is (tj_inDL G.hu ej_non (ej_dat (d := .list [fq x, fq y]) 4) rfl (fqs_shl [x, y]) (by decide)) (any_fq [x, y])) fun _ => (wj_or1 (tj_w (wj_and (x := false) (y := false) (tj_is (tj_eqS (ej_dat (d := .str "add") 3) ej_str) (by decide)) (fun h => Bool.noConfusion h)))))) (fun h => Bool.noConfusion h) (fun _ => ?_)
        refine sj_par 5 6 G.nd G.calm (d1 := .da (fq x)) (d2 := .da (fq y)) (aj_cons (ej_atL (y := fq x) (ej_dat (d := .list [fq x, fq y]) 4) rfl) (aj_cons (ej_ixL (y := fq y) (ej_dat (d := .list [fq x, fq y]) 4) (ej_neg ej_int) rfl fun _ _ => rfl) aj_nil)) ?_ (by decide) (by rfl)
        refine sj_when (x := false) (tj_is (tj_inT (ss := ["opposite", "size"]) (ej_dat (d := .str "add") 3) (ej_tupD (ad_cons ej_str (ad_cons ej_str ad_nil)) (Nat.le_of_ble_eq_true rfl))) (by decide)) (fun h => Bool.noConfusion h) (fun _ => ?_)
        refine sj_when (x := false) (tj_is (tj_inT (ss := ["least", "greatest"]) (ej_dat (d := .str "add") 3) (ej_tupD (ad_cons ej_str (ad_cons ej_str ad_nil)) (Nat.le_of_ble_eq_true rfl))) (by decide)) (fun h => Bool.noConfusion h) (fun _ => ?_)
        refine sj_when (x := true) (tj_is (tj_inT (ss := ["add", "take"]) (ej_dat (d := .str "add") 3) (ej_tupD (ad_cons ej_str (ad_cons ej_str ad_nil)) (Nat.le_of_ble_eq_true rfl))) (by decide)) (fun _ => ?_) (fun h => Bool.noConfusion h)
        exact sj_ret (ej_ifT (tj_is (tj_eqS (ej_dat (d := .str "add") 3) ej_str) (by decide)) (ej_call c_l_added (G.le (by decide)) (aj_cons (ej_dat (d := fq x) 5) (aj_cons (ej_dat (d := fq y) 6) aj_nil)) (R_two.mk N N N N x y B qx qy (by omega) (by omega) (by omega)))) ⟨by show _ = fq (opQ _ _); rw [opQ_add x y 0], rfl⟩
      · obtain ⟨x, y, rfl⟩ := two_ofL (show Q.length = 2 from lQ)
        have qx := hQ x (by simp)
        have qy := hQ y (by simp)
        rw [if_neg (show ¬ (("take" : Str) = "by" ∧ _) from fun z => absurd z.1 (by decide))]
        refine sj_when (x := false) (tj_w (wj_or (x := false) (y := false) (tj_is (tj_inDL G.hu ej_non (ej_dat (d := .list [fq x, fq y]) 4) rfl (fqs_shl [x, y]) (by decide)) (any_fq [x, y])) fun _ => (wj_or1 (tj_w (wj_and (x := false) (y := false) (tj_is (tj_eqS (ej_dat (d := .str "take") 3) ej_str) (by decide)) (fun h => Bool.noConfusion h)))))) (fun h => Bool.noConfusion h) (fun _ => ?_)
        refine sj_par 5 6 G.nd G.calm (d1 := .da (fq x)) (d2 := .da (fq y)) (aj_cons (ej_atL (y := fq x) (ej_dat (d := .list [fq x, fq y]) 4) rfl) (aj_cons (ej_ixL (y := fq y) (ej_dat (d := .list [fq x, fq y]) 4) (ej_neg ej_int) rfl fun _ _ => rfl) aj_nil)) ?_ (by decide) (by rfl)
        refine sj_when (x := false) (tj_is (tj_inT (ss := ["opposite", "size"]) (ej_dat (d := .str "take") 3) (ej_tupD (ad_cons ej_str (ad_cons ej_str ad_nil)) (Nat.le_of_ble_eq_true rfl))) (by decide)) (fun h => Bool.noConfusion h) (fun _ => ?_)
        refine sj_when (x := false) (tj_is (tj_inT (ss := ["least", "greatest"]) (ej_dat (d := .str "take") 3) (ej_tupD (ad_cons ej_str (ad_cons ej_str ad_nil)) (Nat.le_of_ble_eq_true rfl))) (by decide)) (fun h => Bool.noConfusion h) (fun _ => ?_)
        refine sj_when (x := true) (tj_is (tj_inT (ss := ["add", "take"]) (ej_dat (d := .str "take") 3) (ej_tupD (ad_cons ej_str (ad_cons ej_str ad_nil)) (Nat.le_of_ble_eq_true rfl))) (by decide)) (fun _ => ?_) (fun h => Bool.noConfusion h)
        exact sj_ret (ej_ifF (tj_is (tj_eqS (ej_dat (d := .str "take") 3) ej_str) (by decide)) (ej_call c_l_lessened (G.le (by decide)) (aj_cons (ej_dat (d := fq x) 5) (aj_cons (ej_dat (d := fq y) 6) aj_nil)) (R_two.mk N N N N x y B qx qy (by omega) (by omega) (by omega)))) ⟨by show _ = fq (opQ _ _); rw [opQ_take x y 0], rfl⟩
      · exact absurd rfl hne
      · obtain ⟨x, y, rfl⟩ := two_ofL (show Q.length = 2 from lQ)
        have qx := hQ x (by simp)
        have qy := hQ y (by simp)
        rw [if_neg (show ¬ (("least" : Str) = "by" ∧ _) from fun z => absurd z.1 (by decide))]
        refine sj_when (x := false) (tj_w (wj_or (x := false) (y := false) (tj_is (tj_inDL G.hu ej_non (ej_dat (d := .list [fq x, fq y]) 4) rfl (fqs_shl [x, y]) (by decide)) (any_fq [x, y])) fun _ => (wj_or1 (tj_w (wj_and (x := false) (y := false) (tj_is (tj_eqS (ej_dat (d := .str "least") 3) ej_str) (by decide)) (fun h => Bool.noConfusion h)))))) (fun h => Bool.noConfusion h) (fun _ => ?_)
        refine sj_par 5 6 G.nd G.calm (d1 := .da (fq x)) (d2 := .da (fq y)) (aj_cons (ej_atL (y := fq x) (ej_dat (d := .list [fq x, fq y]) 4) rfl) (aj_cons (ej_ixL (y := fq y) (ej_dat (d := .list [fq x, fq y]) 4) (ej_neg ej_int) rfl fun _ _ => rfl) aj_nil)) ?_ (by decide) (by rfl)
        refine sj_when (x := false) (tj_is (tj_inT (ss := ["opposite", "size"]) (ej_dat (d := .str "least") 3) (ej_tupD (ad_cons ej_str (ad_cons ej_str ad_nil)) (Nat.le_of_ble_eq_true rfl))) (by decide)) (fun h => Bool.noConfusion h) (fun _ => ?_)
        refine sj_when (x := true) (tj_is (tj_inT (ss := ["least", "greatest"]) (ej_dat (d := .str "least") 3) (ej_tupD (ad_cons ej_str (ad_cons ej_str ad_nil)) (Nat.le_of_ble_eq_true rfl))) (by decide)) (fun _ => ?_) (fun h => Bool.noConfusion h)
        by_cases g : x < y
        · exact sj_ret (ej_ifT (tj_is (tj_eqB G.hu (ej_call c_l_is_below (G.le (by decide)) (aj_cons (ej_dat (d := fq x) 5) (aj_cons (ej_dat (d := fq y) 6) aj_nil)) (R_below.mk N N N N x y B qx qy (by omega) (by omega))) (ej_eqS (ej_dat (d := .str "least") 3) ej_str)) (by rw [decide_eq_true g]; decide)) (ej_dat (d := fq x) 5)) ⟨by show _ = fq (opQ _ _); rw [opQ_least x y 0, if_pos g], rfl⟩
        · exact sj_ret (ej_ifF (tj_is (tj_eqB G.hu (ej_call c_l_is_below (G.le (by decide)) (aj_cons (ej_dat (d := fq x) 5) (aj_cons (ej_dat (d := fq y) 6) aj_nil)) (R_below.mk N N N N x y B qx qy (by omega) (by omega))) (ej_eqS (ej_dat (d := .str "least") 3) ej_str)) (by rw [decide_eq_false g]; decide)) (ej_dat (d := fq y) 6)) ⟨by show _ = fq (opQ _ _); rw [opQ_least x y 0, if_neg g], rfl⟩
      · obtain ⟨x, y, rfl⟩ := two_ofL (show Q.length = 2 from lQ)
        have qx := hQ x (by simp)
        have qy := hQ y (by simp)
        rw [if_neg (show ¬ (("greatest" : Str) = "by" ∧ _) from fun z => absurd z.1 (by decide))]
        refine sj_when (x := false) (tj_w (wj_or (x := false) (y := false) (tj_is (tj_inDL G.hu ej_non (ej_dat (d := .list [fq x, fq y]) 4) rfl (fqs_shl [x, y]) (by decide)) (any_fq [x, y])) fun _ => (wj_or1 (tj_w (wj_and (x := false) (y := false) (tj_is (tj_eqS (ej_dat (d := .str "greatest") 3) ej_str) (by decide)) (fun h => Bool.noConfusion h)))))) (fun h => Bool.noConfusion h) (fun _ => ?_)
        refine sj_par 5 6 G.nd G.calm (d1 := .da (fq x)) (d2 := .da (fq y)) (aj_cons (ej_atL (y := fq x) (ej_dat (d := .list [fq x, fq y]) 4) rfl) (aj_cons (ej_ixL (y := fq y) (ej_dat (d := .list [fq x, fq y]) 4) (ej_neg ej_int) rfl fun _ _ => rfl) aj_nil)) ?_ (by decide) (by rfl)
        refine sj_when (x := false) (tj_is (tj_inT (ss := ["opposite", "size"]) (ej_dat (d := .str "greatest") 3) (ej_tupD (ad_cons ej_str (ad_cons ej_str ad_nil)) (Nat.le_of_ble_eq_true rfl))) (by decide)) (fun h => Bool.noConfusion h) (fun _ => ?_)
        refine sj_when (x := true) (tj_is (tj_inT (ss := ["least", "greatest"]) (ej_dat (d := .str "greatest") 3) (ej_tupD (ad_cons ej_str (ad_cons ej_str ad_nil)) (Nat.le_of_ble_eq_true rfl))) (by decide)) (fun _ => ?_) (fun h => Bool.noConfusion h)
        by_cases g : x < y
        · exact sj_ret (ej_ifF (tj_is (tj_eqB G.hu (ej_call c_l_is_below (G.le (by decide)) (aj_cons (ej_dat (d := fq x) 5) (aj_cons (ej_dat (d := fq y) 6) aj_nil)) (R_below.mk N N N N x y B qx qy (by omega) (by omega))) (ej_eqS (ej_dat (d := .str "greatest") 3) ej_str)) (by rw [decide_eq_true g]; decide)) (ej_dat (d := fq y) 6)) ⟨by show _ = fq (opQ _ _); rw [opQ_greatest x y 0, if_pos g], rfl⟩
        · exact sj_ret (ej_ifT (tj_is (tj_eqB G.hu (ej_call c_l_is_below (G.le (by decide)) (aj_cons (ej_dat (d := fq x) 5) (aj_cons (ej_dat (d := fq y) 6) aj_nil)) (R_below.mk N N N N x y B qx qy (by omega) (by omega))) (ej_eqS (ej_dat (d := .str "greatest") 3) ej_str)) (by rw [decide_eq_false g]; decide)) (ej_dat (d := fq x) 5)) ⟨by show _ = fq (opQ _ _); rw [opQ_greatest x y 0, if_neg g], rfl⟩
      · obtain ⟨x, rfl⟩ := one_ofL (show Q.length = 1 from lQ)
        have qx := hQ x (by simp)
        rw [if_neg (show ¬ (("opposite" : Str) = "by" ∧ _) from fun z => absurd z.1 (by decide))]
        refine sj_when (x := false) (tj_w (wj_or (x := false) (y := false) (tj_is (tj_inDL G.hu ej_non (ej_dat (d := .list [fq x]) 4) rfl (fqs_shl [x]) (by decide)) (any_fq [x])) fun _ => (wj_or1 (tj_w (wj_and (x := false) (y := false) (tj_is (tj_eqS (ej_dat (d := .str "opposite") 3) ej_str) (by decide)) (fun h => Bool.noConfusion h)))))) (fun h => Bool.noConfusion h) (fun _ => ?_)
        refine sj_par 5 6 G.nd G.calm (d1 := .da (fq x)) (d2 := .da (fq x)) (aj_cons (ej_atL (y := fq x) (ej_dat (d := .list [fq x]) 4) rfl) (aj_cons (ej_ixL (y := fq x) (ej_dat (d := .list [fq x]) 4) (ej_neg ej_int) rfl fun _ _ => rfl) aj_nil)) ?_ (by decide) (by rfl)
        refine sj_when (x := true) (tj_is (tj_inT (ss := ["opposite", "size"]) (ej_dat (d := .str "opposite") 3) (ej_tupD (ad_cons ej_str (ad_cons ej_str ad_nil)) (Nat.le_of_ble_eq_true rfl))) (by decide)) (fun _ => ?_) (fun h => Bool.noConfusion h)
        exact sj_ret (ej_ifT (tj_is (tj_eqS (ej_dat (d := .str "opposite") 3) ej_str) (by decide)) (ej_is (ej_tupD (ad_cons (ej_neg (ej_at (ds := [.int x.num, .int (x.den : Int)]) (ej_dat (d := fq x) 5))) (ad_cons (ej_at (ds := [.int x.num, .int (x.den : Int)]) (ej_dat (d := fq x) 5)) ad_nil)) (Nat.le_of_ble_eq_true rfl)) (fq_neg x).symm)) ⟨by show _ = fq (opQ _ _); rw [opQ_opposite x 0 0], rfl⟩
      · obtain ⟨x, rfl⟩ := one_ofL (show Q.length = 1 from lQ)
        have qx := hQ x (by simp)
        rw [if_neg (show ¬ (("size" : Str) = "by" ∧ _) from fun z => absurd z.1 (by decide))]
        refine sj_when (x := false) (tj_w (wj_or (x := false) (y := false) (tj_is (tj_inDL G.hu ej_non (ej_dat (d := .list [fq x]) 4) rfl (fqs_shl [x]) (by decide)) (any_fq [x])) fun _ => (wj_or1 (tj_w (wj_and (x := false) (y := false) (tj_is (tj_eqS (ej_dat (d := .str "size") 3) ej_str) (by decide)) (fun h => Bool.noConfusion h)))))) (fun h => Bool.noConfusion h) (fun _ => ?_)
        refine sj_par 5 6 G.nd G.calm (d1 := .da (fq x)) (d2 := .da (fq x)) (aj_cons (ej_atL (y := fq x) (ej_dat (d := .list [fq x]) 4) rfl) (aj_cons (ej_ixL (y := fq x) (ej_dat (d := .list [fq x]) 4) (ej_neg ej_int) rfl fun _ _ => rfl) aj_nil)) ?_ (by decide) (by rfl)
        refine sj_when (x := true) (tj_is (tj_inT (ss := ["opposite", "size"]) (ej_dat (d := .str "size") 3) (ej_tupD (ad_cons ej_str (ad_cons ej_str ad_nil)) (Nat.le_of_ble_eq_true rfl))) (by decide)) (fun _ => ?_) (fun h => Bool.noConfusion h)
        exact sj_ret (ej_ifF (tj_is (tj_eqS (ej_dat (d := .str "size") 3) ej_str) (by decide)) (ej_call c_l_sized (G.le (by decide)) (aj_cons (ej_dat (d := fq x) 5) aj_nil) (R_one.mk x B))) ⟨by show _ = fq (opQ _ _); rw [opQ_size x 0 0], rfl⟩
      · obtain ⟨x, y, rfl⟩ := two_ofL (show Q.length = 2 from lQ)
        have qx := hQ x (by simp)
        have qy := hQ y (by simp)
        rw [if_neg (show ¬ (("times" : Str) = "by" ∧ _) from fun z => absurd z.1 (by decide))]
        refine sj_when (x := false) (tj_w (wj_or (x := false) (y := false) (tj_is (tj_inDL G.hu ej_non (ej_dat (d := .list [fq x, fq y]) 4) rfl (fqs_shl [x, y]) (by decide)) (any_fq [x, y])) fun _ => (wj_or1 (tj_w (wj_and (x := false) (y := false) (tj_is (tj_eqS (ej_dat (d := .str "times") 3) ej_str) (by decide)) (fun h => Bool.noConfusion h)))))) (fun h => Bool.noConfusion h) (fun _ => ?_)
        refine sj_par 5 6 G.nd G.calm (d1 := .da (fq x)) (d2 := .da (fq y)) (aj_cons (ej_atL (y := fq x) (ej_dat (d := .list [fq x, fq y]) 4) rfl) (aj_cons (ej_ixL (y := fq y) (ej_dat (d := .list [fq x, fq y]) 4) (ej_neg ej_int) rfl fun _ _ => rfl) aj_nil)) ?_ (by decide) (by rfl)
        refine sj_when (x := false) (tj_is (tj_inT (ss := ["opposite", "size"]) (ej_dat (d := .str "times") 3) (ej_tupD (ad_cons ej_str (ad_cons ej_str ad_nil)) (Nat.le_of_ble_eq_true rfl))) (by decide)) (fun h => Bool.noConfusion h) (fun _ => ?_)
        refine sj_when (x := false) (tj_is (tj_inT (ss := ["least", "greatest"]) (ej_dat (d := .str "times") 3) (ej_tupD (ad_cons ej_str (ad_cons ej_str ad_nil)) (Nat.le_of_ble_eq_true rfl))) (by decide)) (fun h => Bool.noConfusion h) (fun _ => ?_)
        refine sj_when (x := false) (tj_is (tj_inT (ss := ["add", "take"]) (ej_dat (d := .str "times") 3) (ej_tupD (ad_cons ej_str (ad_cons ej_str ad_nil)) (Nat.le_of_ble_eq_true rfl))) (by decide)) (fun h => Bool.noConfusion h) (fun _ => ?_)
        refine sj_when (x := false) (tj_is (tj_eqS (ej_dat (d := .str "times") 3) ej_str) (by decide)) (fun h => Bool.noConfusion h) (fun _ => ?_)
        exact sj_ret (ej_ifT (tj_is (tj_eqS (ej_dat (d := .str "times") 3) ej_str) (by decide)) (ej_call c_l_multiplied (G.le (by decide)) (aj_cons (ej_dat (d := fq x) 5) (aj_cons (ej_dat (d := fq y) 6) aj_nil)) (R_two.mk N N N N x y B qx qy (by omega) (by omega) (by omega)))) ⟨by show _ = fq (opQ _ _); rw [opQ_times x y 0], rfl⟩
      · obtain ⟨x, y, rfl⟩ := two_ofL (show Q.length = 2 from lQ)
        have qx := hQ x (by simp)
        have qy := hQ y (by simp)
        rw [if_pos (l1.mpr (by show 1 < 2; decide))]
        by_cases y0 : y = 0
        · rw [if_pos ⟨rfl, y0⟩]
          subst y0
          exact sj_when (x := true) (tj_w (wj_or (x := false) (y := true) (tj_is (tj_inDL G.hu ej_non (ej_dat (d := .list [fq x, fq 0]) 4) rfl (fqs_shl [x, 0]) (by decide)) (any_fq [x, 0])) fun _ => (wj_or1 (tj_w (wj_and (x := true) (y := true) (tj_is (tj_eqS (ej_dat (d := .str "by") 3) ej_str) (by decide)) (fun _ => (wj_and1 (tj_is (tj_eqI G.hu (ej_at (ds := [.int (0 : Rat).num, .int ((0 : Rat).den : Int)]) (ej_atL (y := fq 0) (ej_dat (d := .list [fq x, fq 0]) 4) rfl)) ej_int) rfl)))))))) (fun _ => sj_ret ej_non ⟨rfl, rfl⟩) (fun h => Bool.noConfusion h)
        rw [if_neg (fun z => y0 z.2)]
        refine sj_when (x := false) (tj_w (wj_or (x := false) (y := false) (tj_is (tj_inDL G.hu ej_non (ej_dat (d := .list [fq x, fq y]) 4) rfl (fqs_shl [x, y]) (by decide)) (any_fq [x, y])) fun _ => (wj_or1 (tj_w (wj_and (x := true) (y := false) (tj_is (tj_eqS (ej_dat (d := .str "by") 3) ej_str) (by decide)) (fun _ => (wj_and1 (tj_is (tj_eqI G.hu (ej_at (ds := [.int y.num, .int (y.den : Int)]) (ej_atL (y := fq y) (ej_dat (d := .list [fq x, fq y]) 4) rfl)) ej_int) (decide_eq_false (fun z => y0 (Rat.num_eq_zero.mp z))))))))))) (fun h => Bool.noConfusion h) (fun _ => ?_)
        refine sj_par 5 6 G.nd G.calm (d1 := .da (fq x)) (d2 := .da (fq y)) (aj_cons (ej_atL (y := fq x) (ej_dat (d := .list [fq x, fq y]) 4) rfl) (aj_cons (ej_ixL (y := fq y) (ej_dat (d := .list [fq x, fq y]) 4) (ej_neg ej_int) rfl fun _ _ => rfl) aj_nil)) ?_ (by decide) (by rfl)
        refine sj_when (x := false) (tj_is (tj_inT (ss := ["opposite", "size"]) (ej_dat (d := .str "by") 3) (ej_tupD (ad_cons ej_str (ad_cons ej_str ad_nil)) (Nat.le_of_ble_eq_true rfl))) (by decide)) (fun h => Bool.noConfusion h) (fun _ => ?_)
        refine sj_when (x := false) (tj_is (tj_inT (ss := ["least", "greatest"]) (ej_dat (d := .str "by") 3) (ej_tupD (ad_cons ej_str (ad_cons ej_str ad_nil)) (Nat.le_of_ble_eq_true rfl))) (by decide)) (fun h => Bool.noConfusion h) (fun _ => ?_)
        refine sj_when (x := false) (tj_is (tj_inT (ss := ["add", "take"]) (ej_dat (d := .str "by") 3) (ej_tupD (ad_cons ej_str (ad_cons ej_str ad_nil)) (Nat.le_of_ble_eq_true rfl))) (by decide)) (fun h => Bool.noConfusion h) (fun _ => ?_)
        refine sj_when (x := false) (tj_is (tj_eqS (ej_dat (d := .str "by") 3) ej_str) (by decide)) (fun h => Bool.noConfusion h) (fun _ => ?_)
        exact sj_ret (ej_ifF (tj_is (tj_eqS (ej_dat (d := .str "by") 3) ej_str) (by decide)) (ej_call c_l_divided (G.le (by decide)) (aj_cons (ej_dat (d := fq x) 5) (aj_cons (ej_dat (d := fq y) 6) aj_nil)) (R_over.mk N N N N x y B qx qy (by omega) (by omega) (by omega) y0))) ⟨by show _ = fq (opQ _ _); rw [opQ_by x y 0], rfl⟩
      · obtain ⟨x, m, y, rfl⟩ := three_ofL (show Q.length = 3 from lQ)
        have qx := hQ x (by simp)
        have qm := hQ m (by simp)
        have qy := hQ y (by simp)
        rw [if_neg (show ¬ (("fused" : Str) = "by" ∧ _) from fun z => absurd z.1 (by decide))]
        refine sj_when (x := false) (tj_w (wj_or (x := false) (y := false) (tj_is (tj_inDL G.hu ej_non (ej_dat (d := .list [fq x, fq m, fq y]) 4) rfl (fqs_shl [x, m, y]) (by decide)) (any_fq [x, m, y])) fun _ => (wj_or1 (tj_w (wj_and (x := false) (y := false) (tj_is (tj_eqS (ej_dat (d := .str "fused") 3) ej_str) (by decide)) (fun h => Bool.noConfusion h)))))) (fun h => Bool.noConfusion h) (fun _ => ?_)
        refine sj_par 5 6 G.nd G.calm (d1 := .da (fq x)) (d2 := .da (fq y)) (aj_cons (ej_atL (y := fq x) (ej_dat (d := .list [fq x, fq m, fq y]) 4) rfl) (aj_cons (ej_ixL (y := fq y) (ej_dat (d := .list [fq x, fq m, fq y]) 4) (ej_neg ej_int) rfl fun _ _ => rfl) aj_nil)) ?_ (by decide) (by rfl)
        refine sj_when (x := false) (tj_is (tj_inT (ss := ["opposite", "size"]) (ej_dat (d := .str "fused") 3) (ej_tupD (ad_cons ej_str (ad_cons ej_str ad_nil)) (Nat.le_of_ble_eq_true rfl))) (by decide)) (fun h => Bool.noConfusion h) (fun _ => ?_)
        refine sj_when (x := false) (tj_is (tj_inT (ss := ["least", "greatest"]) (ej_dat (d := .str "fused") 3) (ej_tupD (ad_cons ej_str (ad_cons ej_str ad_nil)) (Nat.le_of_ble_eq_true rfl))) (by decide)) (fun h => Bool.noConfusion h) (fun _ => ?_)
        refine sj_when (x := false) (tj_is (tj_inT (ss := ["add", "take"]) (ej_dat (d := .str "fused") 3) (ej_tupD (ad_cons ej_str (ad_cons ej_str ad_nil)) (Nat.le_of_ble_eq_true rfl))) (by decide)) (fun h => Bool.noConfusion h) (fun _ => ?_)
        refine sj_when (x := true) (tj_is (tj_eqS (ej_dat (d := .str "fused") 3) ej_str) (by decide)) (fun _ => ?_) (fun h => Bool.noConfusion h)
        have qxm : Qz (N + N) (N + N) (x * m) := qx.mul qm
        exact sj_ret (ej_call c_l_added (G.le (by decide)) (aj_cons (ej_call c_l_multiplied (G.le (by decide)) (aj_cons (ej_dat (d := fq x) 5) (aj_cons (ej_atL (y := fq m) (ej_dat (d := .list [fq x, fq m, fq y]) 4) rfl) aj_nil)) (R_two.mk N N N N x m B qx qm (by omega) (by omega) (by omega))) (aj_cons (ej_dat (d := fq y) 6) aj_nil)) (R_two.mk (N + N) (N + N) N N (x * m) y B qxm qy (by omega) (by omega) (by omega))) ⟨by show _ = fq (opQ _ _); rw [opQ_fused x m y], rfl⟩
      · exact absurd rfl hr
    · rw [if_neg all]
      have an : ((is.map fun i => found.getD i none).map optQ).any (fun z => PyData.eqv z .none) = true := by rw [anyN]; simpa using all
      exact sj_when (x := true) (tj_w (wj_or (x := true) (y := false) (tj_is (tj_inDL G.hu ej_non (ej_dat (d := .list ((is.map fun i => found.getD i none).map optQ)) 4) rfl (opt_shl _) (by decide)) an) (fun h => Bool.noConfusion h))) (fun _ => sj_ret ej_non ⟨rfl, rfl⟩) (fun h => Bool.noConfusion h)
theorem c_of_l_true_step (c_l_true_step_t : ∀ tup : Bool, Cal P w K mg base "_law_true_step" 8 (R_tst tup)) (T : At K mg "_law_true_step" s_l_true_step ["_law_step", "_law_found", "_law_inputs"]) : Cal P w K mg base "_law_true_step" 8 (R_tst false) := c_l_true_step_t false

abbrev s_l_placed : Stmt := topS 87
theorem sc_l_placed : FnScope ["_law_value"] ["_law_value"] (defScope s_l_placed) := ⟨rfl, rfl, rfl, by decide +kernel, rfl, by decide +kernel, by decide +kernel⟩

theorem c_of_l_placed (T : At K mg "_law_placed" s_l_placed ["_law_value"]) : Cal P w K mg base "_law_placed" 4 R_placed :=
  cal_at T sc_l_placed (by rintro _ _ _ _ ⟨⟩; rfl) fun f cd0 A out s0 H E0 G Γ B r B' hR => by
  obtain ⟨s, c, e, B⟩ := hR
  by_cases h : c = 0
  · rw [if_pos h]
    exact sj_ret (ej_ifT (tj_w (wj_andT (tj_is (tj_eqS (ej_at (ej_dat (d := .tuple (Va.l (.num s c e))) 0)) ej_str) rfl) (wj_and1 (tj_is (tj_eqI G.hu (ej_at (ej_dat (d := .tuple (Va.l (.num s c e))) 0)) ej_int) (decide_eq_true h))))) (ej_is (ej_catT (ds := [.str "num", .int 0]) (es' := [.int c, .int e]) (ej_tupD (ad_cons ej_str (ad_cons ej_int ad_nil)) (Nat.le_of_ble_eq_true rfl)) (ej_is (ej_sliceT (ds := Va.l (.num s c e)) (ej_dat (d := .tuple (Va.l (.num s c e))) 0) (oj_some ej_int) oj_none) rfl) (Nat.le_of_ble_eq_true rfl)) rfl)) ⟨rfl, rfl⟩
  · rw [if_neg h]
    exact sj_ret (ej_ifF (tj_w (wj_andT (tj_is (tj_eqS (ej_at (ej_dat (d := .tuple (Va.l (.num s c e))) 0)) ej_str) rfl) (wj_and1 (tj_is (tj_eqI G.hu (ej_at (ej_dat (d := .tuple (Va.l (.num s c e))) 0)) ej_int) (decide_eq_false h))))) (ej_dat (d := (Va.num s c e).d) 0)) ⟨rfl, rfl⟩

abbrev s_l_does_hold : Stmt := topS 88
theorem sc_l_does_hold : FnScope ["_law_form", "_law_span", "_law_x", "_law_low", "_law_high"] ["_law_form", "_law_span", "_law_x"] (defScope s_l_does_hold) := ⟨rfl, rfl, rfl, by decide +kernel, rfl, by decide +kernel, by decide +kernel⟩

theorem c_of_l_does_hold (c_l_is_below : Cal P w K mg base "_law_is_below" 4 R_below) (c_l_worth : Cal P w K mg base "_law_worth" 7 R_worth) (T : At K mg "_law_does_hold" s_l_does_hold ["_law_form", "_law_span", "_law_x"]) : Cal P w K mg base "_law_does_hold" 8 R_dhold :=
  cal_at T sc_l_does_hold (by rintro _ _ _ _ ⟨⟩; rfl) fun f cd0 A out s0 H E0 G Γ B r B' hR => by
  obtain ⟨b, p, low, high, s, x, n, d, B, F, hs, hx, hn, hd⟩ := hR
  cases s with
  | none => exact sj_when (x := true) (tj_is (tj_eq G.hu (ej_dat (d := Sp.d .none) 1) (ej_tupD (ad_cons ej_str ad_nil) (Nat.le_of_ble_eq_true rfl)) (sh_sp .none).shaped sh_noneP) (sp_none .none)) (fun _ => sj_ret ej_bl ⟨rfl, rfl⟩) (fun h => Bool.noConfusion h)
  | span u v =>
    refine sj_when (x := false) (tj_is (tj_eq G.hu (ej_dat (d := (Sp.span u v).d) 1) (ej_tupD (ad_cons ej_str ad_nil) (Nat.le_of_ble_eq_true rfl)) (sh_sp (.span u v)).shaped sh_noneP) (sp_none (.span u v))) (fun h => Bool.noConfusion h) (fun _ => ?_)
    refine sj_par 3 4 G.nd G.calm (aj_cons (ej_at (y := u.d) (ej_dat (d := .tuple [.str "span", u.d, v.d]) 1)) (aj_cons (ej_at (y := v.d) (ej_dat (d := .tuple [.str "span", u.d, v.d]) 1)) aj_nil)) ?_ (by decide) (by rfl)
    have eh : holdB b (.span u v) x = (!(u.isNum && decide (x < u.wQ b)) && (v.isInf || !decide (v.wQ b < x))) := rfl
    rw [eh]
    have cu := hs.1.1.1
    have cv := hs.1.2.1
    refine sj_when (x := u.isNum && decide (x < u.wQ b)) (tj_w (wj_and (tj_is (tj_eqS (ej_at (ej_dat (d := .tuple u.l) 3) u.at0) ej_str) (tag_numD u)) fun h1 => (wj_and1 ?t1))) (fun h => ?_) (fun h => ?_)
    case t1 =>
      obtain ⟨s1, c1, e1, rfl⟩ : ∃ s c e, u = .num s c e := by cases u <;> first | exact ⟨_, _, _, rfl⟩ | cases h1
      exact (tj_val (ej_call c_l_is_below (G.le (by decide)) (aj_cons (ej_dat 2) (aj_cons (ej_call c_l_worth (G.le (by decide)) (aj_cons (ej_dat 0) (aj_cons (ej_dat (d := (Va.num s1 c1 e1).d) 3) aj_nil)) (R_worth.mk b p low high s1 c1 e1 B F cu.ok)) aj_nil)) (R_below.mk _ _ _ _ _ _ B hx (F.wz cu.ok) (by omega) (by decide))))
    · rw [h]; exact sj_ret ej_bl ⟨rfl, rfl⟩
    · rw [h]
      refine sj_ret (ej_or (x := v.isInf) (y := !decide (v.wQ b < x)) (ej_is (ej_eqS (ej_at (ej_dat (d := .tuple v.l) 4) v.at0) ej_str) (by rw [tag_inf])) fun h2 => (ej_one ?t2)) ⟨rfl, rfl⟩
      obtain ⟨s1, c1, e1, rfl⟩ := num_of hs.1.2.2 h2
      exact (ej_not (ej_call c_l_is_below (G.le (by decide)) (aj_cons (ej_call c_l_worth (G.le (by decide)) (aj_cons (ej_dat 0) (aj_cons (ej_dat (d := (Va.num s1 c1 e1).d) 4) aj_nil)) (R_worth.mk b p low high s1 c1 e1 B F cv.ok)) (aj_cons (ej_dat 2) aj_nil)) (R_below.mk _ _ _ _ _ _ B (F.wz cv.ok) hx (by decide) (by omega))))

abbrev s_l_some_within : Stmt := topS 89
theorem sc_l_some_within : FnScope ["_law_bag_here", "_law_form", "_law_span", "_law_far", "_law_low", "_law_high", "_law_part"] ["_law_bag_here", "_law_form", "_law_span"] (defScope s_l_some_within) := ⟨rfl, rfl, rfl, by decide +kernel, rfl, by decide +kernel, by decide +kernel⟩

theorem c_of_l_some_within /-H-/ (c_l_multiplied : Cal P w K mg base "_law_multiplied" 6 (R_two (· * ·))) (c_l_greatest : Cal P w K mg base "_law_greatest" 7 R_great) (c_l_some : Cal P w K mg base "_law_some" 5 R_some) (c_l_worth : Cal P w K mg base "_law_worth" 7 R_worth) (c_l_lessened : Cal P w K mg base "_law_lessened" 6 (R_two (· - ·))) (c_l_added : Cal P w K mg base "_law_added" 6 (R_two (· + ·))) /-E-/ (T : At K mg "_law_some_within" s_l_some_within ["_law_bag_here", "_law_form", "_law_span"]) : CalX P w K mg base "_law_some_within" 8 Pre_wit2 Post_wit2 :=
  calx_at T sc_l_some_within (by rintro _ _ ⟨t, u, v, rfl, _⟩; rfl) fun f cd0 A out s0 H E0 G Γ B hPre => by
  obtain ⟨t, u, v, rfl, Ft, St, hs, ok⟩ := hPre
  obtain ⟨b, p, low, high⟩ := t
  have F : Fm b p low high := Ft
  have S : Sml b p low high := St
  have post : ∀ (x : Rat) (B' : Bag), Bok B' → Qz 40 36 x → holdB b (.span u v) x = true → Post_wit2 [.bag, .da (fmP b p low high), .da (Sp.span u v).d] B (fq x) B' := fun x B' h1 h2 h3 => ⟨h1, (b, p, low, high), u, v, rfl, x, rfl, h2, h3⟩
  have cu := hs.1.1.1
  have cv := hs.1.2.1
  have hN0 : 0 < b ^ (-low).toNat := Nat.pow_pos (by have := F.b2; omega)
  have hN1 : 7 * b ^ (-low).toNat < 2 ^ 23 := by
    have := S.bl
    omega
  have hN7 : 0 < 7 * b ^ (-low).toNat := by omega
  have wc : ∀ {w : Va}, Vok b p low high w → Cm (7 * b ^ (-low).toNat) 22 (w.wQ b) := fun h => ((sm_cm F S h).more 7 (j := 3) (by decide)).le (by decide)
  have r1 := R_some.mk B (farL.map fq) (by decide) (by decide) ok
  rw [pick_fq farL B (by decide)] at r1
  have hm := pickQ_mem farL B (by decide)
  have ok1 := tkB_ok ok (farL.map fq).length
  generalize tkB B (farL.map fq).length = B1 at *
  generalize pickQ farL B = ff at *
  obtain ⟨qf, cf, fp⟩ := sm_far F S ff hm
  have gz := gr_qz F
  refine sj_set 3 G.nd (ej_call c_l_multiplied (G.le (by decide)) (aj_cons (ej_call c_l_greatest (G.le (by decide)) (aj_cons (ej_dat (d := fmP b p low high) 1) aj_nil) (R_great.mk b p low high B F)) (aj_cons (ej_call c_l_some (G.le (by decide)) (aj_cons (ej_bag 0) (aj_cons (ej_is (ej_lstD (ad_cons (ej_tupD (ad_cons ej_int (ad_cons ej_int ad_nil)) (Nat.le_of_ble_eq_true rfl)) (ad_cons (ej_tupD (ad_cons ej_int (ad_cons ej_int ad_nil)) (Nat.le_of_ble_eq_true rfl)) (ad_cons (ej_tupD (ad_cons ej_int (ad_cons ej_int ad_nil)) (Nat.le_of_ble_eq_true rfl)) ad_nil))) (Nat.le_of_ble_eq_true rfl)) far_is) aj_nil)) (r1)) aj_nil)) (R_two.mk _ _ _ _ _ _ B1 gz qf (by decide) (by decide) (by decide))) ?_
  have fpos : 0 < grQ b p high * ff := Rat.mul_pos (gr_pos F) fp
  generalize grQ b p high * ff = far at *
  clear qf gz hm r1 fp
  have qf := cf.qz hN7 hN1
  have wu : ∀ {s c e : Int}, Vok b p low high (.num s c e) → Qz 20 21 ((Va.num s c e).wQ b) := fun h => sm_qz F S h
  refine sj_set 4 G.nd (B1 := B1) (d := .da (if u.isNum = true then fq (u.wQ b) else .none)) (ej_if (B1 := B1) (B2 := B1) (tj_is (tj_eqS (ej_at (ds := u.l) (ej_at (y := .tuple u.l) (ej_dat (d := .tuple [.str "span", u.d, v.d]) 2)) u.at0) ej_str) (tag_numD u)) (fun h => ?_) (fun h => ?_)) ?_
  · rw [if_pos h]
    obtain ⟨s1, c1, e1, rfl⟩ : ∃ s c e, u = .num s c e := by cases u <;> first | exact ⟨_, _, _, rfl⟩ | cases h
    exact (ej_call c_l_worth (G.le (by decide)) (aj_cons (ej_dat (d := fmP b p low high) 1) (aj_cons (ej_at (y := (Va.num s1 c1 e1).d) (ej_dat (d := .tuple [.str "span", (Va.num s1 c1 e1).d, v.d]) 2)) aj_nil)) (R_worth.mk b p low high s1 c1 e1 B1 F cu.ok))
  · rw [if_neg (show ¬ u.isNum = true from by rw [h]; decide)]; exact ej_non
  refine sj_set 5 G.nd (B1 := B1) (d := .da (if v.isNum = true then fq (v.wQ b) else .none)) (ej_if (B1 := B1) (B2 := B1) (tj_is (tj_eqS (ej_at (ds := v.l) (ej_at (y := .tuple v.l) (ej_dat (d := .tuple [.str "span", u.d, v.d]) 2)) v.at0) ej_str) (tag_numD v)) (fun h => ?_) (fun h => ?_)) ?_
  · rw [if_pos h]
    obtain ⟨s1, c1, e1, rfl⟩ : ∃ s c e, v = .num s c e := by cases v <;> first | exact ⟨_, _, _, rfl⟩ | cases h
    exact (ej_call c_l_worth (G.le (by decide)) (aj_cons (ej_dat (d := fmP b p low high) 1) (aj_cons (ej_at (y := (Va.num s1 c1 e1).d) (ej_dat (d := .tuple [.str "span", u.d, (Va.num s1 c1 e1).d]) 2)) aj_nil)) (R_worth.mk b p low high s1 c1 e1 B1 F cv.ok))
  · rw [if_neg (show ¬ v.isNum = true from by rw [h]; decide)]; exact ej_non
  have isn : ∀ x : Rat, isNone (fq x) = false := fun _ => rfl
  refine sj_ifM (fun Γ' B2 => ∃ lo : Rat, Γ' = [.bag, .da (fmP b p low high), .da (Sp.span u v).d, .da (fq far), .da (fq lo), .da (if v.isNum = true then fq (v.wQ b) else .none), .no] ∧ B2 = B1 ∧ Cm (7 * b ^ (-low).toNat) 24 lo ∧ (u.isNum = true → lo = u.wQ b) ∧ (u.isNum = false → v.isNum = true → lo = v.wQ b - far)) (tj_is (y := !u.isNum) (tj_isN (ej_dat (d := if u.isNum = true then fq (u.wQ b) else .none) 4)) (by cases u.isNum <;> rfl)) (fun h => ?_) (fun h => ?_) ?_
  · have hu : u.isNum = false := by simpa using h
    refine sj_set 4 G.nd (B1 := B1) (d := .da (if v.isNum = true then fq (v.wQ b - far) else fq (-far))) (ej_if (B1 := B1) (B2 := B1) (tj_is (y := v.isNum) (tj_notN (ej_dat (d := if v.isNum = true then fq (v.wQ b) else .none) 5)) (by cases v.isNum <;> rfl)) (fun h => ?_) (fun h => ?_)) ?_
    · rw [if_pos h, if_pos h]
      obtain ⟨s1, c1, e1, rfl⟩ : ∃ s c e, v = .num s c e := by cases v <;> first | exact ⟨_, _, _, rfl⟩ | cases h
      exact (ej_call c_l_lessened (G.le (by decide)) (aj_cons (ej_dat (d := fq ((Va.num s1 c1 e1).wQ b)) 5) (aj_cons (ej_dat 3) aj_nil)) (R_two.mk _ _ _ _ _ _ B1 (wu cv.ok) qf (by decide) (by decide) (by decide)))
    · rw [if_neg (show ¬ v.isNum = true from by rw [h]; decide), if_neg (show ¬ v.isNum = true from by rw [h]; decide)]
      exact (ej_is (ej_tupD (ad_cons (ej_neg (ej_at (ej_dat (d := .tuple [.int far.num, .int (far.den : Int)]) 3))) (ad_cons (ej_at (ej_dat (d := .tuple [.int far.num, .int (far.den : Int)]) 3)) ad_nil)) (Nat.le_of_ble_eq_true rfl)) (fq_neg far).symm)
    cases hv : v.isNum with
    | true => exact sj_nil ⟨v.wQ b - far, rfl, rfl, ((wc cv.ok).sub' cf).le (by decide), fun z => (by first | cases z | (rw [hu] at z; cases z)), fun _ _ => rfl⟩
    | false => exact sj_nil ⟨-far, rfl, rfl, cf.neg.le (by decide), fun z => (by first | cases z | (rw [hu] at z; cases z)), fun _ z => (by first | cases z | (rw [hv] at z; cases z))⟩
  · have hu : u.isNum = true := by simpa using h
    rw [if_pos hu]
    exact sj_nil ⟨u.wQ b, rfl, rfl, (wc cu.ok).le (by decide), fun _ => rfl, fun z => (by first | cases z | (rw [hu] at z; cases z))⟩
  rintro Γ2 B2 ⟨lo, rfl, rfl, cl, lo1, lo2⟩
  have ql := cl.qz hN7 hN1
  refine sj_ifM (fun Γ' B3 => ∃ hh : Rat, Γ' = [.bag, .da (fmP b p low high), .da (Sp.span u v).d, .da (fq far), .da (fq lo), .da (fq hh), .no] ∧ B3 = B2 ∧ Cm (7 * b ^ (-low).toNat) 26 hh ∧ (v.isNum = true → hh = v.wQ b) ∧ lo ≤ hh) (tj_is (y := !v.isNum) (tj_isN (ej_dat (d := if v.isNum = true then fq (v.wQ b) else .none) 5)) (by cases v.isNum <;> rfl)) (fun h => ?_) (fun h => ?_) ?_
  · have cff := cf.add' cf
    have qff := cff.qz hN7 hN1
    exact sj_set 5 G.nd (ej_call c_l_added (G.le (by decide)) (aj_cons (ej_dat 4) (aj_cons (ej_call c_l_added (G.le (by decide)) (aj_cons (ej_dat 3) (aj_cons (ej_dat 3) aj_nil)) (R_two.mk _ _ _ _ far far B2 qf qf (by decide) (by decide) (by decide))) aj_nil)) (R_two.mk _ _ _ _ lo (far + far) B2 ql qff (by decide) (by decide) (by decide))) (sj_nil ⟨lo + (far + far), rfl, rfl, (cl.add' (cff.le (by decide))).le (by decide), fun z => (by rw [z] at h; cases h), by grind⟩)
  · have hu : v.isNum = true := by simpa using h
    rw [if_pos hu]
    refine sj_nil ⟨v.wQ b, rfl, rfl, (wc cv.ok).le (by decide), fun _ => rfl, ?_⟩
    cases hu2 : u.isNum with
    | false => rw [lo2 hu2 hu]; grind
    | true =>
      rw [lo1 hu2]
      obtain ⟨s1, c1, e1, rfl⟩ : ∃ s c e, u = .num s c e := by cases u <;> first | exact ⟨_, _, _, rfl⟩ | cases hu2
      obtain ⟨s2, c2, e2, rfl⟩ : ∃ s c e, v = .num s c e := by cases v <;> first | exact ⟨_, _, _, rfl⟩ | cases hu
      exact xle_q.mp (enX_ok F hs rfl).two.le
  rintro Γ3 B3 ⟨hh, rfl, rfl, ch, hh1, lh⟩
  have qh := ch.qz hN7 hN1
  have r2 := R_some.mk B3 (witL.map fq) (by decide) (by decide) ok1
  rw [pick_fq witL B3 (by decide)] at r2
  have hm := pickQ_mem witL B3 (by decide)
  have ok2 := tkB_ok ok1 (witL.map fq).length
  generalize tkB B3 (witL.map fq).length = B4 at *
  generalize pickQ witL B3 = part at *
  refine sj_set 6 G.nd (ej_call c_l_some (G.le (by decide)) (aj_cons (ej_bag 0) (aj_cons (ej_is (ej_lstD (ad_cons (ej_tupD (ad_cons ej_int (ad_cons ej_int ad_nil)) (Nat.le_of_ble_eq_true rfl)) (ad_cons (ej_tupD (ad_cons ej_int (ad_cons ej_int ad_nil)) (Nat.le_of_ble_eq_true rfl)) (ad_cons (ej_tupD (ad_cons ej_int (ad_cons ej_int ad_nil)) (Nat.le_of_ble_eq_true rfl)) (ad_cons (ej_tupD (ad_cons ej_int (ad_cons ej_int ad_nil)) (Nat.le_of_ble_eq_true rfl)) (ad_cons (ej_tupD (ad_cons ej_int (ad_cons ej_int ad_nil)) (Nat.le_of_ble_eq_true rfl)) (ad_cons (ej_tupD (ad_cons ej_int (ad_cons ej_int ad_nil)) (Nat.le_of_ble_eq_true rfl)) ad_nil)))))) (Nat.le_of_ble_eq_true rfl)) wit_is) aj_nil)) (r2)) ?_
  have cd := ch.sub' (cl.le (show 24 ≤ 26 by decide))
  have qd := cd.qz hN7 hN1
  obtain ⟨qp, cp⟩ := wit_cm cd part hm
  obtain ⟨p0, p1⟩ := wit_01 part hm
  have hN2 : 3000 * (7 * b ^ (-low).toNat) < 2 ^ 35 := by omega
  have hN3 : 0 < 3000 * (7 * b ^ (-low).toNat) := by omega
  have qpd := cp.qz hN3 hN2
  have cx := ((cl.more 3000 (j := 12) (by decide)).le (show 12 + 24 ≤ 12 + (26 + 1) by decide)).add' cp
  have qx := cx.qz hN3 hN2
  refine sj_ret (ej_call c_l_added (G.le (by decide)) (aj_cons (ej_dat 4) (aj_cons (ej_call c_l_multiplied (G.le (by decide)) (aj_cons (ej_dat 6) (aj_cons (ej_call c_l_lessened (G.le (by decide)) (aj_cons (ej_dat 5) (aj_cons (ej_dat 4) aj_nil)) (R_two.mk _ _ _ _ hh lo B4 qh ql (by decide) (by decide) (by decide))) aj_nil)) (R_two.mk _ _ _ _ part (hh - lo) B4 qp qd (by decide) (by decide) (by decide))) aj_nil)) (R_two.mk _ _ _ _ lo (part * (hh - lo)) B4 ql qpd (by decide) (by decide) (by decide))) (post _ B4 ok2 (qx.le (by decide) (by decide)) ?_)
  have d0 : 0 ≤ hh - lo := by grind
  have k0 : 0 ≤ part * (hh - lo) := Rat.mul_nonneg p0 d0
  have k1 : part * (hh - lo) ≤ hh - lo := by
    have := Rat.mul_le_mul_of_nonneg_right p1 d0
    rwa [Rat.one_mul] at this
  show (!(u.isNum && decide (lo + part * (hh - lo) < u.wQ b)) && (v.isInf || !decide (v.wQ b < lo + part * (hh - lo)))) = true
  generalize part * (hh - lo) = k at *
  have g1 : (u.isNum && decide (lo + k < u.wQ b)) = false := by
    cases hu : u.isNum with
    | false => rfl
    | true => rw [← lo1 hu, Bool.true_and, decide_eq_false_iff_not]; grind
  have g2 : (v.isInf || !decide (v.wQ b < lo + k)) = true := by
    cases hv : v.isNum with
    | true => rw [← hh1 hv, Bool.or_eq_true]; right; rw [Bool.not_eq_true', decide_eq_false_iff_not]; grind
    | false =>
      have nv := hs.1.2.2
      cases v with
      | nan => cases nv
      | inf s => rfl
      | num s c e => cases hv
  rw [g1, g2]; rfl

abbrev s_l_wide_below : Stmt := topS 90
theorem sc_l_wide_below : FnScope ["_law_x", "_law_y"] ["_law_x", "_law_y"] (defScope s_l_wide_below) := ⟨rfl, rfl, rfl, by decide +kernel, rfl, by decide +kernel, by decide +kernel⟩

theorem c_of_l_wide_below (c_l_is_below : Cal P w K mg base "_law_is_below" 4 R_below) (T : At K mg "_law_wide_below" s_l_wide_below ["_law_x", "_law_y"]) : Cal P w K mg base "_law_wide_below" 5 R_wbel :=
  cal_at T sc_l_wide_below (by rintro _ _ _ _ ⟨⟩; rfl) fun f cd0 A out s0 H E0 G Γ B r B' hR => by
  obtain ⟨b, p, low, high, u, v, B, F, hu, hv, nu, nv⟩ := hR
  rw [xe_pair b u, xe_pair b v]
  refine sj_when (x := decide (xd b u = 0) || decide (xd b v = 0)) (tj_w (wj_or (tj_eqI G.hu (ej_at (ej_dat (d := .tuple [.int (xn b u), .int (xd b u)]) 0)) ej_int) fun _ => (wj_or1 (tj_eqI G.hu (ej_at (ej_dat (d := .tuple [.int (xn b v), .int (xd b v)]) 1)) ej_int)))) (fun h => ?_) (fun h => ?_)
  · refine sj_ret (ej_and (ej_is (ej_ne G.hu (ej_dat (d := .tuple [.int (xn b u), .int (xd b u)]) 0) (ej_dat (d := .tuple [.int (xn b v), .int (xd b v)]) 1) (shaped_ii _ _) (shaped_ii _ _)) (by rw [eqv_ii])) fun _ => (ej_one (ej_or (ej_is (ej_eq G.hu (ej_dat (d := .tuple [.int (xn b u), .int (xd b u)]) 0) (ej_tupD (ad_cons (ej_neg ej_int) (ad_cons ej_int ad_nil)) (Nat.le_of_ble_eq_true rfl)) (shaped_ii _ _) (shaped_ii _ _)) (by rw [eqv_ii])) fun _ => (ej_one (ej_is (ej_eq G.hu (ej_dat (d := .tuple [.int (xn b v), .int (xd b v)]) 1) (ej_tupD (ad_cons ej_int (ad_cons ej_int ad_nil)) (Nat.le_of_ble_eq_true rfl)) (shaped_ii _ _) (shaped_ii _ _)) (by rw [eqv_ii])))))) ⟨?_, rfl⟩
    rw [← wb_pair hu hv nu nv h]; rfl
  · obtain ⟨h1, h2⟩ := Bool.or_eq_false_iff.mp h
    cases u with
    | nan => cases nu
    | inf s => cases h1
    | num s c e => cases v with
      | nan => cases nv
      | inf t => cases h2
      | num t c' e' => exact sj_ret (ej_call c_l_is_below (G.le (by decide)) (aj_cons (ej_dat (d := fq ((Va.num s c e).wQ b)) 0) (aj_cons (ej_dat (d := fq ((Va.num t c' e').wQ b)) 1) aj_nil)) (R_below.mk _ _ _ _ _ _ B (F.wz hu) (F.wz hv) (by decide) (by decide))) ⟨rfl, rfl⟩

abbrev s_l_both_ends : Stmt := topS 91
theorem sc_l_both_ends : FnScope ["_law_some_here", "_law_lowest", "_law_topmost", "_law_one"] ["_law_some_here"] (defScope s_l_both_ends) := ⟨rfl, rfl, rfl, by decide +kernel, rfl, by decide +kernel, by decide +kernel⟩

theorem c_of_l_wide_below_x (c_l_is_below : Cal P w K mg base "_law_is_below" 4 R_below) (T_l_wide_below : At K mg "_law_wide_below" s_l_wide_below ["_law_x", "_law_y"]) : Cal P w K mg base "_law_wide_below" 5 R_xlt :=
  cal_at T_l_wide_below sc_l_wide_below (by rintro _ _ _ _ ⟨⟩; rfl) fun f cd0 A out s0 H E0 G Γ B r B' hR => by
  obtain ⟨x, y, n, d, B, hx, hy, h1, h2, h0⟩ := hR
  refine sj_when (x := decide (x.e = 0) || decide (y.e = 0)) (tj_w (wj_or (tj_eqI G.hu (ej_at (ej_is (ej_dat (d := x.d) 0) x.pair)) ej_int) fun _ => (wj_or1 (tj_eqI G.hu (ej_at (ej_is (ej_dat (d := y.d) 1) y.pair)) ej_int)))) (fun h => ?_) (fun h => ?_)
  · refine sj_ret (ej_and (ej_is (ej_ne G.hu (ej_is (ej_dat (d := x.d) 0) x.pair) (ej_is (ej_dat (d := y.d) 1) y.pair) (shaped_ii _ _) (shaped_ii _ _)) (by rw [eqv_ii])) fun _ => (ej_one (ej_or (ej_is (ej_eq G.hu (ej_is (ej_dat (d := x.d) 0) x.pair) (ej_tupD (ad_cons (ej_neg ej_int) (ad_cons ej_int ad_nil)) (Nat.le_of_ble_eq_true rfl)) (shaped_ii _ _) (shaped_ii _ _)) (by rw [eqv_ii])) fun _ => (ej_one (ej_is (ej_eq G.hu (ej_is (ej_dat (d := y.d) 1) y.pair) (ej_tupD (ad_cons ej_int (ad_cons ej_int ad_nil)) (Nat.le_of_ble_eq_true rfl)) (shaped_ii _ _) (shaped_ii _ _)) (by rw [eqv_ii])))))) ⟨?_, rfl⟩
    rw [← Xe.wb_lt h]
  · obtain ⟨z1, z2⟩ := Bool.or_eq_false_iff.mp h
    cases x with
    | q a => cases y with
      | q b => exact sj_ret (ej_call c_l_is_below (G.le (by decide)) (aj_cons (ej_dat (d := fq a) 0) (aj_cons (ej_dat (d := fq b) 1) aj_nil)) (R_below.mk n d n d a b B hx hy (by omega) (by omega))) ⟨rfl, rfl⟩
      | lo => cases z2
      | hi => cases z2
    | lo => cases z1
    | hi => cases z1
theorem c_of_l_both_ends (c_l_wide_below_x : Cal P w K mg base "_law_wide_below" 5 R_xlt) (T : At K mg "_law_both_ends" s_l_both_ends ["_law_some_here"]) : Cal P w K mg base "_law_both_ends" 6 (R_xlm bothD) :=
  cal_at T sc_l_both_ends (by rintro _ _ _ _ ⟨⟩; rfl) fun f cd0 A out s0 H E0 G Γ B r B' hR => by
  obtain ⟨L, n, d, B, h, h0, hl, h1, h2, h3⟩ := hR
  cases L with
  | nil => exact absurd rfl h0
  | cons x L =>
    refine sj_par 1 2 G.nd G.calm (d1 := .da x.d) (d2 := .da x.d) (aj_cons (ej_atL (ej_dat (d := .list ((x :: L).map Xe.d)) 0) (atI_head rfl)) (aj_cons (ej_atL (ej_dat (d := .list ((x :: L).map Xe.d)) 0) (atI_head rfl)) aj_nil)) ?_ (by decide) (by rfl)
    refine sj_forL (ds := L.map Xe.d) 3 G.nd G.calm (fun i Γ' B' => (∃ g3, Γ' = [.da (.list ((x :: L).map Xe.d)), .da ((L.take i).foldl Xe.min x).d, .da ((L.take i).foldl Xe.max x).d, g3]) ∧ B' = B) (ej_is (ej_sliceL (ej_dat (d := .list ((x :: L).map Xe.d)) 0) (oj_some ej_int) oj_none) (congrArg PyData.list (cut1 _))) ⟨⟨.no, rfl⟩, rfl⟩ (fun i yy Γ' B' hy hP => ?_) (fun Γ' B' hP => ?_)
    · obtain ⟨⟨g3, rfl⟩, rfl⟩ := hP
      rw [List.getElem?_map] at hy
      obtain ⟨z, hz, rfl⟩ := Option.map_eq_some_iff.mp hy
      have hm := List.mem_cons_of_mem x (List.mem_of_getElem? hz)
      have k1 : ((L.take i).foldl Xe.min x).bd n d := by
        rcases Xe.fold_mem Xe.min Xe.min_mem (L.take i) x with e | e
        · rw [e]; exact h x (List.mem_cons_self ..)
        · exact h _ (List.mem_cons_of_mem x (List.mem_of_mem_take e))
      have k2 : ((L.take i).foldl Xe.max x).bd n d := by
        rcases Xe.fold_mem Xe.max Xe.max_mem (L.take i) x with e | e
        · rw [e]; exact h x (List.mem_cons_self ..)
        · exact h _ (List.mem_cons_of_mem x (List.mem_of_mem_take e))
      have s1 : (L.take (i + 1)).foldl Xe.min x = ((L.take i).foldl Xe.min x).min z := by rw [List.take_add_one, hz, List.foldl_append]; rfl
      have s2 : (L.take (i + 1)).foldl Xe.max x = ((L.take i).foldl Xe.max x).max z := by rw [List.take_add_one, hz, List.foldl_append]; rfl
      generalize (L.take i).foldl Xe.min x = lo at *
      generalize (L.take i).foldl Xe.max x = hi at *
      refine sj_set 1 G.nd (ej_ifV (x := z.lt lo) (tj_val (ej_call c_l_wide_below_x (G.le (by decide)) (aj_cons (ej_dat (d := z.d) 3) (aj_cons (ej_dat (d := lo.d) 1) aj_nil)) (R_xlt.mk z lo n d B' (h z hm) k1 h1 h2 h3))) (fun _ => (ej_dat (d := z.d) 3)) fun _ => (ej_dat (d := lo.d) 1)) ?_
      refine sj_set 2 G.nd (ej_ifV (x := hi.lt z) (tj_val (ej_call c_l_wide_below_x (G.le (by decide)) (aj_cons (ej_dat (d := hi.d) 2) (aj_cons (ej_dat (d := z.d) 3) aj_nil)) (R_xlt.mk hi z n d B' k2 (h z hm) h1 h2 h3))) (fun _ => (ej_dat (d := z.d) 3)) fun _ => (ej_dat (d := hi.d) 2)) ?_
      refine sj_nil ⟨⟨.da z.d, ?_⟩, rfl⟩
      rw [s1, s2]
      unfold Xe.min Xe.max
      cases z.lt lo <;> cases hi.lt z <;> rfl
    · obtain ⟨⟨g3, rfl⟩, rfl⟩ := hP
      rw [List.length_map, List.take_length]
      exact sj_ret (ej_tupD (ad_cons (ej_dat (d := (L.foldl Xe.min x).d) 1) (ad_cons (ej_dat (d := (L.foldl Xe.max x).d) 2) ad_nil)) (Nat.le_of_ble_eq_true rfl)) ⟨rfl, rfl⟩

abbrev s_l_least_span : Stmt := topS 92
theorem sc_l_least_span : FnScope ["_law_form", "_law_ends", "_law_low", "_law_high"] ["_law_form", "_law_ends"] (defScope s_l_least_span) := ⟨rfl, rfl, rfl, by decide +kernel, rfl, by decide +kernel, by decide +kernel⟩

theorem c_of_l_placed_v (T_l_placed : At K mg "_law_placed" s_l_placed ["_law_value"]) : Cal P w K mg base "_law_placed" 4 R_placedV :=
  cal_at T_l_placed sc_l_placed (by rintro _ _ _ _ ⟨⟩; rfl) fun f cd0 A out s0 H E0 G Γ B r B' hR => by
  obtain ⟨v, B, nv⟩ := hR
  cases v with
  | nan => cases nv
  | inf s =>
    exact sj_ret (ej_ifF (tj_w (wj_and (x := false) (y := false) (tj_is (tj_eqS (ej_at (ej_dat (d := .tuple (Va.l (.inf s))) 0)) ej_str) rfl) fun z => Bool.noConfusion z)) (ej_dat (d := (Va.inf s).d) 0)) ⟨rfl, rfl⟩
  | num s c e =>
    show SJ _ _ _ _ { nx := _, rt := fun d B2 => d = (Va.num (if c = 0 then 0 else s) c e).d ∧ B2 = B }
    by_cases h : c = 0
    · rw [if_pos h]
      exact sj_ret (ej_ifT (tj_w (wj_andT (tj_is (tj_eqS (ej_at (ej_dat (d := .tuple (Va.l (.num s c e))) 0)) ej_str) rfl) (wj_and1 (tj_is (tj_eqI G.hu (ej_at (ej_dat (d := .tuple (Va.l (.num s c e))) 0)) ej_int) (decide_eq_true h))))) (ej_is (ej_catT (ds := [.str "num", .int 0]) (es' := [.int c, .int e]) (ej_tupD (ad_cons ej_str (ad_cons ej_int ad_nil)) (Nat.le_of_ble_eq_true rfl)) (ej_is (ej_sliceT (ds := Va.l (.num s c e)) (ej_dat (d := .tuple (Va.l (.num s c e))) 0) (oj_some ej_int) oj_none) rfl) (Nat.le_of_ble_eq_true rfl)) rfl)) ⟨rfl, rfl⟩
    · rw [if_neg h]
      exact sj_ret (ej_ifF (tj_w (wj_andT (tj_is (tj_eqS (ej_at (ej_dat (d := .tuple (Va.l (.num s c e))) 0)) ej_str) rfl) (wj_and1 (tj_is (tj_eqI G.hu (ej_at (ej_dat (d := .tuple (Va.l (.num s c e))) 0)) ej_int) (decide_eq_false h))))) (ej_dat (d := (Va.num s c e).d) 0)) ⟨rfl, rfl⟩
theorem c_of_l_least_span (c_l_rounded : Cal P w K mg base "_law_rounded" 8 R_rounded) (c_l_placed_v : Cal P w K mg base "_law_placed" 4 R_placedV) (T : At K mg "_law_least_span" s_l_least_span ["_law_form", "_law_ends"]) : Cal P w K mg base "_law_least_span" 9 R_lspan :=
  cal_at T sc_l_least_span (by rintro _ _ _ _ (_ | _ | _) <;> rfl) fun f cd0 A out s0 H E0 G Γ B r B' hR => by
  have core : ∀ {bb p : Nat} {low high : Int} (F : Fm bb p low high) {n1 d1 n2 d2 : Int} {u v : Va} {r : PyData}, 
      (d1 = 0 ∧ u = .inf 1 ∨ d1 ≠ 0 ∧ ∃ (x : Rat) (n d : Nat), Qz n d x ∧ n ≤ 8900 ∧ d ≤ 6500 ∧ PyData.tuple [.int n1, .int d1] = fq x ∧ u = rdV bb p low high "down" x 0 ∧ u.isNan = false) →
      (d2 = 0 ∧ v = .inf 0 ∨ d2 ≠ 0 ∧ ∃ (x : Rat) (n d : Nat), Qz n d x ∧ n ≤ 8900 ∧ d ≤ 6500 ∧ PyData.tuple [.int n2, .int d2] = fq x ∧ v = rdV bb p low high "up" x 0 ∧ v.isNan = false) →
      r = (Sp.span (plcV u) (plcV v)).d →
      SJ (cxOf CX0 P w K mg base ["_law_form", "_law_ends", "_law_low", "_law_high"] "_law_least_span" (defScope s_l_least_span) f cd0 A out s0 H E0).nox [.da (fmP bb p low high), .da (.tuple [.tuple [.int n1, .int d1], .tuple [.int n2, .int d2]]), .no, .no] B (defBody s_l_least_span) { nx := fun _ B2 => r = .none ∧ B2 = B, rt := fun d B2 => d = r ∧ B2 = B } := by
    intro bb p low high F n1 d1 n2 d2 u v r h1 h2 hr
    refine sj_when (x := false) (tj_isN (ej_dat (d := .tuple [.tuple [.int n1, .int d1], .tuple [.int n2, .int d2]]) 1)) (fun h => Bool.noConfusion h) (fun _ => ?_)
    have nu : u.isNan = false := by rcases h1 with ⟨_, e⟩ | ⟨_, _, _, _, _, _, _, _, _, e⟩ <;> first | exact e | (rw [e]; rfl)
    have nv : v.isNan = false := by rcases h2 with ⟨_, e⟩ | ⟨_, _, _, _, _, _, _, _, _, e⟩ <;> first | exact e | (rw [e]; rfl)
    refine sj_set 2 G.nd (B1 := B) (d := .da u.d) (ej_if (B1 := B) (B2 := B) (tj_eqI G.hu (ej_at (ej_at (y := .tuple [.int n1, .int d1]) (ej_dat (d := .tuple [.tuple [.int n1, .int d1], .tuple [.int n2, .int d2]]) 1))) ej_int) (fun h => ?_) (fun h => ?_)) ?_
    · rcases h1 with ⟨_, e⟩ | ⟨e, _⟩
      · rw [e]; exact (ej_tupD (ad_cons ej_str (ad_cons ej_int ad_nil)) (Nat.le_of_ble_eq_true rfl))
      · exact absurd (of_decide_eq_true h) e
    · rcases h1 with ⟨e, _⟩ | ⟨_, x, n, d, hx, hn, hd, ef, eu, _⟩
      · exact absurd e (of_decide_eq_false h)
      · have r1 := R_rounded.mk bb p low high "down" x 0 n d B F (by decide) (.inl rfl) hx hn hd
        rw [rdP_eq, ← eu] at r1
        exact (ej_at (ds := [u.d, words (rdF bb p low high "down" x 0)]) (ej_call c_l_rounded (G.le (by decide)) (aj_cons (ej_dat 0) (aj_cons ej_str (aj_cons (ej_is (ej_at (y := .tuple [.int n1, .int d1]) (ej_dat (d := .tuple [.tuple [.int n1, .int d1], .tuple [.int n2, .int d2]]) 1)) ef) (aj_cons ej_int aj_nil)))) (r1)))
    refine sj_set 3 G.nd (B1 := B) (d := .da v.d) (ej_if (B1 := B) (B2 := B) (tj_eqI G.hu (ej_at (ej_at (y := .tuple [.int n2, .int d2]) (ej_dat (d := .tuple [.tuple [.int n1, .int d1], .tuple [.int n2, .int d2]]) 1))) ej_int) (fun h => ?_) (fun h => ?_)) ?_
    · rcases h2 with ⟨_, e⟩ | ⟨e, _⟩
      · rw [e]; exact (ej_tupD (ad_cons ej_str (ad_cons ej_int ad_nil)) (Nat.le_of_ble_eq_true rfl))
      · exact absurd (of_decide_eq_true h) e
    · rcases h2 with ⟨e, _⟩ | ⟨_, x, n, d, hx, hn, hd, ef, eu, _⟩
      · exact absurd e (of_decide_eq_false h)
      · have r1 := R_rounded.mk bb p low high "up" x 0 n d B F (by decide) (.inl rfl) hx hn hd
        rw [rdP_eq, ← eu] at r1
        exact (ej_at (ds := [v.d, words (rdF bb p low high "up" x 0)]) (ej_call c_l_rounded (G.le (by decide)) (aj_cons (ej_dat 0) (aj_cons ej_str (aj_cons (ej_is (ej_at (y := .tuple [.int n2, .int d2]) (ej_dat (d := .tuple [.tuple [.int n1, .int d1], .tuple [.int n2, .int d2]]) 1)) ef) (aj_cons ej_int aj_nil)))) (r1)))
    exact sj_ret (ej_tupD (ad_cons ej_str (ad_cons (ej_call c_l_placed_v (G.le (by decide)) (aj_cons (ej_dat (d := u.d) 2) aj_nil) (R_placedV.mk u B nu)) (ad_cons (ej_call c_l_placed_v (G.le (by decide)) (aj_cons (ej_dat (d := v.d) 3) aj_nil) (R_placedV.mk v B nv)) ad_nil))) (Nat.le_of_ble_eq_true rfl)) ⟨hr.symm, rfl⟩
  cases hR with
  | none b p low high B F =>
    exact sj_when (x := true) (tj_isN (ej_dat (d := .none) 1)) (fun _ => sj_ret (ej_tupD (ad_cons ej_str ad_nil) (Nat.le_of_ble_eq_true rfl)) ⟨rfl, rfl⟩) (fun h => Bool.noConfusion h)
  | fr b p low high x y n d B F hx hy hn hd =>
    refine core (u := rdV b p low high "down" x 0) (v := rdV b p low high "up" y 0) F (n1 := x.num) (d1 := (x.den : Int)) (n2 := y.num) (d2 := (y.den : Int)) (.inr ⟨den_ne x, x, n, d, hx, hn, hd, rfl, rfl, (rdV_can F (.inl rfl)).2⟩) (.inr ⟨den_ne y, y, n, d, hy, hn, hd, rfl, rfl, (rdV_can F (.inl rfl)).2⟩) ?_
    have e1 := plc_lo F x
    have e2 := plc_up F y
    unfold loV at e1
    rw [e1, e2]; rfl
  | ends b p low high b' p' low' high' u v B F F' hs =>
    rw [xe_pair b u, xe_pair b v]
    have cu := hs.1.1.1
    have cv := hs.1.2.1
    refine core (u := if u.isNum = true then rdV b' p' low' high' "down" (u.wQ b) 0 else u) (v := if v.isNum = true then rdV b' p' low' high' "up" (v.wQ b) 0 else v) F' (n1 := xn b u) (d1 := xd b u) (n2 := xn b v) (d2 := xd b v) ?_ ?_ ?_
    · cases u with
      | nan => exact absurd hs.1.1.2 (fun z => by cases z)
      | inf s =>
        left
        have : s = 1 := by rcases cu with rfl | rfl <;> first | exact absurd rfl hs.2.2.2.1 | rfl
        subst this
        exact ⟨rfl, rfl⟩
      | num s c e => exact .inr ⟨den_ne _, _, 3040, 2341, F.wz cu.ok, by decide, by decide, rfl, rfl, (rdV_can F' (.inl rfl)).2⟩
    · cases v with
      | nan => exact absurd hs.1.2.2 (fun z => by cases z)
      | inf s =>
        left
        have : s = 0 := by rcases cv with rfl | rfl <;> first | rfl | exact absurd rfl hs.2.2.2.2.1
        subst this
        exact ⟨rfl, rfl⟩
      | num s c e => exact .inr ⟨den_ne _, _, 3040, 2341, F.wz cv.ok, by decide, by decide, rfl, rfl, (rdV_can F' (.inl rfl)).2⟩
    · show (Sp.span (if u.isNum = true then loV b' p' low' high' (u.wQ b) else u) (if v.isNum = true then upV b' p' low' high' (v.wQ b) else v)).d = _
      have e1 : (if u.isNum = true then loV b' p' low' high' (u.wQ b) else u) = plcV (if u.isNum = true then rdV b' p' low' high' "down" (u.wQ b) 0 else u) := by
        cases u with
        | num s c e => exact (plc_lo F' _).symm
        | _ => rfl
      have e2 : (if v.isNum = true then upV b' p' low' high' (v.wQ b) else v) = plcV (if v.isNum = true then rdV b' p' low' high' "up" (v.wQ b) 0 else v) := by
        cases v with
        | num s c e => exact (plc_up F' _).symm
        | _ => rfl
      rw [e1, e2]

abbrev s_l_rank : Stmt := topS 93
theorem sc_l_rank : FnScope ["_law_form", "_law_value", "_law_base", "_law_digits", "_law_low", "_law_high", "_law_rank_here"] ["_law_form", "_law_value"] (defScope s_l_rank) := ⟨rfl, rfl, rfl, by decide +kernel, rfl, by decide +kernel, by decide +kernel⟩

theorem c_of_l_rank (c_l_to : Cal P w K mg base "_law_to" 4 R_pow) (T : At K mg "_law_rank" s_l_rank ["_law_form", "_law_value"]) : Cal P w K mg base "_law_rank" 5 (R_formv noNan rkD) :=
  cal_at T sc_l_rank (by rintro _ _ _ _ ⟨⟩; rfl) fun f cd0 A out s H E0 G Γ B r B' hR => by
  obtain ⟨b, p, low, high, v, B, F, hv, hk⟩ := hR
  have R := F.rkf
  have lo := F.lo; have hi := F.hi; have p7 := F.p7; have p2 := F.p2; have b6 := F.b6; have b2 := F.b2; have bp := F.bp; have lh := F.lh
  have e1 : (p : Int) - 1 = ((p - 1 : Nat) : Int) := by omega
  have hlb : Bd 700 ((b ^ (p - 1) : Nat) : Int) := Bd.nat (Nat.lt_of_le_of_lt (Nat.pow_le_pow_right (by omega) (by omega)) bp)
  have hb1 : Bd 7 ((b : Int) - 1) := by unfold Bd; omega
  have em : ∀ d : Int, d * ((b : Int) - 1) * ((b ^ (p - 1) : Nat) : Int) = d * fmI b p := fun d => by unfold fmI; rw [Int.mul_assoc]
  refine sj_unpack [2, 3, 4, 5] G.calm (ej_dat (d := .tuple [.int b, .int p, .int low, .int high]) 0) (pgs_cons (pgN 2 G.nd) (pgs_cons (pgN 3 G.nd) (pgs_cons (pgN 4 G.nd) (pgs_cons (pgN 5 G.nd) pgs_nil)))) rfl ?_
  cases v with
  | num s c e =>
    obtain ⟨_, _, _, h5, h6⟩ := hv
    have hd : Bd 12 (e - low) := by unfold Bd; omega
    refine sj_ifF (tj_is (tj_eqS (ej_at (ej_dat (d := .tuple [.str "num", .int s, .int c, .int e]) 1)) ej_str) (by decide)) ?_
    refine sj_set 6 (d := .da (.int (rkS b p low high (.num s c e)))) G.nd (ej_is (ej_add (ej_at (ej_dat (d := .tuple [.str "num", .int s, .int c, .int e]) 1)) (ej_mul (ej_mul (ej_sub (ej_at (ej_dat (d := .tuple [.str "num", .int s, .int c, .int e]) 1)) (ej_dat 4)) (ej_sub (ej_dat 2) ej_int) (cmz hd hb1)) (ej_call c_l_to (G.le (by decide)) (aj_cons (ej_dat 2) (aj_cons (ej_is (ej_sub (ej_dat 3) ej_int) (congrArg PyData.int e1)) aj_nil)) (R_pow.mk b (p - 1) B F.b6 (by omega))) (cmz (hd.mul hb1) hlb))) (by rw [em]; rfl)) (sj_nil ?_)
    refine sj_ret (ej_if (d := .da (rkD b p low high (.num s c e))) (tj_eqI G.hu (ej_at (ej_dat (d := .tuple [.str "num", .int s, .int c, .int e]) 1)) ej_int) (fun h => ?_) (fun h => ?_)) ⟨rfl, rfl⟩
    · unfold rkD rkI
      rw [if_pos (show (Va.num s c e).sg = 1 from of_decide_eq_true h)]; exact ej_neg (ej_dat 6)
    · unfold rkD rkI
      rw [if_neg (show ¬ (Va.num s c e).sg = 1 from of_decide_eq_false h)]; exact (ej_dat 6)
  | nan => cases hk
  | inf s =>
    have hd : Bd 12 (high - low) := by unfold Bd; omega
    refine sj_ifT (tj_is (tj_eqS (ej_at (ej_dat (d := .tuple [.str "inf", .int s]) 1)) ej_str) (by decide)) ?_
    refine sj_set 6 (d := .da (.int (mostI b p low high))) G.nd (ej_is (ej_add (ej_add (ej_sub (ej_call c_l_to (G.le (by decide)) (aj_cons (ej_dat 2) (aj_cons (ej_dat 3) aj_nil)) (R_pow.mk b p B F.b6 (by omega))) ej_int) (ej_mul (ej_mul (ej_sub (ej_dat 5) (ej_dat 4)) (ej_sub (ej_dat 2) ej_int) (cmz hd hb1)) (ej_call c_l_to (G.le (by decide)) (aj_cons (ej_dat 2) (aj_cons (ej_is (ej_sub (ej_dat 3) ej_int) (congrArg PyData.int e1)) aj_nil)) (R_pow.mk b (p - 1) B F.b6 (by omega))) (cmz (hd.mul hb1) hlb))) ej_int) (congrArg PyData.int (by rw [em]; show _ = ((b ^ p : Nat) : Int) + (high - low) * fmI b p; generalize (high - low) * fmI b p = X; omega))) (sj_nil ?_)
    refine sj_ret (ej_if (d := .da (rkD b p low high (.inf s))) (tj_eqI G.hu (ej_at (ej_dat (d := .tuple [.str "inf", .int s]) 1)) ej_int) (fun h => ?_) (fun h => ?_)) ⟨rfl, rfl⟩
    · unfold rkD rkI
      rw [if_pos (show (Va.inf s).sg = 1 from of_decide_eq_true h)]; exact ej_neg (ej_dat 6)
    · unfold rkD rkI
      rw [if_neg (show ¬ (Va.inf s).sg = 1 from of_decide_eq_false h)]; exact (ej_dat 6)

abbrev s_l_ranked : Stmt := topS 94
theorem sc_l_ranked : FnScope ["_law_form", "_law_rank_here", "_law_base", "_law_digits", "_law_low", "_law_high", "_law_s", "_law_size", "_law_left", "_law_lead", "_law_many"] ["_law_form", "_law_rank_here"] (defScope s_l_ranked) := ⟨rfl, rfl, rfl, by decide +kernel, rfl, by decide +kernel, by decide +kernel⟩

theorem c_of_l_ranked (m_int : mg "int" = none) (m_abs : mg "abs" = none) (c_l_rank : Cal P w K mg base "_law_rank" 5 (R_formv noNan rkD)) (c_l_to : Cal P w K mg base "_law_to" 4 R_pow) (T : At K mg "_law_ranked" s_l_ranked ["_law_form", "_law_rank_here"]) : Cal P w K mg base "_law_ranked" 6 R_lranked :=
  cal_at T sc_l_ranked (by rintro _ _ _ _ ⟨⟩; rfl) fun f cd0 A out s0 H E0 G Γ B r B' hR => by
  obtain ⟨b, p, low, high, r, B, F, h0, h1⟩ := hR
  have R := F.rkf
  have p7 := F.p7; have p2 := F.p2
  have e1 : (p : Int) - 1 = ((p - 1 : Nat) : Int) := by omega
  have ha : 0 ≤ absI r ∧ absI r ≤ mostI b p low high := by unfold absI; split <;> omega
  have hat := ranked_at F ha.1 ha.2
  have mb : Bd 720 (mostI b p low high) := rk_bd F (v := .inf 0) (.inl rfl)
  have rb : Bd 720 (absI r) := by unfold Bd at mb ⊢; omega
  have pb : Bd 720 ((b ^ p : Nat) : Int) := Bd.nat (Nat.lt_of_lt_of_le F.bp (Nat.pow_le_pow_right (by decide) (by decide)))
  have lb : Bd 720 ((b ^ (p - 1) : Nat) : Int) := Bd.nat (Nat.lt_of_le_of_lt (Nat.pow_le_pow_right (by have := F.b2; omega) (by omega)) (Nat.lt_of_lt_of_le F.bp (Nat.pow_le_pow_right (by decide) (by decide))))
  have hatV : optD (atV b p low high r) = optD ((atU b p low high (absI r)).map fun v => if r < 0 then v.opp else v) := rfl
  rw [hatV, hat]
  refine sj_unpack [2, 3, 4, 5] G.calm (ej_dat (d := .tuple [.int b, .int p, .int low, .int high]) 0) (pgs_cons (pgN 2 G.nd) (pgs_cons (pgN 3 G.nd) (pgs_cons (pgN 4 G.nd) (pgs_cons (pgN 5 G.nd) pgs_nil)))) rfl ?_
  refine sj_par 6 7 G.nd G.calm (aj_cons (ej_is (y := .int (if r < 0 then 1 else 0)) (ej_intB m_int (ej_lt (ej_dat 1) ej_int)) (by by_cases c : r < 0 <;> simp [c])) (aj_cons (ej_is (y := .int (absI r)) (ej_abs m_abs (ej_dat 1)) rfl) aj_nil)) ?_ (by decide) (by rfl)
  have hop : ∀ c e : Int, (if r < 0 then (Va.num 0 c e).opp else .num 0 c e) = Va.num (if r < 0 then 1 else 0) c e := by intro c e; by_cases z : r < 0 <;> simp [z, Va.opp]
  have hoi : (if r < 0 then (Va.inf 0).opp else .inf 0) = Va.inf (if r < 0 then 1 else 0) := by by_cases z : r < 0 <;> simp [z, Va.opp]
  generalize (if r < 0 then 1 else 0 : Int) = σ at *
  generalize hA : absI r = m at *
  refine sj_when (x := decide (m = mostI b p low high)) (tj_eqI G.hu (ej_dat 7) (ej_is (y := .int (mostI b p low high)) (ej_call c_l_rank (G.le (by decide)) (aj_cons (ej_dat (d := fmP b p low high) 0) (aj_cons (ej_tupD (ad_cons ej_str (ad_cons ej_int ad_nil)) (Nat.le_of_ble_eq_true rfl)) aj_nil)) (R_formv.mk b p low high (.inf 0) B F (.inl rfl) rfl)) rfl)) (fun hh => ?_) (fun hh => ?_)
  · rw [if_pos (of_decide_eq_true hh), Option.map_some, hoi]
    exact sj_ret (ej_tupD (ad_cons ej_str (ad_cons (ej_dat 6) ad_nil)) (Nat.le_of_ble_eq_true rfl)) ⟨rfl, rfl⟩
  rw [if_neg (of_decide_eq_false hh)]
  refine sj_when (x := decide (m < ((b ^ p : Nat) : Int))) (tj_lt (ej_dat 7) (ej_call c_l_to (G.le (by decide)) (aj_cons (ej_dat 2) (aj_cons (ej_dat 3) aj_nil)) (R_pow.mk b p B F.b6 (by omega)))) (fun hh => ?_) (fun hh => ?_)
  · rw [if_pos (of_decide_eq_true hh), Option.map_some, hop]
    exact sj_ret (ej_tupD (ad_cons ej_str (ad_cons (ej_dat 6) (ad_cons (ej_dat 7) (ad_cons (ej_dat 4) ad_nil)))) (Nat.le_of_ble_eq_true rfl)) ⟨rfl, rfl⟩
  rw [if_neg (of_decide_eq_false hh), Option.map_some, hop]
  have f1 := R.f1
  have hf : ((b : Int) - 1) * ((b ^ (p - 1) : Nat) : Int) = fmI b p := rfl
  have fb := R.fb
  refine sj_par 8 9 G.nd G.calm (aj_cons (ej_sub (ej_dat 7) (ej_call c_l_to (G.le (by decide)) (aj_cons (ej_dat 2) (aj_cons (ej_dat 3) aj_nil)) (R_pow.mk b p B F.b6 (by omega)))) (aj_cons (ej_call c_l_to (G.le (by decide)) (aj_cons (ej_dat 2) (aj_cons (ej_is (ej_sub (ej_dat 3) ej_int) (congrArg PyData.int e1)) aj_nil)) (R_pow.mk b (p - 1) B F.b6 (by omega))) aj_nil)) ?_ (by decide) (by rfl)
  have lfb : Bd 1441 (m - ((b ^ p : Nat) : Int)) := (rb.sub pb).le (by decide)
  have bb : Bd 10 ((b : Int) - 1) := by have := F.b6; have := F.b2; unfold Bd; omega
  refine sj_set 10 G.nd (ej_is (y := .int (fmI b p)) (ej_mul (ej_sub (ej_dat 2) ej_int) (ej_dat 9) (cmz bb lb)) rfl) ?_
  generalize fmI b p = fm at *
  generalize ((b ^ (p - 1) : Nat) : Int) = l at *
  generalize m - ((b ^ p : Nat) : Int) = left at *
  have db : Bd 1441 (left / fm) := lfb.div
  exact sj_ret (ej_tupD (ad_cons ej_str (ad_cons (ej_dat 6) (ad_cons (ej_sub (ej_add (ej_dat 9) (ej_dat 8)) (ej_mul (ej_fdiv (ej_dat 8) (ej_dat 10) (cdv fb (by omega))) (ej_dat 10) (cmz db fb))) (ad_cons (ej_add (ej_add (ej_dat 4) ej_int) (ej_fdiv (ej_dat 8) (ej_dat 10) (cdv fb (by omega)))) ad_nil)))) (Nat.le_of_ble_eq_true rfl)) ⟨rfl, rfl⟩

abbrev s_l_few : Stmt := topS 95
theorem sc_l_few : FnScope ["_law_bag_here", "_law_form", "_law_rank_here", "_law_more"] ["_law_bag_here", "_law_form"] (defScope s_l_few) := ⟨rfl, rfl, rfl, by decide +kernel, rfl, by decide +kernel, by decide +kernel⟩

theorem c_of_l_few (m_min : mg "min" = none) (c_l_rank : Cal P w K mg base "_law_rank" 5 (R_formv noNan rkD)) (c_l_take : Cal P w K mg base "_law_take" 4 R_take) (c_l_ranked : Cal P w K mg base "_law_ranked" 6 R_lranked) (T : At K mg "_law_few" s_l_few ["_law_bag_here", "_law_form"]) : CalX P w K mg base "_law_few" 9 Pre_f Post_few :=
  calx_at T sc_l_few (by rintro _ _ ⟨t, rfl, _⟩; rfl) fun f cd0 A out s0 H E0 G Γ B hPre => by
  obtain ⟨t, rfl, Ft, hc⟩ := hPre
  have Ft : Fm t.1 t.2.1 t.2.2.1 t.2.2.2 := Ft
  have m3 := most_pos Ft
  have mb : Bd 720 (mostI t.1 t.2.1 t.2.2.1 t.2.2.2) := rk_bd Ft (v := .inf 0) (.inl rfl)
  have rr : ∀ B, R_formv noNan rkD [.da (fmP t.1 t.2.1 t.2.2.1 t.2.2.2), .da (Va.inf 0).d] B (.int (mostI t.1 t.2.1 t.2.2.1 t.2.2.2)) B := fun B => R_formv.mk t.1 t.2.1 t.2.2.1 t.2.2.2 (.inf 0) B Ft (.inl rfl) rfl
  have e0 : ∀ r : Int, -mostI t.1 t.2.1 t.2.2.1 t.2.2.2 ≤ r → r ≤ mostI t.1 t.2.1 t.2.2.1 t.2.2.2 → ∃ v, atV t.1 t.2.1 t.2.2.1 t.2.2.2 r = some v ∧ Vcan t.1 t.2.1 t.2.2.1 t.2.2.2 v ∧ v.isNan = false := fun r h1 h2 => atV_ok Ft h1 h2
  have post : ∀ (u v : Va) (r1 r2 : Int) (B' : Bag), Bok B' → atV t.1 t.2.1 t.2.2.1 t.2.2.2 r1 = some u → atV t.1 t.2.1 t.2.2.1 t.2.2.2 r2 = some v → -mostI t.1 t.2.1 t.2.2.1 t.2.2.2 < r1 → r1 ≤ r2 → r2 < mostI t.1 t.2.1 t.2.2.1 t.2.2.2 → r2 ≤ r1 + 6 → Post_few [.bag, .da t.d] B (Sp.span u v).d B' := fun u v r1 r2 B' h1 h2 h3 h4 h5 h6 h7 => ⟨h1, t, u, v, r1, r2, rfl, rfl, h2, h3, h4, h5, h6, h7⟩
  have lr : ∀ (r : Int) (B : Bag), -mostI t.1 t.2.1 t.2.2.1 t.2.2.2 ≤ r → r ≤ mostI t.1 t.2.1 t.2.2.1 t.2.2.2 → R_lranked [.da (fmP t.1 t.2.1 t.2.2.1 t.2.2.2), .da (.int r)] B (optD (atV t.1 t.2.1 t.2.2.1 t.2.2.2 r)) B := fun r B h1 h2 => R_lranked.mk t.1 t.2.1 t.2.2.1 t.2.2.2 r B Ft h1 h2
  generalize mostI t.1 t.2.1 t.2.2.1 t.2.2.2 = M at *
  have two : Bd 2 (2 : Int) := by unfold Bd; decide
  have b7 : Bd 8000 (7 : Int) := by unfold Bd; decide +kernel
  have mb2 : Bd 8000 (2 * M - 1) := by
    unfold Bd at mb ⊢
    have e : (2 : Nat) ^ 8000 = 2 ^ 722 * 2 ^ 7278 := by rw [← Nat.pow_add]
    have e2 : (2 : Nat) ^ 722 = 2 ^ 720 * 4 := by rw [Nat.pow_succ, Nat.pow_succ]
    have e3 : 2 ^ 722 ≤ 2 ^ 722 * 2 ^ 7278 := Nat.le_mul_of_pos_right _ (Nat.pow_pos (by decide))
    rw [e]
    generalize (2 : Nat) ^ 722 * 2 ^ 7278 = Z at *
    generalize (2 : Nat) ^ 720 = Y at *
    omega
  have g1 := tkV_ge B (m := 2 * M - 1) (by omega)
  have g2 := tkV_lt B (m := 2 * M - 1) (by omega)
  have ok1 := tkB_ok hc (2 * M - 1)
  have hI : ∀ {B : Bag}, R_formv noNan rkD [.da (fmP t.1 t.2.1 t.2.2.1 t.2.2.2), .da (.tuple [.str "inf", .int 0])] B (.int M) B := fun {B} => rr B
  refine sj_set 2 G.nd (d := .da (.int (tkV B (2 * M - 1) + 1 - M))) (ej_sub (ej_add (ej_call c_l_take (G.le (by decide)) (aj_cons (ej_bag 0) (aj_cons (ej_sub (ej_mul ej_int (ej_call c_l_rank (G.le (by decide)) (aj_cons (ej_dat (d := t.d) 1) (aj_cons (ej_tupD (ad_cons ej_str (ad_cons ej_int ad_nil)) (Nat.le_of_ble_eq_true rfl)) aj_nil)) (hI)) (cmz two mb)) ej_int) aj_nil)) (R_take.mk B (2 * M - 1) (by omega) mb2 hc)) ej_int) (ej_call c_l_rank (G.le (by decide)) (aj_cons (ej_dat (d := t.d) 1) (aj_cons (ej_tupD (ad_cons ej_str (ad_cons ej_int ad_nil)) (Nat.le_of_ble_eq_true rfl)) aj_nil)) (hI))) ?_
  generalize hr1 : tkV B (2 * M - 1) + 1 - M = r1 at *
  generalize tkB B (2 * M - 1) = B1 at *
  have g3 := tkV_ge B1 (m := 7) (by decide)
  have g4 := tkV_lt B1 (m := 7) (by decide)
  have ok2 := tkB_ok ok1 7
  refine sj_set 3 G.nd (d := .da (.int (min (M - 1) (r1 + tkV B1 7)))) (ej_min G.calm m_min (ej_sub (ej_call c_l_rank (G.le (by decide)) (aj_cons (ej_dat (d := t.d) 1) (aj_cons (ej_tupD (ad_cons ej_str (ad_cons ej_int ad_nil)) (Nat.le_of_ble_eq_true rfl)) aj_nil)) (hI)) ej_int) (ej_add (ej_dat (d := .int r1) 2) (ej_call c_l_take (G.le (by decide)) (aj_cons (ej_bag 0) (aj_cons ej_int aj_nil)) (R_take.mk B1 7 (by decide) b7 ok1)))) ?_
  have hb : r1 ≤ min (M - 1) (r1 + tkV B1 7) ∧ min (M - 1) (r1 + tkV B1 7) ≤ M - 1 ∧ min (M - 1) (r1 + tkV B1 7) ≤ r1 + 6 := by omega
  generalize min (M - 1) (r1 + tkV B1 7) = r2 at *
  generalize tkB B1 7 = B2 at *
  obtain ⟨u, eu, hu, nu⟩ := e0 r1 (by omega) (by omega)
  obtain ⟨v, ev, hv, nv⟩ := e0 r2 (by omega) (by omega)
  have q1 := lr r1 B2 (by omega) (by omega)
  have q2 := lr r2 B2 (by omega) (by omega)
  rw [eu] at q1
  rw [ev] at q2
  exact sj_ret (ej_tupD (ad_cons ej_str (ad_cons (ej_call c_l_ranked (G.le (by decide)) (aj_cons (ej_dat (d := t.d) 1) (aj_cons (ej_dat (d := .int r1) 2) aj_nil)) (q1)) (ad_cons (ej_call c_l_ranked (G.le (by decide)) (aj_cons (ej_dat (d := t.d) 1) (aj_cons (ej_dat (d := .int r2) 3) aj_nil)) (q2)) ad_nil))) (Nat.le_of_ble_eq_true rfl)) (post u v r1 r2 B2 ok2 eu ev (by omega) (by omega) (by omega) (by omega))

abbrev s_l_all_in : Stmt := topS 96
theorem sc_l_all_in : FnScope ["_law_form", "_law_span", "_law_first", "_law_last", "_law_rank_here"] ["_law_form", "_law_span"] (defScope s_l_all_in) := ⟨rfl, rfl, rfl, by decide +kernel, rfl, by decide +kernel, by decide +kernel⟩

theorem c_of_l_all_in /-H-/ (m_range : mg "range" = none) (c_l_rank : Cal P w K mg base "_law_rank" 5 (R_formv noNan rkD)) (c_l_worth : Cal P w K mg base "_law_worth" 7 R_worth) (c_l_ranked : Cal P w K mg base "_law_ranked" 6 R_lranked) /-E-/ (T : At K mg "_law_all_in" s_l_all_in ["_law_form", "_law_span"]) : Cal P w K mg base "_law_all_in" 8 R_allin :=
  cal_at T sc_l_all_in (by rintro _ _ _ _ ⟨⟩; rfl) fun f cd0 A out s0 H E0 G Γ B r B' hR => by
  obtain ⟨b, p, low, high, r1, r2, u, v, B, F, hm, eu, ev, h0, h1, h2, h3⟩ := hR
  obtain ⟨s1, c1, e1, eu', hu, ku⟩ := num_at F h0 (by omega)
  obtain ⟨s2, c2, e2, ev', hv, kv⟩ := num_at F (r := r2) (by omega) h2
  rw [eu] at eu'
  rw [ev] at ev'
  cases eu'
  cases ev'
  have q1 := R_formv.mk (ok := noNan) (f := rkD) b p low high (.num s1 c1 e1) B F hu.ok rfl
  have q2 := R_formv.mk (ok := noNan) (f := rkD) b p low high (.num s2 c2 e2) B F hv.ok rfl
  unfold rkD at q1 q2
  rw [ku] at q1
  rw [kv] at q2
  refine sj_par 2 3 G.nd G.calm (aj_cons (ej_call c_l_rank (G.le (by decide)) (aj_cons (ej_dat (d := fmP b p low high) 0) (aj_cons (ej_at (y := (Va.num s1 c1 e1).d) (ej_dat (d := .tuple [.str "span", (Va.num s1 c1 e1).d, (Va.num s2 c2 e2).d]) 1)) aj_nil)) (q1)) (aj_cons (ej_call c_l_rank (G.le (by decide)) (aj_cons (ej_dat (d := fmP b p low high) 0) (aj_cons (ej_at (y := (Va.num s2 c2 e2).d) (ej_dat (d := .tuple [.str "span", (Va.num s1 c1 e1).d, (Va.num s2 c2 e2).d]) 1)) aj_nil)) (q2)) aj_nil)) ?_ (by decide) (by rfl)
  have b1 : (r2 + 1 - r1).toNat ≤ 7 := by omega
  have lo : Bd 60 r1 := by unfold Bd; omega
  have hi : Bd 60 (r2 + 1) := by unfold Bd; omega
  refine sj_ret (ej_lcR2 (j := 4) (x := "_law_rank_here") G.nd G.calm m_range (blkOk_by (N := ["_law_form", "_law_span", "_law_first", "_law_last", "_law_rank_here"]) (sc := defScope s_l_all_in) (by decide +kernel)) (fun _ _ _ _ _ => pg_name (i := 4) G.nd rfl (Or.inl rfl))
    (rj_of_frj (frj_R2 (lo := r1) (hi' := r2 + 1) (n := (r2 + 1 - r1).toNat) (fun _ => B) (aj_cons (ej_dat 2) (aj_cons (ej_add (ej_dat 3) ej_int) aj_nil)) (by omega) rfl lo hi (by rw [List.length_map]; unfold allQ; rw [List.length_map, List.length_range]) ?_))) ⟨rfl, rfl⟩
  intro i z hi' hz s1 H1 C1 cl1 fp1
  unfold allQ at hz
  rw [List.getElem?_map, List.getElem?_map, List.getElem?_range hi'] at hz
  cases hz
  obtain ⟨s, c, e, hat, hc, hk⟩ := num_at F (r := r1 + (i : Nat)) (by omega) (by omega)
  have rr := R_lranked.mk b p low high (r1 + (i : Nat)) B F (by omega) (by omega)
  rw [hat] at rr
  have ew : valR b p low high (r1 + (i : Nat)) = (Va.num s c e).wQ b := by unfold valR; rw [hat]
  exact ej_is (ej_call c_l_worth ⟨G.gd, G.rm.mono (by decide), G.nd, G.calm⟩ (aj_cons (ej_dat (d := fmP b p low high) 0) (aj_cons (ej_call c_l_ranked ⟨G.gd, G.rm.mono (by decide), G.nd, G.calm⟩ (aj_cons (ej_dat (d := fmP b p low high) 0) (aj_cons (ej_dat (d := .int (r1 + (i : Nat))) 4) aj_nil)) (rr)) aj_nil)) (R_worth.mk b p low high s c e B F hc.ok)) (congrArg fq ew.symm)

abbrev s_law : Stmt := topS 97
theorem sc_law : FnScope ["_law_script", "_law_bag_here", "_law_turn", "_law_form", "_law_word", "_law_spans", "_law_told", "_law_truth", "_law_choices", "_law_step", "_law_span", "_law_longer", "_law_one", "_law_results", "_law_ends", "_law_again", "_law_inner", "_law_k", "_law_x"] ["_law_script"] (defScope s_law) := ⟨rfl, rfl, rfl, by decide +kernel, rfl, by decide +kernel, by decide +kernel⟩

theorem ok_law {f : Addr} {fd : FuncData} /-H-/ (m_range : mg "range" = none) (m_tuple : mg "tuple" = none) (m_len : mg "len" = none) (c_l_formats : Cal P w K mg base "_law_formats" 6 (R_fmt smallV smallB)) (c_l_some : Cal P w K mg base "_law_some" 5 R_some) (c_span_result : Cal P w K mg base "span_result" 10 R_spres) (c_l_all_in : Cal P w K mg base "_law_all_in" 8 R_allin) (c_l_both_ends : Cal P w K mg base "_law_both_ends" 6 (R_xlm bothD)) (c_l_alike : Cal P w K mg base "_law_alike" 4 R_alikeT) (c_l_least_span : Cal P w K mg base "_law_least_span" 9 R_lspan) (c_l_does_hold : Cal P w K mg base "_law_does_hold" 8 R_dhold) (c_l_true_step_t : ∀ tup : Bool, Cal P w K mg base "_law_true_step" 8 (R_tst tup)) (c_l_bag : Cal P w K mg base "_law_bag" 4 R_bag) (c_l_few : CalX P w K mg base "_law_few" 9 Pre_f Post_few) (c_l_some_within : CalX P w K mg base "_law_some_within" 8 Pre_wit2 Post_wit2) /-E-/
    (F : Fun K "law" "law" s_law f fd) : FnG P w K mg base 12 f fd ["_law_script"] (spLaw K) := by
  refine fnG_of F sc_law (by rintro vs H Q E ⟨a, ns, rfl, _⟩; rfl) fun cd0 A out s H vs Q E G hsp => ?_
  obtain ⟨a, ns, rfl, hS, hlen, q⟩ := hsp
  have c_l_ts := c_l_true_step_t true
  have Ev : EnvD K none H (L2.start ["_law_script", "_law_bag_here", "_law_turn", "_law_form", "_law_word", "_law_spans", "_law_told", "_law_truth", "_law_choices", "_law_step", "_law_span", "_law_longer", "_law_one", "_law_results", "_law_ends", "_law_again", "_law_inner", "_law_k", "_law_x"] [.ref a]) ([.scr ns] ++ List.replicate (19 - 1) .no) := start_env (Γ := [.scr ns]) ⟨⟨a, rfl, hS⟩, trivial⟩ (Nat.le_of_ble_eq_true rfl)
  have O : On K none ⟨0, 0, 0, []⟩ H H := ⟨Same.refl _, fun _ _ z => nomatch z⟩
  refine sj_law 1 G.nd (y := 1234567891) (ns := (ns.take 63).map absI) (ej_call c_l_bag (G.le (by decide)) (aj_cons (ej_var 0 (d := .scr ns) rfl (fun z => nomatch z)) aj_nil) (R_bag.mk ns _ hlen)) ?_ (Ev := Ev) (O := O) (q := q)
  generalize hB0 : (⟨0, 1234567891, 0, (ns.take 63).map absI⟩ : Bag) = B0
  have okB : Bok B0 := by rw [← hB0]; show ((ns.take 63).map absI).length ≤ 63; rw [List.length_map, List.length_take]; omega
  clear hB0
  refine sj_forR (n := 4) 2 G.nd G.calm m_range (fun i Γ' B' => (∃ g2 g3 g4 g5 g6 g7 g8 g9 g10 g11 g12 g13 g14 g15 g16, Γ' = [.no, .bag, g2, g3, g4, g5, g6, g7, g8, g9, g10, g11, g12, g13, g14, g15, g16, .no, .no]) ∧ Bok B') ej_int (by decide) ⟨⟨_, _, _, _, _, _, _, _, _, _, _, _, _, _, _, rfl⟩, okB⟩ (fun ti Γ' B' hi hP => ?_) (fun Γ' B' hP => ?_)
  · obtain ⟨⟨g2, g3, g4, g5, g6, g7, g8, g9, g10, g11, g12, g13, g14, g15, g16, rfl⟩, ok⟩ := hP
    have Ft := smallV_ok B'
    have ok1 := smallB_ok ok
    have hsm := smallV_mem B'
    have r1 := R_fmt.mk (f := smallV) (g := smallB) B' ok
    generalize smallV B' = t at *
    generalize smallB B' = B1 at *
    have Ft : Fm t.1 t.2.1 t.2.2.1 t.2.2.2 := Ft
    have St := sml_of hsm
    have ms := sm_most hsm
    clear hsm
    have r3 := R_some.mk B1 (k67W.map PyData.str) (Nat.le_of_ble_eq_true rfl) (Nat.le_of_ble_eq_true rfl) ok1
    obtain ⟨w, hw, ew⟩ := pick_ex k67W PyData.str B1 (Nat.le_of_ble_eq_true rfl)
    rw [ew] at r3
    have ok2 := tkB_ok ok1 (k67W.map PyData.str).length
    generalize tkB B1 (k67W.map PyData.str).length = B2 at *
    obtain ⟨hw1, hw2, hwr, hwi, hwb, har, hm1, hm2⟩ := k67_words hw
    refine sj_unpack [3, 4] (ds := [t.d, .str w]) G.calm (ej_tupD (ad_cons (ej_call c_l_formats (G.le (by decide)) (aj_cons (ej_bag 1) aj_nil) (r1)) (ad_cons (ej_call c_l_some (G.le (by decide)) (aj_cons (ej_bag 1) (aj_cons (ej_is (y := .list (k67W.map PyData.str)) (ej_lstD (ad_cons ej_str (ad_cons ej_str (ad_cons ej_str (ad_cons ej_str (ad_cons ej_str (ad_cons ej_str (ad_cons ej_str (ad_cons ej_str ad_nil)))))))) (Nat.le_of_ble_eq_true rfl)) rfl) aj_nil)) (r3)) ad_nil)) (Nat.le_of_ble_eq_true rfl)) (pgs_cons (pgN 3 G.nd) (pgs_cons (pgN 4 G.nd) pgs_nil)) rfl ?_
    clear r1 r3 ew
    refine sj_setX 5 G.nd (ex_tupleL m_tuple (ex_lcR (x := "_law_k") (j := 17) G.nd G.calm m_range (blkOk_by (N := ["_law_script", "_law_bag_here", "_law_turn", "_law_form", "_law_word", "_law_spans", "_law_told", "_law_truth", "_law_choices", "_law_step", "_law_span", "_law_longer", "_law_one", "_law_results", "_law_ends", "_law_again", "_law_inner", "_law_k", "_law_x"]) (sc := defScope s_law) (by decide +kernel)) (fun _ _ _ _ _ => pg_name (i := 17) G.nd rfl (Or.inl rfl)) (rx_lcR (n := opMany w) (fun k acc B' => Bok B' ∧ ∃ L : List (Int × Int), acc = L.map (fun q => (fewS t q).d) ∧ ∀ q ∈ L, fewP t q) (aj_cons (ej_is (ej_ifI (u := 1) (v := 2) (tj_inT (ss := ["size", "opposite"]) (ej_dat (d := .str w) 4) (ej_tupD (ad_cons ej_str (ad_cons ej_str ad_nil)) (Nat.le_of_ble_eq_true rfl))) (fun _ => ej_int) (fun _ => ej_int)) (k67_arg hw)) aj_nil) ⟨ok2, [], rfl, fun _ h => nomatch h⟩ (by omega) (fun k acc B' hk hl hI => ?_) (fun acc B' hl hI => ?_))))
    · obtain ⟨ok, L, rfl, hL⟩ := hI
      intro s1 H1 C1 cl1 fp1
      refine ex_call c_l_few ?_ (ax_bag 1 (ax_aj (aj_cons (ej_dat (d := t.d) 3) aj_nil) ⟨⟨t, rfl, Ft, ok⟩, fun r B2 hp => ?_⟩))
      · exact ⟨G.gd, G.rm.mono (by decide), G.nd, G.calm⟩
      obtain ⟨ok2, t', u, v, r1, r2, et, rfl, e1, e2, h1, h2, h3, h4⟩ := hp
      have et : t = t' := by
        injection et with _ et
        injection et with et _
        injection et with et
        exact F4.inj et
      subst et
      have es : fewS t (r1, r2) = .span u v := by unfold fewS vaR; rw [e1, e2]; rfl
      refine ⟨ok2, L ++ [(r1, r2)], by rw [List.map_append, ← es]; rfl, fun q hq => ?_⟩
      rcases List.mem_append.mp hq with hq | hq
      · exact hL q hq
      · rw [List.mem_singleton.mp hq]; exact ⟨h1, h2, h3, h4⟩
    obtain ⟨ok3, qs, rfl, hq⟩ := hI
    rw [List.length_map] at hl
    refine ⟨_, rfl, ?_⟩
    have hl2 : qs.length ≤ 2 := by omega
    have hne : qs ≠ [] := fun z => by rw [z] at hl; simp only [List.length_nil] at hl; omega
    obtain ⟨r, hr⟩ := op_ex hw1 (L := qs.map fun q => (Xe.of t.1 (vaR t q.1), Xe.of t.1 (vaR t q.2))) (by rw [List.length_map, hl])
    have rs := R_spres.some t.1 t.2.1 t.2.2.1 t.2.2.2 w (qs.map fun q => (vaR t q.1, vaR t q.2)) r B' Ft (fun s hs => by obtain ⟨q, h, rfl⟩ := List.mem_map.mp hs; exact few_ok2 Ft (hq q h)) (by rw [List.map_map]; exact hr) (by rw [List.length_map]; omega)
    rw [List.map_map] at rs
    obtain ⟨lo, hi', rfl⟩ := chs_num Ft hq hr hl2 hne
    obtain ⟨z1, z2⟩ := chs_ends Ft hq hr hw1 hl2 hne
    have rs : R_spres [.da (fmP t.1 t.2.1 t.2.2.1 t.2.2.2), .da (.str w), .da (.tuple (qs.map fun q => (fewS t q).d))] B' (.tuple [(Sp.span (loV t.1 t.2.1 t.2.2.1 t.2.2.2 lo) (upV t.1 t.2.1 t.2.2.1 t.2.2.2 hi')).d, .bool true]) B' := rs
    refine sj_unpack [6, 7] (ds := [(Sp.span (loV t.1 t.2.1 t.2.2.1 t.2.2.2 lo) (upV t.1 t.2.1 t.2.2.1 t.2.2.2 hi')).d, .bool true]) G.calm (ej_call c_span_result (G.le (by decide)) (aj_cons (ej_dat (d := t.d) 3) (aj_cons (ej_dat (d := .str w) 4) (aj_cons (ej_dat (d := .tuple (qs.map fun q => (fewS t q).d)) 5) aj_nil))) (rs)) (pgs_cons (pgN 6 G.nd) (pgs_cons (pgN 7 G.nd) pgs_nil)) rfl ?_
    generalize hsp : Sp.span (loV t.1 t.2.1 t.2.2.1 t.2.2.2 lo) (upV t.1 t.2.1 t.2.2.1 t.2.2.2 hi') = told at *
    refine sj_unpack [8, 9] (ds := [.list ((chs t (qs.take 0)).map chD), (Stp.op w (List.range (opMany w))).d]) G.calm (ej_tupD (ad_cons (ej_lstD (ad_cons (ej_tupD (ds := []) ad_nil (Nat.le_of_ble_eq_true rfl)) ad_nil) (Nat.le_of_ble_eq_true rfl)) (ad_cons (ej_catT (ej_tupD (ad_cons (ej_dat (d := .str w) 4) ad_nil) (Nat.le_of_ble_eq_true rfl)) (ej_tupRg G.calm m_tuple m_range (ej_is (ej_lenT m_len (ej_dat (d := .tuple (qs.map fun q => (fewS t q).d)) 5)) (by rw [List.length_map, hl])) (by omega)) (by simp only [List.length_map, List.length_range, List.length_singleton]; omega)) ad_nil)) (Nat.le_of_ble_eq_true rfl)) (pgs_cons (pgN 8 G.nd) (pgs_cons (pgN 9 G.nd) pgs_nil)) rfl ?_
    have al : ∀ q ∈ qs, (allR t q).length ≤ 7 := fun q h => allQ_len (hq q h).2.1 (hq q h).2.2.2
    have cl : ∀ i, (chs t (qs.take i)).length ≤ 49 := fun i => chs_len (fun q h => hq q (List.mem_of_mem_take h)) (by rw [List.length_take]; omega)
    refine sj_forT (ds := qs.map fun q => (fewS t q).d) 10 G.nd G.calm (fun i Γ' B2 => (∃ g10 g11 g12, Γ' = [.no, .bag, .da (.int (ti : Nat)), .da t.d, .da (.str w), .da (.tuple (qs.map fun q => (fewS t q).d)), .da told.d, .da (.bool true), .da (.list ((chs t (qs.take i)).map chD)), .da (Stp.op w (List.range (opMany w))).d, g10, g11, g12, g13, g14, g15, g16, .no, .no]) ∧ B2 = B') (ej_dat (d := .tuple (qs.map fun q => (fewS t q).d)) 5) ⟨⟨_, _, _, rfl⟩, rfl⟩ (fun i yy Γ' B2 hy hP => ?_) (fun Γ' B2 hP => ?_)
    · obtain ⟨⟨g10, g11, g12, rfl⟩, rfl⟩ := hP
      rw [List.getElem?_map] at hy
      obtain ⟨q, hqi, rfl⟩ := Option.map_eq_some_iff.mp hy
      have fq' := hq q (List.mem_of_getElem? hqi)
      obtain ⟨a1, b1, k1, p1, _⟩ := vaR_at Ft fq'.1 (by have := fq'.2.1; have := fq'.2.2.1; omega)
      obtain ⟨a2, b2, k2, p2, _⟩ := vaR_at Ft (r := q.2) (by have := fq'.1; have := fq'.2.1; omega) fq'.2.2.1
      have rIn : R_allin [.da (fmP t.1 t.2.1 t.2.2.1 t.2.2.2), .da (fewS t q).d] B2 (.list ((allR t q).map fq)) B2 := R_allin.mk t.1 t.2.1 t.2.2.1 t.2.2.2 q.1 q.2 _ _ B2 Ft ms a1 a2 fq'.1 fq'.2.1 fq'.2.2.1 fq'.2.2.2
      have aq := al q (List.mem_of_getElem? hqi)
      have ci := cl i
      have ck := chs_take (t := t) hqi
      generalize hcs : chs t (qs.take i) = cs at *
      refine sj_own 11 G.nd (fj_lst (ds := []) aj_nil (by decide)) (show 12 ≤ _ from Nat.le_of_ble_eq_true rfl) ?_
      refine ow_forL (ds := cs.map chD) 12 G.nd G.calm (by decide) (fun k Γ' B3 acc => (∃ g12, Γ' = [.no, .bag, .da (.int (ti : Nat)), .da t.d, .da (.str w), .da (.tuple (qs.map fun q => (fewS t q).d)), .da told.d, .da (.bool true), .da (.list (cs.map chD)), .da (Stp.op w (List.range (opMany w))).d, .da (fewS t q).d, .no, g12, g13, g14, g15, g16, .no, .no]) ∧ B3 = B2 ∧ acc = ((cs.take k).flatMap fun one => (allR t q).map fun x => one ++ [x]).map chD) (ej_dat (d := .list (cs.map chD)) 8) ⟨⟨_, rfl⟩, rfl, rfl⟩ (fun k yy Γ' B3 acc hy hP => ?_) (fun Γ' B3 acc hP => ?_)
      · obtain ⟨⟨g12, rfl⟩, rfl, rfl⟩ := hP
        rw [List.getElem?_map] at hy
        obtain ⟨one, hone, rfl⟩ := Option.map_eq_some_iff.mp hy
        have lone : one.length ≤ 2 := by
          have m := List.mem_of_getElem? hone
          rw [← hcs] at m
          have := (chs_mem Ft St (fun q h => hq q (List.mem_of_mem_take h)) (by rw [List.length_take]; omega) m).1
          rw [this, List.length_take]; omega
        have fl := flat_le (fun one : List Rat => (allR t q).map fun x => one ++ [x]) (fun a => by rw [List.length_map]; exact aq) (cs.take k)
        have tk : (cs.take k).length ≤ 49 := by rw [List.length_take]; omega
        refine ow_ext (ys := ((allR t q).map fun x => one ++ [x]).map chD) G.nd (ej_is (ej_lc (j := 18) (x := "_law_x") G.nd G.calm (blkOk_by (N := ["_law_script", "_law_bag_here", "_law_turn", "_law_form", "_law_word", "_law_spans", "_law_told", "_law_truth", "_law_choices", "_law_step", "_law_span", "_law_longer", "_law_one", "_law_results", "_law_ends", "_law_again", "_law_inner", "_law_k", "_law_x"]) (sc := defScope s_law) (by decide +kernel)) (fun _ _ _ _ _ => pg_name (i := 18) G.nd rfl (Or.inl rfl)) (rj_mapL (allR t q) fq (fun x => chD (one ++ [x])) (ej_call c_l_all_in (G.le (by decide)) (aj_cons (ej_dat (d := t.d) 3) (aj_cons (ej_dat (d := (fewS t q).d) 10) aj_nil)) (rIn)) (by omega) (fun x hx => ?_))) (by rw [List.map_map]; rfl)) (by rw [List.length_map, List.length_map, List.length_map]; omega) (ow_nil ⟨⟨_, rfl⟩, rfl, by rw [List.take_add_one, hone, List.flatMap_append, List.map_append]; simp only [Option.toList, List.flatMap_cons, List.flatMap_nil, List.append_nil]⟩)
        intro s1 H1 C1 cl1 fp1
        exact ej_is (ej_catT (ej_dat (d := chD one) 12) (ej_tupD (ad_cons (ej_dat (d := fq x) 18) ad_nil) (Nat.le_of_ble_eq_true rfl)) (by rw [List.length_map, List.length_singleton]; omega)) (by unfold chD; rw [List.map_append]; rfl)
      · obtain ⟨⟨g12, rfl⟩, rfl, rfl⟩ := hP
        rw [List.length_map, List.take_length]
        refine ow_end (sj_set 8 G.nd (ej_dat (d := .list ((cs.flatMap fun one => (allR t q).map fun x => one ++ [x]).map chD)) 11) (sj_nil ?_))
        refine ⟨⟨.da (fewS t q).d, .da (.list ((cs.flatMap fun one => (allR t q).map fun x => one ++ [x]).map chD)), g12, ?_⟩, rfl⟩
        rw [ck]; rfl
    obtain ⟨⟨g10, g11, g12, rfl⟩, rfl⟩ := hP
    rw [List.length_map, List.take_length]
    have cm := fun one => @chs_mem t Ft St qs hq hl2 one
    have c49 := chs_len hq hl2
    have rT : ∀ one, one.length = opMany w → (∀ x ∈ one, Qz 40 40 x) → ∀ B, R_tst true [.da (Stp.op w (List.range (opMany w))).d, .da (chD one), .da (.tuple [])] B (fq (opQ w one)) B := fun one h1 h2 B => by
      have e0 := tsR_op hw h1
      rw [h1] at e0
      have := R_tst.mk (tup := true) (.op w (List.range (opMany w))) 0 (one.map some) [] 40 B (by rw [List.length_map, h1]; exact op_stp hw) hwr rfl (fun q h => by obtain ⟨x, hx, e⟩ := List.mem_map.mp h; injection e with e; rw [← e]; exact h2 x hx) (by decide) (by rw [List.length_map]; omega)
      rw [e0] at this
      have e : fdD true ((one.map some).map optQ) = chD one := by
        show PyData.tuple ((one.map some).map optQ) = .tuple (one.map fq)
        rw [List.map_map]; rfl
      rw [e] at this
      exact this
    refine sj_setLc 13 (j := 12) (x := "_law_one") (d := .da (.list ((chs t qs).map fun one => fq (opQ w one)))) G.nd G.calm (blkOk_by (N := ["_law_script", "_law_bag_here", "_law_turn", "_law_form", "_law_word", "_law_spans", "_law_told", "_law_truth", "_law_choices", "_law_step", "_law_span", "_law_longer", "_law_one", "_law_results", "_law_ends", "_law_again", "_law_inner", "_law_k", "_law_x"]) (sc := defScope s_law) (by decide +kernel)) (fun _ _ _ _ _ => pg_name (i := 12) G.nd rfl (Or.inl rfl)) (rj_mapL (chs t qs) chD (fun one => fq (opQ w one)) (ej_dat (d := .list ((chs t qs).map chD)) 8) (by omega) (fun one h => ?_)) ?_ (sw_true rfl rfl rfl (by decide +kernel))
    · intro s1 H1 C1 cl1 fp1
      exact (ej_call c_l_ts ⟨G.gd, G.rm.mono (by decide), G.nd, G.calm⟩ (aj_cons (ej_dat (d := (Stp.op w (List.range (opMany w))).d) 9) (aj_cons (ej_dat (d := chD one) 12) (aj_cons (ej_tupD (ds := []) ad_nil (Nat.le_of_ble_eq_true rfl)) aj_nil))) (rT one ((cm one h).1.trans hl) (fun x hx => ((cm one h).2 x hx).le (by decide) (by decide)) _))
    have qz : ∀ one ∈ chs t qs, Qz 43 42 (opQ w one) := fun one h => opQ_qz hw (cm one h).2 ((cm one h).1.trans hl)
    obtain ⟨q0, rest, eq0⟩ : ∃ q rest, qs = q :: rest := by
      cases qs with
      | nil => exact absurd rfl hne
      | cons q l => exact ⟨q, l, rfl⟩
    have f0 := hq q0 (by rw [eq0]; simp)
    obtain ⟨a1, b1, k1, p1, n1⟩ := vaR_at Ft f0.1 (by have := f0.2.1; have := f0.2.2.1; omega)
    obtain ⟨a2, b2, k2, p2, n2⟩ := vaR_at Ft (r := q0.2) (by have := f0.1; have := f0.2.1; omega) f0.2.2.1
    obtain ⟨s1, c1, e1, hu⟩ : ∃ s c e, vaR t q0.1 = .num s c e := by revert n1; cases vaR t q0.1 <;> intro z <;> first | exact ⟨_, _, _, rfl⟩ | cases z
    obtain ⟨s2, c2, e2, hv⟩ : ∃ s c e, vaR t q0.2 = .num s c e := by revert n2; cases vaR t q0.2 <;> intro z <;> first | exact ⟨_, _, _, rfl⟩ | cases z
    have es : (fewS t q0).d = .tuple [.str "span", (Va.num s1 c1 e1).d, (Va.num s2 c2 e2).d] := by
      show PyData.tuple [.str "span", (vaR t q0.1).d, (vaR t q0.2).d] = _
      rw [hu, hv]
    have hz : ((decide (w = "size") && (decide (s1 = 1) && decide (s2 = 0))) = true) → (0 : Rat) ∈ (chs t qs).map (opQ w) := fun h => by
      rw [Bool.and_eq_true, Bool.and_eq_true, decide_eq_true_eq, decide_eq_true_eq, decide_eq_true_eq] at h
      obtain ⟨h1, h2, h3⟩ := h
      subst h1
      have l1 : qs.length = 1 := hl.trans (by decide)
      have m0 := k67_zero Ft f0 hu hv h2 h3
      rw [eq0] at l1
      have er : rest = [] := by
        cases rest with
        | nil => rfl
        | cons _ _ => simp only [List.length_cons] at l1; omega
      rw [eq0, er]
      refine List.mem_map.mpr ⟨[0], ?_, by decide +kernel⟩
      simp only [chs, chG, List.foldl_cons, List.foldl_nil, List.flatMap_cons, List.flatMap_nil, List.append_nil, List.nil_append, List.mem_map]
      exact ⟨0, m0, rfl⟩
    generalize hcb : (decide (w = "size") && (decide (s1 = 1) && decide (s2 = 0))) = cb at *
    obtain ⟨ext, hext⟩ : ∃ ext : List Rat, ext = if cb = true then [0] else [] := ⟨_, rfl⟩
    have hextl : ext.length ≤ 1 := by rw [hext]; split <;> simp
    have eA : cb = true → PyData.list [.tuple [.int 0, .int 1]] = .list (ext.map fq) := fun h => by rw [hext, if_pos h]; rfl
    have eB : cb = false → PyData.list [] = .list (ext.map fq) := fun h => by rw [hext, if_neg (by rw [h]; decide)]; rfl
    have e5 : PyData.tuple (qs.map fun q => (fewS t q).d) = .tuple ((fewS t q0).d :: rest.map fun q => (fewS t q).d) := by rw [eq0]; rfl
    have mm : Xe.minL (((chs t qs).map (opQ w) ++ ext).map .q) = .q lo ∧ Xe.maxL (((chs t qs).map (opQ w) ++ ext).map .q) = .q hi' := by
      cases cb with
      | false => rw [hext, if_neg (by decide), List.append_nil]; exact ⟨z1, z2⟩
      | true =>
        rw [hext, if_pos rfl, List.map_append]
        have := minL_app (L := ((chs t qs).map (opQ w)).map .q) (x := .q 0) (List.mem_map.mpr ⟨0, hz rfl, rfl⟩)
        exact ⟨this.1.trans z1, this.2.trans z2⟩
    have chne : ((chs t qs).map (opQ w)).map Xe.q ≠ [] := fun z => by
      have c0 : chs t qs ≠ [] := fun c => by
        have m1 := all_lo Ft f0
        cases rest with
        | nil =>
          have : [valR t.1 t.2.1 t.2.2.1 t.2.2.2 q0.1] ∈ chs t qs := by
            rw [eq0]
            simp only [chs, chG, List.foldl_cons, List.foldl_nil, List.flatMap_cons, List.flatMap_nil, List.append_nil, List.nil_append, List.mem_map]
            exact ⟨_, m1, rfl⟩
          rw [c] at this; cases this
        | cons q1 r1 =>
          have er : r1 = [] := by
            cases r1 with
            | nil => rfl
            | cons _ _ => rw [eq0] at hl2; simp only [List.length_cons] at hl2; omega
          have m2 := all_lo Ft (hq q1 (by rw [eq0]; simp))
          have : [valR t.1 t.2.1 t.2.2.1 t.2.2.2 q0.1] ++ [valR t.1 t.2.1 t.2.2.1 t.2.2.2 q1.1] ∈ chs t qs := by
            rw [eq0, er]
            simp only [chs, chG, List.foldl_cons, List.foldl_nil, List.flatMap_cons, List.flatMap_nil, List.append_nil, List.nil_append, List.mem_map, List.mem_flatMap]
            exact ⟨_, ⟨_, m1, rfl⟩, _, m2, rfl⟩
          rw [c] at this; cases this
      exact c0 (by simpa using z)
    have qall : ∀ x ∈ (chs t qs).map (opQ w), Qz 43 42 x := fun x hx => by obtain ⟨one, h, rfl⟩ := List.mem_map.mp hx; exact qz one h
    have qlo : Qz 43 42 lo := by
      have m := Xe.minL_mem chne
      rw [z1] at m
      obtain ⟨x, hx, e⟩ := List.mem_map.mp m
      cases e; exact qall _ hx
    have qhi : Qz 43 42 hi' := by
      have m := Xe.maxL_mem chne
      rw [z2] at m
      obtain ⟨x, hx, e⟩ := List.mem_map.mp m
      cases e; exact qall _ hx
    have rB : R_xlm bothD [.da (.list ((chs t qs).map (fun one => fq (opQ w one)) ++ ext.map fq))] B2 (.tuple [fq lo, fq hi']) B2 := by
      have := R_xlm.mk (f := bothD) (((chs t qs).map (opQ w) ++ ext).map .q) 43 42 B2 (fun x hx => by
        obtain ⟨y, hy, rfl⟩ := List.mem_map.mp hx
        show Qz 43 42 y
        rcases List.mem_append.mp hy with hy | hy
        · exact qall y hy
        · rw [hext] at hy
          split at hy
          · rename_i c
            rw [List.mem_singleton.mp hy]; exact qall 0 (hz c)
          · cases hy) (fun z => by rw [List.map_append] at z; exact chne (List.append_eq_nil_iff.mp z).1) (by rw [List.length_map, List.length_append, List.length_map]; omega) (by decide) (by decide) (by decide)
      unfold bothD at this
      rw [mm.1, mm.2] at this
      have e : (((chs t qs).map (opQ w) ++ ext).map Xe.q).map Xe.d = (chs t qs).map (fun one => fq (opQ w one)) ++ ext.map fq := by
        rw [List.map_map, List.map_append, List.map_map]; rfl
      rw [e] at this
      exact this
    refine sj_set 14 G.nd (d := .da (.tuple [fq lo, fq hi'])) (ej_call c_l_both_ends (G.le (by decide)) (aj_cons (ej_catL (ej_dat (d := .list ((chs t qs).map fun one => fq (opQ w one))) 13) (ej_if (x := cb) (d := .da (.list (ext.map fq))) (tj_is (tj_w (wj_and (tj_eqS (ej_dat (d := .str w) 4) ej_str) fun _ => (wj_and (tj_eqI G.hu (ej_at (y := .int s1) (ej_at (y := (Va.num s1 c1 e1).d) (ej_is (ej_at (y := (fewS t q0).d) (ej_is (ej_dat (d := .tuple (qs.map fun q => (fewS t q).d)) 5) e5) (atI_head rfl)) es))) ej_int) fun _ => (wj_and1 (tj_eqI G.hu (ej_at (y := .int s2) (ej_at (y := (Va.num s2 c2 e2).d) (ej_is (ej_at (y := (fewS t q0).d) (ej_is (ej_dat (d := .tuple (qs.map fun q => (fewS t q).d)) 5) e5) (atI_head rfl)) es))) ej_int))))) hcb) (fun h => ej_is (ej_lstD (ad_cons (ej_tupD (ad_cons ej_int (ad_cons ej_int ad_nil)) (Nat.le_of_ble_eq_true rfl)) ad_nil) (Nat.le_of_ble_eq_true rfl)) (eA h)) (fun h => ej_is (ej_lstD (ds := []) ad_nil (Nat.le_of_ble_eq_true rfl)) (eB h))) (by simp only [List.length_map]; omega)) aj_nil) (rB)) ?_
    have rL : R_lspan [.da (fmP t.1 t.2.1 t.2.2.1 t.2.2.2), .da (.tuple [fq lo, fq hi'])] B2 told.d B2 := by
      have := R_lspan.fr t.1 t.2.1 t.2.2.1 t.2.2.2 lo hi' 43 42 B2 Ft qlo qhi (by decide) (by decide)
      rw [hsp] at this
      exact this
    have xtwo : ∀ q ∈ qs, Xe2 (Xe.of t.1 (vaR t q.1), Xe.of t.1 (vaR t q.2)) := fun q h => (enX_ok Ft (few_ok2 Ft (hq q h)) rfl).two
    have rtwo : Xe2 (.q lo, .q hi') := op_two hr fun a ha => by obtain ⟨q, h, rfl⟩ := List.mem_map.mp ha; exact xtwo q h
    have tok0 := lsp_two Ft rtwo
    have tok : told.ok2 t.1 t.2.1 t.2.2.1 t.2.2.2 := by rw [← hsp]; exact tok0
    have oks : OkB told.d := by
      rw [← hsp]
      exact ((Nd.tuple (NdA.cons ((Nd.str (x := "span") (by decide +kernel) (by decide)).le (D' := 2) (W' := 20) (by decide) (by decide)) (NdA.cons (va_nd Ft tok0.1.1.1.ok) (NdA.cons (va_nd Ft tok0.1.2.1.ok) (NdA.nil (D := 2) (W := 0)))))).le (D' := 3) (W' := 120) (by decide) (by decide)).b.okb (by decide) (by decide)
    refine sj_when (x := false) (tj_w (wj_or (x := false) (y := false) (tj_is (tj_isnotB (ej_dat (d := .bool true) 7) ej_bl) rfl) fun _ => (wj_or1 (tj_is (tj_not (tj_val (ej_call c_l_alike (G.le (by decide)) (aj_cons (ej_dat (d := told.d) 6) (aj_cons (ej_call c_l_least_span (G.le (by decide)) (aj_cons (ej_dat (d := t.d) 3) (aj_cons (ej_dat (d := .tuple [fq lo, fq hi']) 14) aj_nil)) (rL)) aj_nil)) (R_alikeT.mk told.d B2 oks (.inl (by rw [← hsp]; rfl)))))) rfl)))) (fun h => Bool.noConfusion h) (fun _ => ?_)
    refine sj_forR (n := 5) 15 G.nd G.calm m_range (fun i Γ' B3 => (∃ g15 g16, Γ' = [.no, .bag, .da (.int (ti : Nat)), .da t.d, .da (.str w), .da (.tuple (qs.map fun q => (fewS t q).d)), .da told.d, .da (.bool true), .da (.list ((chs t qs).map chD)), .da (Stp.op w (List.range (opMany w))).d, g10, g11, g12, .da (.list ((chs t qs).map fun one => fq (opQ w one))), .da (.tuple [fq lo, fq hi']), g15, g16, .no, .no]) ∧ Bok B3) ej_int (by decide) ⟨⟨_, _, rfl⟩, ok3⟩ (fun ai Γ' B3 hai hP => ?_) (fun Γ' B3 hP => ?_)
    · obtain ⟨⟨g15, g16, rfl⟩, ok4⟩ := hP
      refine sj_setX 16 G.nd (ex_tupleL m_tuple (ex_lcT (j := 10) (x := "_law_span") G.nd G.calm (blkOk_by (N := ["_law_script", "_law_bag_here", "_law_turn", "_law_form", "_law_word", "_law_spans", "_law_told", "_law_truth", "_law_choices", "_law_step", "_law_span", "_law_longer", "_law_one", "_law_results", "_law_ends", "_law_again", "_law_inner", "_law_k", "_law_x"]) (sc := defScope s_law) (by decide +kernel)) (fun _ _ _ _ _ => pg_name (i := 10) G.nd rfl (Or.inl rfl)) (rx_lcTB (ds := qs.map fun q => (fewS t q).d) (fun k acc B4 => Bok B4 ∧ ∃ xs : List Rat, acc = xs.map fq ∧ (∀ x ∈ xs, Qz 40 40 x) ∧ ∀ (i : Nat) q x, qs[i]? = some q → xs[i]? = some x → holdB t.1 (fewS t q) x = true) (ej_dat (d := .tuple (qs.map fun q => (fewS t q).d)) 5) ⟨ok4, [], rfl, (fun _ h => nomatch h), fun i q x _ h => by cases h⟩ (by rw [List.length_map]; omega) (fun k y acc B4 hy hl hI => ?_) (fun acc B4 hl4 hI => ?_))))
      · obtain ⟨ok5, xs, rfl, hx, hh⟩ := hI
        rw [List.length_map] at hl
        rw [List.getElem?_map] at hy
        obtain ⟨q, hqi, rfl⟩ := Option.map_eq_some_iff.mp hy
        have fq' := hq q (List.mem_of_getElem? hqi)
        intro s1 H1 C1 cl1 fp1
        refine ex_call c_l_some_within ?_ (ax_bag 1 (ax_aj (aj_cons (ej_dat (d := t.d) 3) (aj_cons (ej_dat (d := (fewS t q).d) 10) aj_nil)) ⟨⟨t, vaR t q.1, vaR t q.2, rfl, Ft, St, few_ok2 Ft fq', ok5⟩, fun r B5 hp => ?_⟩))
        · exact ⟨G.gd, G.rm.mono (by decide), G.nd, G.calm⟩
        obtain ⟨ok6, t', u', v', eΓ, x, rfl, qx, hx2⟩ := hp
        injection eΓ with _ eΓ
        injection eΓ with e1 eΓ
        injection eΓ with e2 _
        have e1 : t = t' := by injection e1 with e1; exact F4.inj e1
        subst e1
        have e2 : (Sp.span (vaR t q.1) (vaR t q.2)).d = (Sp.span u' v').d := by injection e2
        obtain ⟨rfl, rfl⟩ := spd_inj e2
        refine ⟨ok6, xs ++ [x], by rw [List.map_append]; rfl, fun y hy => ?_, fun i q2 y h1 h2 => ?_⟩
        · rcases List.mem_append.mp hy with hy | hy
          · exact hx y hy
          · rw [List.mem_singleton.mp hy]; exact qx.le (by decide) (by decide)
        · by_cases c : i < xs.length
          · rw [List.getElem?_append_left c] at h2
            exact hh i q2 y h1 h2
          · have ci : i = k := by
              have := (List.getElem?_eq_some_iff.mp h2).1
              rw [List.length_append, List.length_singleton] at this
              omega
            subst ci
            rw [hqi] at h1
            rw [List.getElem?_append_right (by omega), hl, Nat.sub_self] at h2
            cases h1
            cases h2
            exact hx2
      obtain ⟨ok5, xs, rfl, hx, hh⟩ := hI
      rw [List.length_map, List.length_map] at hl4
      refine ⟨_, rfl, ?_⟩
      have lx : xs.length = opMany w := hl4.trans hl
      obtain ⟨r', hr'⟩ := op_ex hw1 (L := xs.map pt2) (by rw [List.length_map, lx])
      have er := op_pt (K := xs) rfl hr'
      have mo := op_mono hr hr' (fun a ha => by obtain ⟨q, h, rfl⟩ := List.mem_map.mp ha; exact xtwo q h) (fun a ha => by obtain ⟨x, h, rfl⟩ := List.mem_map.mp ha; exact pt2_two x) (fun i a a' h1 h2 => by
        rw [List.getElem?_map] at h1 h2
        obtain ⟨q, hqi, rfl⟩ := Option.map_eq_some_iff.mp h1
        obtain ⟨x, hxi, rfl⟩ := Option.map_eq_some_iff.mp h2
        exact (hold_in2 Ft (few_ok2 Ft (hq q (List.mem_of_getElem? hqi))) x).mp (hh i q x hqi hxi))
      rw [er] at mo
      have hb : holdB t.1 told (opQ w xs) = true := by
        rw [← hsp]
        refine (pt_spin Ft tok0 (opQ w xs)).mp ?_
        exact lsp_mono Ft (a' := pt2 (opQ w xs)) (fun z => by cases z) (fun z => by cases z) mo
      have qx := opQ_qz hw hx lx
      refine sj_when (x := false) (tj_is (tj_not (tj_val (ej_call c_l_does_hold (G.le (by decide)) (aj_cons (ej_dat (d := t.d) 3) (aj_cons (ej_dat (d := told.d) 6) (aj_cons (ej_call c_l_ts (G.le (by decide)) (aj_cons (ej_dat (d := (Stp.op w (List.range (opMany w))).d) 9) (aj_cons (ej_dat (d := chD xs) 16) (aj_cons (ej_tupD (ds := []) ad_nil (Nat.le_of_ble_eq_true rfl)) aj_nil))) (rT xs lx hx _)) aj_nil))) (R_dhold.mk t.1 t.2.1 t.2.2.1 t.2.2.2 told (opQ w xs) 81 80 B4 Ft tok qx (by decide) (by decide))))) (by rw [hb]; rfl)) (fun h => Bool.noConfusion h) (fun _ => ?_)
      exact sj_nil ⟨⟨_, _, rfl⟩, ok5⟩
    · obtain ⟨⟨g15, g16, rfl⟩, ok4⟩ := hP
      exact sj_nil ⟨⟨_, _, _, _, _, _, _, _, _, _, _, _, _, _, _, rfl⟩, ok4⟩
  · obtain ⟨⟨g2, g3, g4, g5, g6, g7, g8, g9, g10, g11, g12, g13, g14, g15, g16, rfl⟩, ok⟩ := hP
    exact sj_ret ej_bl rfl

end K67
namespace Gd
open PySem PySem.Spec PyProof.Rows L2
theorem repAll_ok {K : PySem.W.Frag} {f : Value → PyData → Bool} (hf : ∀ v d, f v d = true → ∃ u : V, RelV u v ∧ ∀ H, Rp K H u d) :
    ∀ (vs : List Value) (ds : List PyData), repAll f vs ds = true → ∃ us : List V, Vals us vs ∧ ∀ H, RpAll K H us ds
  | [], [], _ => ⟨[], .nil, fun _ => .nil⟩
  | v :: vs, d :: ds, h => by
    have h' : (f v d && repAll f vs ds) = true := h
    rw [Bool.and_eq_true] at h'
    obtain ⟨u, a, b⟩ := hf _ _ h'.1
    obtain ⟨us, c, e⟩ := repAll_ok hf vs ds h'.2
    exact ⟨u :: us, .cons a c, fun H => .cons (b H) (e H)⟩
  | [], _ :: _, h => by cases h
  | _ :: _, [], h => by cases h
theorem repB_ok {K : PySem.W.Frag} : ∀ (n : Nat) (v : Value) (d : PyData), repB K n v d = true → ∃ u : V, RelV u v ∧ ∀ H, Rp K H u d
  | 0, _, _, h => by simp [repB] at h
  | n + 1, v, d, h => by
    unfold repB at h
    split at h
    · cases h
    · have e := of_decide_eq_true h
      subst e
      exact ⟨.str _, ⟨_, rfl⟩, fun _ => .str _⟩
    · have e := of_decide_eq_true h
      subst e
      exact ⟨.int _, ⟨_, rfl⟩, fun _ => .int _⟩
    · split at h
      · rename_i a ds c od its k sl hl
        rw [Bool.and_eq_true, Bool.and_eq_true] at h
        obtain ⟨h1, h2, h3⟩ := h
        have e := of_decide_eq_true h1
        subst e
        injection ‹n + 1 = _› with e1
        subst e1
        obtain ⟨us, r, q⟩ := repAll_ok (repB_ok n) _ _ h3
        exact ⟨.ref _, rfl, fun H => Rp.tup (sq_keep hl (Nat.le_of_ble_eq_true h2) r) (q H)⟩
      · cases h
    · cases h
theorem globB_ok {K : PySem.W.Frag} {h : Heap} {mg : Str → Option Value} {x : Str} {d : PyData} (X : K.In h) (G : h.Ns mainGlobals mg) (c : globB K x d = true) : Glob K mg x d := by
  unfold globB at c
  split at c
  · obtain ⟨u, a, b⟩ := repB_ok _ _ _ c
    exact ⟨u, _, PySem.W.mg_of X G ‹_›, a, b⟩
  · cases c
theorem bltB_ok {K : PySem.W.Frag} {h : Heap} {mg : Str → Option Value} {x : Str} {b : String} (X : K.In h) (G : h.Ns mainGlobals mg) (c : bltB K x b = true) : mg x = some (.builtin b) :=
  PySem.W.mg_of X G (He.eqO_ok c)
theorem ckM_glob {gl : List (Str × PyData)} {bl : List (Str × String)} {K : PySem.W.Frag} {h : Heap} {mg : Str → Option Value} {x : Str} {d : PyData} (X : K.In h) (G : h.Ns mainGlobals mg) (c : ckM gl bl K = true) (i : Nat) (e : gl[i]? = some (x, d)) : Glob K mg x d := by
  have c' : (gl.all (fun p => globB K p.1 p.2) && bl.all (fun p => bltB K p.1 p.2)) = true := c
  rw [Bool.and_eq_true] at c'
  exact globB_ok X G (List.all_eq_true.1 c'.1 _ (List.mem_of_getElem? e))
theorem ckM_blt {gl : List (Str × PyData)} {bl : List (Str × String)} {K : PySem.W.Frag} {h : Heap} {mg : Str → Option Value} {x : Str} {b : String} (X : K.In h) (G : h.Ns mainGlobals mg) (c : ckM gl bl K = true) (i : Nat) (e : bl[i]? = some (x, b)) : mg x = some (.builtin b) := by
  have c' : (gl.all (fun p => globB K p.1 p.2) && bl.all (fun p => bltB K p.1 p.2)) = true := c
  rw [Bool.and_eq_true] at c'
  exact bltB_ok X G (List.all_eq_true.1 c'.2 _ (List.mem_of_getElem? e))
theorem obM_eq {fa : List He.Fa} {fn : List He.DefD} {ck : PySem.W.Frag → Bool} (s : PySem.W.SharedT) : obM fa fn ck s = (hkM fa fn ck).obs s.abs := by
  have e : HandSHeadRun.getT s = s.abs.heap.get? := funext (HandSHeadRun.getT_eq s)
  unfold obM hkM
  rw [e]
theorem defD_at {K : PySem.W.Frag} {h : Heap} {mg : Str → Option Value} {fa : List He.Fa} {fn : List He.DefD} (X : K.In h) (G : h.Ns mainGlobals mg) (c : He.SaysD fa fn K) {y x : Str} {st : Stmt} (i : Nat) (e : fn[i]? = some (dfD y x st)) (ef : fa[i]? = some (.glo y)) :
    ∃ (f : Addr) (oc : Value) (od an : Option Addr) (osl : Array (Option Value)) (kV doc pm cdv ct : Value), PySem.W.nsIn K mainGlobals y = some (some (.ref f)) ∧
      K.lookup f = some ⟨oc, od, .func (PySem.W.fnOf x x (defArgs st) (defBody st) (defScope st) .none kV doc pm an cdv ct), osl⟩ ∧ PySem.W.codeIn K cdv x = true ∧ PySem.W.keepIn K (.ref f) = true := by
  have g := He.eqO_ok (c.fact i (f := .glo y) ef)
  obtain ⟨fd, ⟨oc, od, dV, kV, doc, pm, an, cdv, ct, osl, e1, e2, e3, e4, e5⟩, kp⟩ := c.def_ i (d := dfD y x st) e
  have d0 : dV = .none := by
    rcases e4 with ⟨_, z⟩ | ⟨z, _⟩
    · exact z
    · exact absurd rfl z
  subst d0 e1
  exact ⟨_, oc, od, an, osl, kV, doc, pm, cdv, ct, g, e2, e3, kp⟩
theorem at_mkH {K : PySem.W.Frag} {h : Heap} {mg : Str → Option Value} {fa : List He.Fa} {fn : List He.DefD} {x : Str} {st : Stmt} (ps : List Str) (X : K.In h) (G : h.Ns mainGlobals mg) (c : He.SaysD fa fn K) (i : Nat) (e : fn[i]? = some (dfD x x st)) (ef : fa[i]? = some (.glo x))
    (b : ∀ (kV doc pm : Value) (an : Option Addr) (cdv ct : Value) (us : List Value), us.length = ps.length → bindArgs (PySem.W.fnOf x x (defArgs st) (defBody st) (defScope st) .none kV doc pm an cdv ct) ⟨us, []⟩ = pure (ps.zip us)) :
    At K mg x st ps :=
  let ⟨_, _, _, _, _, _, _, _, _, _, a, l, d, k⟩ := defD_at X G c i e ef
  at_mk ps X G a l d k b
theorem law_mkHD {P : Program} {w : World} {K : PySem.W.Frag} {h : Heap} {mg : Str → Option Value} {fas : List He.Fa} {fn : List He.DefD} {st : Stmt} {fa : Addr} {n : Nat}
    (X : K.In h) (G : h.Ns mainGlobals mg) (hfa : mg "law" = some (.ref fa)) (c : He.SaysD fas fn K) (i : Nat) (e : fn[i]? = some (dfD "law" "law" st)) (ef : fas[i]? = some (.glo "law"))
    (b : ∀ (kV doc pm : Value) (an : Option Addr) (cdv ct : Value) (s : Shared) (v : Value), BindsTo s (PySem.W.fnOf "law" "law" (defArgs st) (defBody st) (defScope st) .none kV doc pm an cdv ct) ⟨[v], []⟩ [("_law_script", v)])
    (H : ∀ (base : Heap) (f : Addr) (fd : FuncData), base.NoDigits → Fun K "law" "law" st f fd → FnG P w K mg base n f fd ["_law_script"] (spLaw K)) :
    ∃ fd : FuncData, (∀ (s : Shared) (v : Value), BindsTo s fd ⟨[v], []⟩ [("_law_script", v)]) ∧ ∀ base : Heap, K.In base → base.Ns mainGlobals mg → base.NoDigits → FnG P w K mg base n fa fd ["_law_script"] (spLaw K) :=
  let ⟨_, _, _, _, _, _, _, _, _, _, a, l, d, k⟩ := defD_at X G c i e ef
  law_mkD X G hfa a l d k (fun s v => b _ _ _ _ _ _ s v) H
theorem walk_ofDH {l : PySem.W.OpenLaw} {k : Nat} {q : Program} {loose : List Str} {XP : (Str → Option Value) → Heap → Prop} {d : DefRec} {fas : List He.Fa} {fn : List He.DefD} {ck : PySem.W.Frag → Bool} {x : Str}
    (hn : l.most = some 63) (hdf : d.params.defaults = []) (hr : Room k callerA)
    (F : ∀ (w : World) (K : PySem.W.Frag) (mg : Str → Option Value) (fa : Addr) (h : Heap), K.In h → h.Ns mainGlobals mg → mg d.name = some (.ref fa) → He.SaysD fas fn K → ck K = true →
      ∃ fd : FuncData, (∀ (s : Shared) (u : Value), BindsTo s fd ⟨[u], []⟩ [(x, u)]) ∧ ∀ base : Heap, K.In base → base.Ns mainGlobals mg → base.NoDigits → FnG l.prog w K mg base k fa fd [x] (spLaw K)) :
    PySem.W.WalkO q loose XP (hkM fas fn ck).says l.row.toRowW d [] fun f vs => PySem.call f vs := by
  refine Att.attach_call hn hdf fun w sw sx mg mb fa o pm cd doc a vs ns G Y ho hd hcd hmg hobj hints hlen hg => ?_
  obtain ⟨K, KI, c1, c2⟩ := Y
  have ⟨fd, hb, hF⟩ := F w K mg fa _ KI G.T.g hmg c1 c2
  exact law_callD KI G.T.g G.T.b G.T.builtins G.T.nolimit G.T.nodigits hg hobj hints (Nat.le_trans hlen (by decide)) hr hF hb fun H hS => ⟨a, ns, rfl, hS, hlen, fun _ => rfl⟩
end Gd
namespace Gd
open PySem PySem.Spec PyProof.Rows
theorem endG_ok {M : Nat} {p : Program} {w : World} {s0 : Shared} {s : PySem.W.SharedT} (h : endG (PySem.W.stepT (denote treeTable) p w) M p s0 = some s) :
    PySem.W.topRun treeTable p w s0.heap.objs.size (s0.heap.nsMap mainGlobals (Str.ofString "__annotations__")) M s0 (PySem.W.topStub p) = some s.abs := by
  unfold endG at h
  split at h
  · rename_i t n e
    rw [HandSHeadRun.frNat_eq] at h
    have q := HandSHeadRun.goF_ok h
    have eh := HandSHeadRun.putAll_heap e
    have en : s0.heap.objs.size = n := by rw [← eh]; exact PySem.W.absHeap_size _ _ _
    rw [en]
    have eb : (PySem.W.SharedT.mk t n s0.heap.life s0.gens s0.drawn s0.toks s0.os).abs = s0 := by
      unfold PySem.W.SharedT.abs
      rw [eh]
    rw [eb] at q
    exact q
  · cases h
theorem endG_eq (M : Nat) (p : Program) (w : World) (s0 : Shared) : endG (PySem.W.stepT (denote treeTable) p w) M p s0 = endG (HandSHeadRun.stepQ (HandSHeadRun.denQ HandSHeadRun.tabQ) p w) M p s0 := by
  rw [HandSHeadRun.stepQ_eq, HandSHeadRun.denQ_eq, HandSHeadRun.tabQ_eq]
theorem goI_ok {tb : String → Option Builtin} {p : Program} {w : World} : ∀ (m : Nat) (s s' : PySem.W.SharedT) (t : Thread), goI (PySem.W.stepT (denote tb) p w) m s t = some s' → importEnds tb p w m s.abs t = some s'.abs
  | 0, _, _, _, h => by cases h
  | m + 1, s, s', t, h => by
    unfold goI at h
    unfold importEnds
    split at h
    · rename_i e
      rw [e]
      cases h
      rfl
    · cases h
    · rename_i e
      rw [e]
      split at h
      · rename_i s2 t2 e2
        rw [HandSHeadRun.frS_eq] at h
        have q := PySem.W.stepT_spec e2
        show (match step (denote tb) p w s.abs t with | .go s' t' => importEnds tb p w m s' t' | .halt _ _ => none) = _
        rw [q]
        exact goI_ok m _ _ _ h
      · cases h
theorem openI_ok {N : Nat} {p : Program} {w : World} {s0 : Shared} (h : openI (PySem.W.stepT (denote treeTable) (PySem.W.opening p) w) N p = some s0) : PySem.W.fencedOpening treeTable p w N = some s0 := by
  obtain ⟨s, a, b⟩ := Option.bind_eq_some_iff.mp h
  have q := goI_ok _ _ _ _ a
  unfold PySem.W.fencedOpening
  have e : (PySem.W.SharedT.mk PySem.W.BT.nil 0 {} #[] {} 1 (start (PySem.W.opening p)).1.os).abs = (start (PySem.W.opening p)).1 := by
    unfold PySem.W.SharedT.abs PySem.start
    simp only [HandSHeadRun.abs_nil]
  rw [e] at q
  rw [q]
  exact b
theorem left_two {r : PySem.W.OpenRow} {q : Program} {H : PySem.W.Hook} {ob : PySem.W.SharedT → H.α} {N M : Nat} {loose : List Str} (ho : ∀ s, ob s = H.obs s.abs) (le : M ≤ N) (runA : ∀ w, RunA r q N M loose w) (runB : ∀ w, RunB r H ob N M w) :
    PySem.W.LeftO r.prog q loose (fun s => PySem.W.xlAt q [] s && PySem.W.recOk r.records s) (fun s => H.obs s) H.val N := fun w => by
  obtain ⟨⟨s0, s⟩, hr, hv⟩ := Option.map_eq_some_iff.mp (runA w)
  have l3 : ob s = H.val w := by
    have z := runB w
    unfold RunB at z
    rw [hr] at z
    injection z
  obtain ⟨l1, l2⟩ : ((s0.heap.isNs mainGlobals && s0.gens.size == 0) && HandSHeadRun.looksF r.prog s0.heap s.abs) = true ∧ HandSHeadRun.seenQ q loose (importedModules r.prog.main.body) (fun s => PySem.W.xlAt q [] s && PySem.W.recOk r.records s) s.abs = PySem.W.openGood q loose := by
    injection hv with h1 h2
    exact ⟨h1, h2⟩
  unfold runI at hr
  obtain ⟨s0', a, b⟩ := Option.bind_eq_some_iff.mp hr
  obtain ⟨s', hs, hz⟩ := Option.map_eq_some_iff.mp b
  cases hz
  rw [← endG_eq] at hs
  have a' : openI (PySem.W.stepT (denote treeTable) (PySem.W.opening r.prog) w) N r.prog = some s0 := by
    rw [HandSHeadRun.stepQ_eq, HandSHeadRun.denQ_eq, HandSHeadRun.tabQ_eq]
    exact a
  have a := openI_ok a'
  have t0 := endG_ok hs
  have t1 := PySem.W.topRun_mono (N - M) M _ _ _ t0
  rw [show M + (N - M) = N by omega] at t1
  rw [Bool.and_eq_true] at l1
  have l1' : (PySem.W.staticsOk (importedModules r.prog.main.body) s0.heap s.abs.heap && PySem.W.namesBound r.prog s.abs.heap && PySem.W.gensDone s.abs && PySem.W.laidKept s0.heap s.abs.heap) = true := l1.2
  have tt : PySem.W.topFrom treeTable r.prog w N s0 = some s.abs := by
    unfold PySem.W.topFrom
    rw [l1.1]
    show (PySem.W.topRun _ _ _ _ _ _ _ _).bind _ = _
    rw [t1]
    show (match _ with | true => _ | false => _) = _
    rw [l1']
  show Option.map _ (PySem.W.openEnds treeTable r.prog w N) = _
  unfold PySem.W.openEnds
  rw [a]
  show Option.map _ (PySem.W.topFrom treeTable r.prog w N s0) = _
  rw [tt]
  show some (PySem.W.openSeen q loose _ _ true s.abs, H.obs s.abs) = _
  rw [HandSHeadRun.seenQ_eq, l2, ← ho s, l3]
theorem head_two {r : PySem.W.OpenRow} {q : Program} {H : PySem.W.Hook} {ob : PySem.W.SharedT → H.α} {N M : Nat} {loose : List Str} {d : DefRec} {kwd : List (Str × Expr)} (ho : ∀ s, ob s = H.obs s.abs) (le : M ≤ N) (runA : ∀ w, RunA r q N M loose w) (runB : ∀ w, RunB r H ob N M w)
    (hdef : PySem.W.defOf q r.name = some (d, kwd)) (hp : r.prog.theDef r.name = some (d.params, d.body, d.scope)) (hk : PySem.W.kwWritten? d.params.kwonlyargs d.params.kw_defaults = some kwd)
    (hwr : (!r.writes || List.isEmpty r.records) = true) (k1 : r.wellSaid = true) (ok : (PySem.W.chainsOk q && PySem.W.opensWell r.prog && (PySem.W.frees r.toRowW && r.within.isEmpty)) = true) (hb : r.prog.bare) (hw : r.promised)
    (call : PySem.W.WalkO q loose (PySem.W.XL q []) H.says r.toRowW d kwd fun f vs => PySem.call f vs) : r.Holds :=
  PySem.W.holds_open (left_two ho le runA runB) H.of H.keeps (fun s z => PySem.W.xl_of s (Bool.and_eq_true_iff.mp z).left) PySem.W.XL.keeps hdef hp hk
    (fun s z => PySem.W.recFacts_of (Bool.and_eq_true_iff.mp z).right) hwr k1 ok hb hw call
end Gd
namespace K67
open PySem PySem.Spec PyProof.Rows L2 Gd Lw K67H
theorem all_mk {w : World} {K : PySem.W.Frag} {h : Heap} {mg : Str → Option Value} {fa : Addr} (X : K.In h) (G : h.Ns mainGlobals mg) (hfa : mg "law" = some (.ref fa)) (c : He.SaysD fas fn K) (kk : ck K = true) :
    ∃ fd : FuncData, (∀ (s : Shared) (v : Value), BindsTo s fd ⟨[v], []⟩ [("_law_script", v)]) ∧ ∀ base : Heap, K.In base → base.Ns mainGlobals mg → base.NoDigits → FnG PySem.Challenge.pw_nearestheld_k67_whole_no_span_is_less w K mg base 12 fa fd ["_law_script"] (spLaw K) := by
  have T_integer_power : At K mg "integer_power" s_integer_power ["base", "e"] := at_mkH ["base", "e"] X G c 0 rfl rfl (fun _ _ _ _ _ _ us hl => match us, hl with | [_, _], _ => rfl)
  have T_reduced : At K mg "reduced" s_reduced ["n", "d"] := at_mkH ["n", "d"] X G c 1 rfl rfl (fun _ _ _ _ _ _ us hl => match us, hl with | [_, _], _ => rfl)
  have T_added : At K mg "added" s_added ["one", "other"] := at_mkH ["one", "other"] X G c 2 rfl rfl (fun _ _ _ _ _ _ us hl => match us, hl with | [_, _], _ => rfl)
  have T_times : At K mg "times" s_times ["one", "other"] := at_mkH ["one", "other"] X G c 3 rfl rfl (fun _ _ _ _ _ _ us hl => match us, hl with | [_, _], _ => rfl)
  have T_size_of : At K mg "size_of" s_size_of ["one"] := at_mkH ["one"] X G c 4 rfl rfl (fun _ _ _ _ _ _ us hl => match us, hl with | [_], _ => rfl)
  have T_power_of : At K mg "power_of" s_power_of ["base", "e"] := at_mkH ["base", "e"] X G c 5 rfl rfl (fun _ _ _ _ _ _ us hl => match us, hl with | [_, _], _ => rfl)
  have T_compared : At K mg "compared" s_compared ["one", "other"] := at_mkH ["one", "other"] X G c 6 rfl rfl (fun _ _ _ _ _ _ us hl => match us, hl with | [_, _], _ => rfl)
  have T_sign_of_fraction : At K mg "sign_of_fraction" s_sign_of_fraction ["one"] := at_mkH ["one"] X G c 7 rfl rfl (fun _ _ _ _ _ _ us hl => match us, hl with | [_], _ => rfl)
  have T_part_of : At K mg "part_of" s_part_of ["left", "whole"] := at_mkH ["left", "whole"] X G c 8 rfl rfl (fun _ _ _ _ _ _ us hl => match us, hl with | [_, _], _ => rfl)
  have T_is_taken_outward : At K mg "is_taken_outward" s_is_taken_outward ["way", "s", "c", "part"] := at_mkH ["way", "s", "c", "part"] X G c 9 rfl rfl (fun _ _ _ _ _ _ us hl => match us, hl with | [_, _, _, _], _ => rfl)
  have T_power_below : At K mg "power_below" s_power_below ["base", "one"] := at_mkH ["base", "one"] X G c 10 rfl rfl (fun _ _ _ _ _ _ us hl => match us, hl with | [_, _], _ => rfl)
  have T_u_power_within : At K mg "_power_within" s_u_power_within ["base", "whole"] := at_mkH ["base", "whole"] X G c 11 rfl rfl (fun _ _ _ _ _ _ us hl => match us, hl with | [_, _], _ => rfl)
  have T_u_twos_in : At K mg "_twos_in" s_u_twos_in ["n"] := at_mkH ["n"] X G c 12 rfl rfl (fun _ _ _ _ _ _ us hl => match us, hl with | [_], _ => rfl)
  have T_reached : At K mg "reached" s_reached ["word", "reaches"] := at_mkH ["word", "reaches"] X G c 13 rfl rfl (fun _ _ _ _ _ _ us hl => match us, hl with | [_, _], _ => rfl)
  have T_products : At K mg "products" s_products ["one", "other"] := at_mkH ["one", "other"] X G c 14 rfl rfl (fun _ _ _ _ _ _ us hl => match us, hl with | [_, _], _ => rfl)
  have T_least_of : At K mg "least_of" s_least_of ["ends"] := at_mkH ["ends"] X G c 15 rfl rfl (fun _ _ _ _ _ _ us hl => match us, hl with | [_], _ => rfl)
  have T_greatest_of : At K mg "greatest_of" s_greatest_of ["ends"] := at_mkH ["ends"] X G c 16 rfl rfl (fun _ _ _ _ _ _ us hl => match us, hl with | [_], _ => rfl)
  have T_is_point : At K mg "is_point" s_is_point ["reach"] := at_mkH ["reach"] X G c 17 rfl rfl (fun _ _ _ _ _ _ us hl => match us, hl with | [_], _ => rfl)
  have T_u_is_less : At K mg "_is_less" s_u_is_less ["x", "y"] := at_mkH ["x", "y"] X G c 18 rfl rfl (fun _ _ _ _ _ _ us hl => match us, hl with | [_, _], _ => rfl)
  have T_u_ends : At K mg "_ends" s_u_ends ["reach"] := at_mkH ["reach"] X G c 19 rfl rfl (fun _ _ _ _ _ _ us hl => match us, hl with | [_], _ => rfl)
  have T_u_sums : At K mg "_sums" s_u_sums ["one", "other"] := at_mkH ["one", "other"] X G c 20 rfl rfl (fun _ _ _ _ _ _ us hl => match us, hl with | [_, _], _ => rfl)
  have T_u_sum : At K mg "_sum" s_u_sum ["x", "y"] := at_mkH ["x", "y"] X G c 21 rfl rfl (fun _ _ _ _ _ _ us hl => match us, hl with | [_, _], _ => rfl)
  have T_u_product : At K mg "_product" s_u_product ["x", "y"] := at_mkH ["x", "y"] X G c 22 rfl rfl (fun _ _ _ _ _ _ us hl => match us, hl with | [_, _], _ => rfl)
  have T_u_opposites : At K mg "_opposites" s_u_opposites ["reach"] := at_mkH ["reach"] X G c 23 rfl rfl (fun _ _ _ _ _ _ us hl => match us, hl with | [_], _ => rfl)
  have T_u_sizes : At K mg "_sizes" s_u_sizes ["reach"] := at_mkH ["reach"] X G c 24 rfl rfl (fun _ _ _ _ _ _ us hl => match us, hl with | [_], _ => rfl)
  have T_worth : At K mg "worth" s_worth ["form", "number"] := at_mkH ["form", "number"] X G c 25 rfl rfl (fun _ _ _ _ _ _ us hl => match us, hl with | [_, _], _ => rfl)
  have T_zero : At K mg "zero" s_zero ["form", "s"] := at_mkH ["form", "s"] X G c 26 rfl rfl (fun _ _ _ _ _ _ us hl => match us, hl with | [_, _], _ => rfl)
  have T_is_finite : At K mg "is_finite" s_is_finite ["value"] := at_mkH ["value"] X G c 27 rfl rfl (fun _ _ _ _ _ _ us hl => match us, hl with | [_], _ => rfl)
  have T_is_zero : At K mg "is_zero" s_is_zero ["value"] := at_mkH ["value"] X G c 28 rfl rfl (fun _ _ _ _ _ _ us hl => match us, hl with | [_], _ => rfl)
  have T_rounded : At K mg "rounded" s_rounded ["form", "way", "x", "s"] := at_mkH ["form", "way", "x", "s"] X G c 29 rfl rfl (fun _ _ _ _ _ _ us hl => match us, hl with | [_, _, _, _], _ => rfl)
  have T_u_spot : At K mg "_spot" s_u_spot ["form", "unsigned"] := at_mkH ["form", "unsigned"] X G c 30 rfl rfl (fun _ _ _ _ _ _ us hl => match us, hl with | [_, _], _ => rfl)
  have T_u_nearest : At K mg "_nearest" s_u_nearest ["form", "way", "s", "spot"] := at_mkH ["form", "way", "s", "spot"] X G c 31 rfl rfl (fun _ _ _ _ _ _ us hl => match us, hl with | [_, _, _, _], _ => rfl)
  have T_u_outcome : At K mg "_outcome" s_u_outcome ["form", "way", "s", "spot"] := at_mkH ["form", "way", "s", "spot"] X G c 32 rfl rfl (fun _ _ _ _ _ _ us hl => match us, hl with | [_, _, _, _], _ => rfl)
  have T_u_too_great : At K mg "_too_great" s_u_too_great ["form", "way", "s"] := at_mkH ["form", "way", "s"] X G c 33 rfl rfl (fun _ _ _ _ _ _ us hl => match us, hl with | [_, _, _], _ => rfl)
  have T_low_end : At K mg "low_end" s_low_end ["form", "x"] := at_mkH ["form", "x"] X G c 34 rfl rfl (fun _ _ _ _ _ _ us hl => match us, hl with | [_, _], _ => rfl)
  have T_high_end : At K mg "high_end" s_high_end ["form", "x"] := at_mkH ["form", "x"] X G c 35 rfl rfl (fun _ _ _ _ _ _ us hl => match us, hl with | [_, _], _ => rfl)
  have T_span_result : At K mg "span_result" s_span_result ["form", "word", "spans"] := at_mkH ["form", "word", "spans"] X G c 36 rfl rfl (fun _ _ _ _ _ _ us hl => match us, hl with | [_, _, _], _ => rfl)
  have T_u_reach_of : At K mg "_reach_of" s_u_reach_of ["form", "one"] := at_mkH ["form", "one"] X G c 37 rfl rfl (fun _ _ _ _ _ _ us hl => match us, hl with | [_, _], _ => rfl)
  have T_u_least_span : At K mg "_least_span" s_u_least_span ["form", "reach"] := at_mkH ["form", "reach"] X G c 38 rfl rfl (fun _ _ _ _ _ _ us hl => match us, hl with | [_, _], _ => rfl)
  have T_l_bag : At K mg "_law_bag" s_l_bag ["_law_script"] := at_mkH ["_law_script"] X G c 39 rfl rfl (fun _ _ _ _ _ _ us hl => match us, hl with | [_], _ => rfl)
  have T_l_take : At K mg "_law_take" s_l_take ["_law_bag_here", "_law_many"] := at_mkH ["_law_bag_here", "_law_many"] X G c 40 rfl rfl (fun _ _ _ _ _ _ us hl => match us, hl with | [_, _], _ => rfl)
  have T_l_some : At K mg "_law_some" s_l_some ["_law_bag_here", "_law_things"] := at_mkH ["_law_bag_here", "_law_things"] X G c 41 rfl rfl (fun _ _ _ _ _ _ us hl => match us, hl with | [_, _], _ => rfl)
  have T_l_alike : At K mg "_law_alike" s_l_alike ["_law_found", "_law_due"] := at_mkH ["_law_found", "_law_due"] X G c 42 rfl rfl (fun _ _ _ _ _ _ us hl => match us, hl with | [_, _], _ => rfl)
  have T_l_common : At K mg "_law_common" s_l_common ["_law_one", "_law_other"] := at_mkH ["_law_one", "_law_other"] X G c 43 rfl rfl (fun _ _ _ _ _ _ us hl => match us, hl with | [_, _], _ => rfl)
  have T_l_to : At K mg "_law_to" s_l_to ["_law_base", "_law_n"] := at_mkH ["_law_base", "_law_n"] X G c 44 rfl rfl (fun _ _ _ _ _ _ us hl => match us, hl with | [_, _], _ => rfl)
  have T_l_over : At K mg "_law_over" s_l_over ["_law_n", "_law_d"] := at_mkH ["_law_n", "_law_d"] X G c 45 rfl rfl (fun _ _ _ _ _ _ us hl => match us, hl with | [_, _], _ => rfl)
  have T_l_added : At K mg "_law_added" s_l_added ["_law_x", "_law_y"] := at_mkH ["_law_x", "_law_y"] X G c 46 rfl rfl (fun _ _ _ _ _ _ us hl => match us, hl with | [_, _], _ => rfl)
  have T_l_lessened : At K mg "_law_lessened" s_l_lessened ["_law_x", "_law_y"] := at_mkH ["_law_x", "_law_y"] X G c 47 rfl rfl (fun _ _ _ _ _ _ us hl => match us, hl with | [_, _], _ => rfl)
  have T_l_multiplied : At K mg "_law_multiplied" s_l_multiplied ["_law_x", "_law_y"] := at_mkH ["_law_x", "_law_y"] X G c 48 rfl rfl (fun _ _ _ _ _ _ us hl => match us, hl with | [_, _], _ => rfl)
  have T_l_divided : At K mg "_law_divided" s_l_divided ["_law_x", "_law_y"] := at_mkH ["_law_x", "_law_y"] X G c 49 rfl rfl (fun _ _ _ _ _ _ us hl => match us, hl with | [_, _], _ => rfl)
  have T_l_is_below : At K mg "_law_is_below" s_l_is_below ["_law_x", "_law_y"] := at_mkH ["_law_x", "_law_y"] X G c 50 rfl rfl (fun _ _ _ _ _ _ us hl => match us, hl with | [_, _], _ => rfl)
  have T_l_sized : At K mg "_law_sized" s_l_sized ["_law_x"] := at_mkH ["_law_x"] X G c 51 rfl rfl (fun _ _ _ _ _ _ us hl => match us, hl with | [_], _ => rfl)
  have T_l_power : At K mg "_law_power" s_l_power ["_law_base", "_law_e"] := at_mkH ["_law_base", "_law_e"] X G c 52 rfl rfl (fun _ _ _ _ _ _ us hl => match us, hl with | [_, _], _ => rfl)
  have T_l_worth : At K mg "_law_worth" s_l_worth ["_law_form", "_law_number"] := at_mkH ["_law_form", "_law_number"] X G c 53 rfl rfl (fun _ _ _ _ _ _ us hl => match us, hl with | [_, _], _ => rfl)
  have T_l_formats : At K mg "_law_formats" s_l_formats ["_law_bag_here"] := at_mkH ["_law_bag_here"] X G c 54 rfl rfl (fun _ _ _ _ _ _ us hl => match us, hl with | [_], _ => rfl)
  have T_l_grid : At K mg "_law_grid" s_l_grid ["_law_form", "_law_x"] := at_mkH ["_law_form", "_law_x"] X G c 55 rfl rfl (fun _ _ _ _ _ _ us hl => match us, hl with | [_, _], _ => rfl)
  have T_l_neighbours : At K mg "_law_neighbours" s_l_neighbours ["_law_form", "_law_x"] := at_mkH ["_law_form", "_law_x"] X G c 56 rfl rfl (fun _ _ _ _ _ _ us hl => match us, hl with | [_, _], _ => rfl)
  have T_l_greatest : At K mg "_law_greatest" s_l_greatest ["_law_form"] := at_mkH ["_law_form"] X G c 57 rfl rfl (fun _ _ _ _ _ _ us hl => match us, hl with | [_], _ => rfl)
  have T_l_normal : At K mg "_law_normal" s_l_normal ["_law_form"] := at_mkH ["_law_form"] X G c 58 rfl rfl (fun _ _ _ _ _ _ us hl => match us, hl with | [_], _ => rfl)
  have T_l_nearer : At K mg "_law_nearer" s_l_nearer ["_law_way", "_law_x", "_law_lower", "_law_upper", "_law_c"] := at_mkH ["_law_way", "_law_x", "_law_lower", "_law_upper", "_law_c"] X G c 59 rfl rfl (fun _ _ _ _ _ _ us hl => match us, hl with | [_, _, _, _, _], _ => rfl)
  have T_l_form_of : At K mg "_law_form_of" s_l_form_of ["_law_form", "_law_s", "_law_worth_here"] := at_mkH ["_law_form", "_law_s", "_law_worth_here"] X G c 60 rfl rfl (fun _ _ _ _ _ _ us hl => match us, hl with | [_, _, _], _ => rfl)
  have T_l_rounded : At K mg "_law_rounded" s_l_rounded ["_law_form", "_law_way", "_law_x", "_law_s"] := at_mkH ["_law_form", "_law_way", "_law_x", "_law_s"] X G c 61 rfl rfl (fun _ _ _ _ _ _ us hl => match us, hl with | [_, _, _, _], _ => rfl)
  have T_l_true_step : At K mg "_law_true_step" s_l_true_step ["_law_step", "_law_found", "_law_inputs"] := at_mkH ["_law_step", "_law_found", "_law_inputs"] X G c 62 rfl rfl (fun _ _ _ _ _ _ us hl => match us, hl with | [_, _, _], _ => rfl)
  have T_l_placed : At K mg "_law_placed" s_l_placed ["_law_value"] := at_mkH ["_law_value"] X G c 63 rfl rfl (fun _ _ _ _ _ _ us hl => match us, hl with | [_], _ => rfl)
  have T_l_does_hold : At K mg "_law_does_hold" s_l_does_hold ["_law_form", "_law_span", "_law_x"] := at_mkH ["_law_form", "_law_span", "_law_x"] X G c 64 rfl rfl (fun _ _ _ _ _ _ us hl => match us, hl with | [_, _, _], _ => rfl)
  have T_l_some_within : At K mg "_law_some_within" s_l_some_within ["_law_bag_here", "_law_form", "_law_span"] := at_mkH ["_law_bag_here", "_law_form", "_law_span"] X G c 65 rfl rfl (fun _ _ _ _ _ _ us hl => match us, hl with | [_, _, _], _ => rfl)
  have T_l_wide_below : At K mg "_law_wide_below" s_l_wide_below ["_law_x", "_law_y"] := at_mkH ["_law_x", "_law_y"] X G c 66 rfl rfl (fun _ _ _ _ _ _ us hl => match us, hl with | [_, _], _ => rfl)
  have T_l_both_ends : At K mg "_law_both_ends" s_l_both_ends ["_law_some_here"] := at_mkH ["_law_some_here"] X G c 67 rfl rfl (fun _ _ _ _ _ _ us hl => match us, hl with | [_], _ => rfl)
  have T_l_least_span : At K mg "_law_least_span" s_l_least_span ["_law_form", "_law_ends"] := at_mkH ["_law_form", "_law_ends"] X G c 68 rfl rfl (fun _ _ _ _ _ _ us hl => match us, hl with | [_, _], _ => rfl)
  have T_l_rank : At K mg "_law_rank" s_l_rank ["_law_form", "_law_value"] := at_mkH ["_law_form", "_law_value"] X G c 69 rfl rfl (fun _ _ _ _ _ _ us hl => match us, hl with | [_, _], _ => rfl)
  have T_l_ranked : At K mg "_law_ranked" s_l_ranked ["_law_form", "_law_rank_here"] := at_mkH ["_law_form", "_law_rank_here"] X G c 70 rfl rfl (fun _ _ _ _ _ _ us hl => match us, hl with | [_, _], _ => rfl)
  have T_l_few : At K mg "_law_few" s_l_few ["_law_bag_here", "_law_form"] := at_mkH ["_law_bag_here", "_law_form"] X G c 71 rfl rfl (fun _ _ _ _ _ _ us hl => match us, hl with | [_, _], _ => rfl)
  have T_l_all_in : At K mg "_law_all_in" s_l_all_in ["_law_form", "_law_span"] := at_mkH ["_law_form", "_law_span"] X G c 72 rfl rfl (fun _ _ _ _ _ _ us hl => match us, hl with | [_, _], _ => rfl)
  have m_abs : mg "abs" = none := He.free_ok X G (c.fact 74 (f := .free "abs") rfl)
  have m_any : mg "any" = none := He.free_ok X G (c.fact 75 (f := .free "any") rfl)
  have m_divmod : mg "divmod" = none := He.free_ok X G (c.fact 76 (f := .free "divmod") rfl)
  have m_int : mg "int" = none := He.free_ok X G (c.fact 77 (f := .free "int") rfl)
  have m_len : mg "len" = none := He.free_ok X G (c.fact 78 (f := .free "len") rfl)
  have m_max : mg "max" = none := He.free_ok X G (c.fact 79 (f := .free "max") rfl)
  have m_min : mg "min" = none := He.free_ok X G (c.fact 80 (f := .free "min") rfl)
  have m_range : mg "range" = none := He.free_ok X G (c.fact 81 (f := .free "range") rfl)
  have m_repr : mg "repr" = none := He.free_ok X G (c.fact 82 (f := .free "repr") rfl)
  have m_rev : mg "reversed" = none := He.free_ok X G (c.fact 83 (f := .free "reversed") rfl)
  have m_set : mg "set" = none := He.free_ok X G (c.fact 84 (f := .free "set") rfl)
  have m_sorted : mg "sorted" = none := He.free_ok X G (c.fact 85 (f := .free "sorted") rfl)
  have m_tuple : mg "tuple" = none := He.free_ok X G (c.fact 86 (f := .free "tuple") rfl)
  have m_gcd : mg "gcd" = some (.builtin "math.gcd") := ckM_blt X G kk 0 rfl
  have g_none : Glob K mg "NO_NUMBERS" noneP := ckM_glob X G kk 0 rfl
  have g_bottom : Glob K mg "BOTTOM" (Va.inf 1).d := ckM_glob X G kk 1 rfl
  have g_top : Glob K mg "TOP" (Va.inf 0).d := ckM_glob X G kk 2 rfl
  have g_nolow : Glob K mg "NO_LOW" Xe.lo.d := ckM_glob X G kk 3 rfl
  have g_nohigh : Glob K mg "NO_HIGH" Xe.hi.d := ckM_glob X G kk 4 rfl
  refine law_mkHD (st := s_law) (n := 12) X G hfa c 73 rfl rfl (fun _ _ _ _ _ _ _ _ => .of_eq rfl) (fun base f fd nd F => ?_)
  have c_l_take := c_of_l_take (P := PySem.Challenge.pw_nearestheld_k67_whole_no_span_is_less) (w := w) (base := base) m_int T_l_take
  have c_l_some := c_of_l_some (P := PySem.Challenge.pw_nearestheld_k67_whole_no_span_is_less) (w := w) (base := base) m_len c_l_take T_l_some
  have c_l_formats := c_of_l_formats (P := PySem.Challenge.pw_nearestheld_k67_whole_no_span_is_less) (w := w) (base := base) c_l_some T_l_formats
  have c_is_finite := c_of_is_finite (P := PySem.Challenge.pw_nearestheld_k67_whole_no_span_is_less) (w := w) (base := base) T_is_finite
  have c_u_twos_in := c_of_u_twos_in (P := PySem.Challenge.pw_nearestheld_k67_whole_no_span_is_less) (w := w) (base := base) T_u_twos_in
  have c_reduced := c_of_reduced (P := PySem.Challenge.pw_nearestheld_k67_whole_no_span_is_less) (w := w) (base := base) m_gcd m_min c_u_twos_in T_reduced
  have c_times := c_of_times (P := PySem.Challenge.pw_nearestheld_k67_whole_no_span_is_less) (w := w) (base := base) c_reduced T_times
  have c_integer_power := c_of_integer_power (P := PySem.Challenge.pw_nearestheld_k67_whole_no_span_is_less) (w := w) (base := base) T_integer_power
  have c_power_of := c_of_power_of (P := PySem.Challenge.pw_nearestheld_k67_whole_no_span_is_less) (w := w) (base := base) c_integer_power T_power_of
  have c_worth := c_of_worth (P := PySem.Challenge.pw_nearestheld_k67_whole_no_span_is_less) (w := w) (base := base) c_times c_power_of T_worth
  have c_u_reach_of := c_of_u_reach_of (P := PySem.Challenge.pw_nearestheld_k67_whole_no_span_is_less) (w := w) (base := base) g_nohigh g_nolow c_is_finite c_worth T_u_reach_of
  have c_added := c_of_added (P := PySem.Challenge.pw_nearestheld_k67_whole_no_span_is_less) (w := w) (base := base) m_gcd c_reduced T_added
  have c_u_sum := c_of_u_sum (P := PySem.Challenge.pw_nearestheld_k67_whole_no_span_is_less) (w := w) (base := base) c_added T_u_sum
  have c_is_point := c_of_is_point (P := PySem.Challenge.pw_nearestheld_k67_whole_no_span_is_less) (w := w) (base := base) T_is_point
  have c_u_sums := c_of_u_sums (P := PySem.Challenge.pw_nearestheld_k67_whole_no_span_is_less) (w := w) (base := base) c_u_sum c_is_point T_u_sums
  have c_u_opposites := c_of_u_opposites (P := PySem.Challenge.pw_nearestheld_k67_whole_no_span_is_less) (w := w) (base := base) T_u_opposites
  have c_u_ends := c_of_u_ends (P := PySem.Challenge.pw_nearestheld_k67_whole_no_span_is_less) (w := w) (base := base) c_is_point T_u_ends
  have c_compared_x := c_of_compared_x (P := PySem.Challenge.pw_nearestheld_k67_whole_no_span_is_less) (w := w) (base := base) T_compared
  have c_u_is_less := c_of_u_is_less (P := PySem.Challenge.pw_nearestheld_k67_whole_no_span_is_less) (w := w) (base := base) c_compared_x T_u_is_less
  have c_least_of := c_of_least_of (P := PySem.Challenge.pw_nearestheld_k67_whole_no_span_is_less) (w := w) (base := base) c_u_is_less T_least_of
  have c_greatest_of := c_of_greatest_of (P := PySem.Challenge.pw_nearestheld_k67_whole_no_span_is_less) (w := w) (base := base) c_u_is_less T_greatest_of
  have c_u_product := c_of_u_product (P := PySem.Challenge.pw_nearestheld_k67_whole_no_span_is_less) (w := w) (base := base) g_nohigh g_nolow c_times T_u_product
  have c_products := c_of_products (P := PySem.Challenge.pw_nearestheld_k67_whole_no_span_is_less) (w := w) (base := base) c_u_ends c_least_of c_greatest_of c_u_product T_products
  have c_u_sizes := c_of_u_sizes (P := PySem.Challenge.pw_nearestheld_k67_whole_no_span_is_less) (w := w) (base := base) c_greatest_of c_u_opposites T_u_sizes
  have c_reached := c_of_reached (P := PySem.Challenge.pw_nearestheld_k67_whole_no_span_is_less) (w := w) (base := base) c_u_sums c_u_opposites c_products c_u_sizes c_least_of c_greatest_of T_reached
  have c_zero := c_of_zero (P := PySem.Challenge.pw_nearestheld_k67_whole_no_span_is_less) (w := w) (base := base) T_zero
  have c_is_taken_outward := c_of_is_taken_outward (P := PySem.Challenge.pw_nearestheld_k67_whole_no_span_is_less) (w := w) (base := base) T_is_taken_outward
  have c_u_nearest := c_of_u_nearest (P := PySem.Challenge.pw_nearestheld_k67_whole_no_span_is_less) (w := w) (base := base) c_is_taken_outward c_integer_power T_u_nearest
  have c_u_too_great := c_of_u_too_great (P := PySem.Challenge.pw_nearestheld_k67_whole_no_span_is_less) (w := w) (base := base) c_integer_power T_u_too_great
  have c_u_outcome := c_of_u_outcome (P := PySem.Challenge.pw_nearestheld_k67_whole_no_span_is_less) (w := w) (base := base) c_u_nearest c_u_too_great c_integer_power T_u_outcome
  have c_sign_of_fraction := c_of_sign_of_fraction (P := PySem.Challenge.pw_nearestheld_k67_whole_no_span_is_less) (w := w) (base := base) T_sign_of_fraction
  have c_u_power_within := c_of_u_power_within (P := PySem.Challenge.pw_nearestheld_k67_whole_no_span_is_less) (w := w) (base := base) m_rev T_u_power_within
  have c_power_below := c_of_power_below (P := PySem.Challenge.pw_nearestheld_k67_whole_no_span_is_less) (w := w) (base := base) c_u_power_within T_power_below
  have c_part_of := c_of_part_of (P := PySem.Challenge.pw_nearestheld_k67_whole_no_span_is_less) (w := w) (base := base) T_part_of
  have c_u_spot := c_of_u_spot (P := PySem.Challenge.pw_nearestheld_k67_whole_no_span_is_less) (w := w) (base := base) m_max m_divmod c_power_below c_power_of c_part_of T_u_spot
  have c_size_of := c_of_size_of (P := PySem.Challenge.pw_nearestheld_k67_whole_no_span_is_less) (w := w) (base := base) m_abs T_size_of
  have c_rounded := c_of_rounded (P := PySem.Challenge.pw_nearestheld_k67_whole_no_span_is_less) (w := w) (base := base) c_zero c_u_outcome c_sign_of_fraction c_u_spot c_size_of T_rounded
  have c_low_end := c_of_low_end (P := PySem.Challenge.pw_nearestheld_k67_whole_no_span_is_less) (w := w) (base := base) c_rounded T_low_end
  have c_is_zero := c_of_is_zero (P := PySem.Challenge.pw_nearestheld_k67_whole_no_span_is_less) (w := w) (base := base) c_is_finite T_is_zero
  have c_high_end := c_of_high_end (P := PySem.Challenge.pw_nearestheld_k67_whole_no_span_is_less) (w := w) (base := base) c_rounded c_is_zero c_zero T_high_end
  have c_u_least_span := c_of_u_least_span (P := PySem.Challenge.pw_nearestheld_k67_whole_no_span_is_less) (w := w) (base := base) g_nohigh g_nolow g_bottom g_top c_low_end c_high_end T_u_least_span
  have c_span_result := c_of_span_result (P := PySem.Challenge.pw_nearestheld_k67_whole_no_span_is_less) (w := w) (base := base) m_any g_none c_u_reach_of c_reached c_u_least_span T_span_result
  have c_l_to := c_of_l_to (P := PySem.Challenge.pw_nearestheld_k67_whole_no_span_is_less) (w := w) (base := base) m_int T_l_to
  have c_l_rank := c_of_l_rank (P := PySem.Challenge.pw_nearestheld_k67_whole_no_span_is_less) (w := w) (base := base) c_l_to T_l_rank
  have c_l_common := c_of_l_common (P := PySem.Challenge.pw_nearestheld_k67_whole_no_span_is_less) (w := w) (base := base) m_abs m_int T_l_common
  have c_l_over := c_of_l_over (P := PySem.Challenge.pw_nearestheld_k67_whole_no_span_is_less) (w := w) (base := base) m_int c_l_common T_l_over
  have c_l_multiplied := c_of_l_multiplied (P := PySem.Challenge.pw_nearestheld_k67_whole_no_span_is_less) (w := w) (base := base) c_l_over T_l_multiplied
  have c_l_power := c_of_l_power (P := PySem.Challenge.pw_nearestheld_k67_whole_no_span_is_less) (w := w) (base := base) c_l_to T_l_power
  have c_l_worth := c_of_l_worth (P := PySem.Challenge.pw_nearestheld_k67_whole_no_span_is_less) (w := w) (base := base) c_l_multiplied c_l_power T_l_worth
  have c_l_ranked := c_of_l_ranked (P := PySem.Challenge.pw_nearestheld_k67_whole_no_span_is_less) (w := w) (base := base) m_int m_abs c_l_rank c_l_to T_l_ranked
  have c_l_all_in := c_of_l_all_in (P := PySem.Challenge.pw_nearestheld_k67_whole_no_span_is_less) (w := w) (base := base) m_range c_l_rank c_l_worth c_l_ranked T_l_all_in
  have c_l_is_below := c_of_l_is_below (P := PySem.Challenge.pw_nearestheld_k67_whole_no_span_is_less) (w := w) (base := base) T_l_is_below
  have c_l_wide_below_x := c_of_l_wide_below_x (P := PySem.Challenge.pw_nearestheld_k67_whole_no_span_is_less) (w := w) (base := base) c_l_is_below T_l_wide_below
  have c_l_both_ends := c_of_l_both_ends (P := PySem.Challenge.pw_nearestheld_k67_whole_no_span_is_less) (w := w) (base := base) c_l_wide_below_x T_l_both_ends
  have c_l_alike := c_of_l_alike (P := PySem.Challenge.pw_nearestheld_k67_whole_no_span_is_less) (w := w) (base := base) nd m_repr T_l_alike
  have c_l_sized := c_of_l_sized (P := PySem.Challenge.pw_nearestheld_k67_whole_no_span_is_less) (w := w) (base := base) m_abs T_l_sized
  have c_l_grid := c_of_l_grid (P := PySem.Challenge.pw_nearestheld_k67_whole_no_span_is_less) (w := w) (base := base) m_int m_max c_l_to T_l_grid
  have c_l_neighbours := c_of_l_neighbours (P := PySem.Challenge.pw_nearestheld_k67_whole_no_span_is_less) (w := w) (base := base) c_l_grid c_l_power c_l_multiplied T_l_neighbours
  have c_l_lessened := c_of_l_lessened (P := PySem.Challenge.pw_nearestheld_k67_whole_no_span_is_less) (w := w) (base := base) c_l_over T_l_lessened
  have c_l_nearer := c_of_l_nearer (P := PySem.Challenge.pw_nearestheld_k67_whole_no_span_is_less) (w := w) (base := base) m_int c_l_lessened c_l_is_below T_l_nearer
  have c_l_normal := c_of_l_normal (P := PySem.Challenge.pw_nearestheld_k67_whole_no_span_is_less) (w := w) (base := base) c_l_power T_l_normal
  have c_l_greatest := c_of_l_greatest (P := PySem.Challenge.pw_nearestheld_k67_whole_no_span_is_less) (w := w) (base := base) c_l_to c_l_power c_l_multiplied T_l_greatest
  have c_l_form_of := c_of_l_form_of (P := PySem.Challenge.pw_nearestheld_k67_whole_no_span_is_less) (w := w) (base := base) c_l_grid T_l_form_of
  have c_l_rounded := c_of_l_rounded (P := PySem.Challenge.pw_nearestheld_k67_whole_no_span_is_less) (w := w) (base := base) m_int m_tuple m_sorted m_set c_l_sized c_l_neighbours c_l_nearer c_l_is_below c_l_normal c_l_greatest c_l_form_of T_l_rounded
  have c_l_placed_v := c_of_l_placed_v (P := PySem.Challenge.pw_nearestheld_k67_whole_no_span_is_less) (w := w) (base := base) T_l_placed
  have c_l_least_span := c_of_l_least_span (P := PySem.Challenge.pw_nearestheld_k67_whole_no_span_is_less) (w := w) (base := base) c_l_rounded c_l_placed_v T_l_least_span
  have c_l_does_hold := c_of_l_does_hold (P := PySem.Challenge.pw_nearestheld_k67_whole_no_span_is_less) (w := w) (base := base) c_l_is_below c_l_worth T_l_does_hold
  have c_l_added := c_of_l_added (P := PySem.Challenge.pw_nearestheld_k67_whole_no_span_is_less) (w := w) (base := base) c_l_over T_l_added
  have c_l_divided := c_of_l_divided (P := PySem.Challenge.pw_nearestheld_k67_whole_no_span_is_less) (w := w) (base := base) c_l_over T_l_divided
  have c_l_true_step_t := c_of_l_true_step_t (P := PySem.Challenge.pw_nearestheld_k67_whole_no_span_is_less) (w := w) (base := base) c_l_is_below c_l_sized c_l_added c_l_lessened c_l_multiplied c_l_divided T_l_true_step
  have c_l_bag := c_of_l_bag (P := PySem.Challenge.pw_nearestheld_k67_whole_no_span_is_less) (w := w) (base := base) m_abs T_l_bag
  have c_l_few := c_of_l_few (P := PySem.Challenge.pw_nearestheld_k67_whole_no_span_is_less) (w := w) (base := base) m_min c_l_rank c_l_take c_l_ranked T_l_few
  have c_l_some_within := c_of_l_some_within (P := PySem.Challenge.pw_nearestheld_k67_whole_no_span_is_less) (w := w) (base := base) c_l_multiplied c_l_greatest c_l_some c_l_worth c_l_lessened c_l_added T_l_some_within
  exact ok_law m_range m_tuple m_len c_l_formats c_l_some c_span_result c_l_all_in c_l_both_ends c_l_alike c_l_least_span c_l_does_hold c_l_true_step_t c_l_bag c_l_few c_l_some_within F
end K67
open PySem PySem.W PySem.Calls PyProof.Rows
set_option maxRecDepth 100000 in
set_option maxHeartbeats 0 in
theorem PySem.Challenge.cw_nearestheld_k67_whole_no_span_is_less_holds : PySem.Challenge.rw_nearestheld_k67_whole_no_span_is_less.Holds := by
  w_on; o_law
  refine Gd.head_two (r := OpenLaw.row PySem.Challenge.rw_nearestheld_k67_whole_no_span_is_less) (q := view (OpenLaw.row PySem.Challenge.rw_nearestheld_k67_whole_no_span_is_less).prog [97]) (H := Gd.hkM K67H.fas K67H.fn K67H.ck) (ob := Gd.obM K67H.fas K67H.fn K67H.ck) (N := 8000) (M := 8000) (loose := K67H.loose) (d := HandSHeadRun.topDef (OpenLaw.row PySem.Challenge.rw_nearestheld_k67_whole_no_span_is_less).prog 97) (kwd := []) Gd.obM_eq (Nat.le_refl _)
    K67H.runA K67H.runB (by kernel_rfl) (by kernel_rfl) (by kernel_rfl) (by rfl) (by first | assumption | decide +kernel) (by decide +kernel) ⟨rfl, rfl, rfl, rfl, rfl, by decide +kernel⟩ ?hw ?hc
  case hw => w_witness2
  case hc =>
    refine Gd.walk_ofDH (l := PySem.Challenge.rw_nearestheld_k67_whole_no_span_is_less) (k := 12) (x := "_law_script") (ck := K67H.ck) (fas := K67H.fas) (fn := K67H.fn) rfl rfl ⟨rfl, by decide, by decide⟩ ?F
    intro w K mg fa h KX G hmg c kk
    have hl : mg ("law" : PySem.Str) = some (.ref fa) := by
      have e : (HandSHeadRun.topDef (OpenLaw.row PySem.Challenge.rw_nearestheld_k67_whole_no_span_is_less).prog 97).name = ("law" : PySem.Str) := by kernel_rfl
      rw [← e]
      exact hmg
    exact K67.all_mk KX G hl c kk
