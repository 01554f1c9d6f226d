import PyProof.Rows.All
import Wide.All
import OpenK.AllK
import Wide.FinOn
import HandS.ForMost
import HandS.Head0
import HandS.Head1
import HandS.Head2
import HandS.HeadEnd
import HandS.HeadHook1
import HandS.HeadHook2
import HandS.Wide
import HandS.WideBits
import HandS.Gcd
import HandS.TupAny
import HandS.Flow
import HandS.Set
import HandS.SetFor
import HandS.Strs
import HandS.Rev
import HandS.Style
import HandS.TryOnly
import HandS.RaiseMore
import HandS.Deep
import HandS.TupMul
import HandS.Flt
import HandS.Zip
import HandS.IsInst
import HandS.Dict
import KE.KBits
import KE.DataMinMax
import HandS.SortKw
import HandS.More
import KE.GoesEnum
import HandS.Walk
import PyProof.ToksMono
import KE.DataMinKey
import KE.KMathG
import Flt.RightSqrt
import HandS.TupLe
import HandS.Comp
import HandS.CallLocal
import PyProof.AutoSeq1
import HandS.Star
import HandS.IterVal
import HandS.Conv
import KE.KRevSl
import HandS.DictTup
import HandS.Text
import KE.KDictDisplayH
import PyProof.TupleOfSeq
import KE.SortData
import KE.SortKeyHeap
import KE.KSortKey
import HandS.List
import PySem.Challenge.RW_nearestheld_k51_what_many_lack
set_option Elab.async false
set_option linter.all false
set_option maxRecDepth 100000
set_option maxHeartbeats 4000001
namespace Gd
open PySem PySem.Spec PyProof.Rows L2
def repAll (f : Value → PyData → Bool) : List Value → List PyData → Bool
  | [], [] => true
  | v :: vs, d :: ds => f v d && repAll f vs ds
  | _, _ => false
def repB (K : PySem.W.Frag) : Nat → Value → PyData → Bool
  | 0, _, _ => false
  | n + 1, .str y _, .str x => decide (y = x)
  | n + 1, .int j _, .int i => decide (j = i)
  | n + 1, .ref a, .tuple ds => match K.lookup a with
    | some ⟨c, _, .seq its _, _⟩ => decide (c = .type "tuple") && (Nat.ble its.size 60 && repAll (repB K n) its.toList ds)
    | _ => false
  | _ + 1, _, _ => false
def globB (K : PySem.W.Frag) (x : Str) (d : PyData) : Bool := match PySem.W.nsIn K mainGlobals x with
  | some (some v) => repB K 5 v d
  | _ => false
def bltB (K : PySem.W.Frag) (x : Str) (b : String) : Bool := He.eqO (PySem.W.nsIn K mainGlobals x) (some (some (.builtin b)))
def ckM (gl : List (Str × PyData)) (bl : List (Str × String)) (K : PySem.W.Frag) : Bool := gl.all (fun p => globB K p.1 p.2) && bl.all (fun p => bltB K p.1 p.2)
def ckS (K : PySem.W.Frag) : Bool := (K.lookup sysModules).isSome
def refsAt (g : Addr → Option Obj) (a : Addr) : List Addr := match g a with
  | some o => He.refsO o
  | none => []
def asM (g : Addr → Option Obj) : List Addr := sysModules :: mainGlobals :: (refsAt g mainGlobals ++ (refsAt g mainGlobals).flatMap (refsAt g))
def hkM (fa : List He.Fa) (fn : List He.DefD) (ck : PySem.W.Frag → Bool) : PySem.W.Hook where
  α := He.AlD × Bool
  obs s := (fun K => (He.obsD fa fn K, ck K)) (He.frG s.heap.get? (asM s.heap.get?))
  val _ := (He.valD fn, true)
  says _ h := ∃ K : PySem.W.Frag, K.In h ∧ He.SaysD fa fn K ∧ ck K = true
  of w s h := ⟨_, He.frG_in, congrArg Prod.fst h, congrArg Prod.snd h⟩
  keeps w h h' := fun ⟨K, k, a, b⟩ up => ⟨K, fun x o e => up x o (k x o e), a, b⟩
def obM (fa : List He.Fa) (fn : List He.DefD) (ck : PySem.W.Frag → Bool) (s : PySem.W.SharedT) : He.AlD × Bool :=
  (fun K => (He.obsD fa fn K, ck K)) (He.frG (HandSHeadRun.getT s) (asM (HandSHeadRun.getT s)))
abbrev dfD (y x : Str) (st : Stmt) : He.DefD := ⟨(y, .none), x, x, defArgs st, defBody st, defScope st, [], []⟩
noncomputable def endG (st : PySem.W.SharedT → Thread → Option (PySem.W.SharedT × Thread)) (M : Nat) (p : Program) (s0 : Shared) : Option PySem.W.SharedT :=
  match HandSHeadRun.putAll s0.heap.objs.toList PySem.W.BT.nil 0 with
  | some (t, n) => HandSHeadRun.frNat n fun n0 => HandSHeadRun.goF st n0 (s0.heap.nsMap mainGlobals (Str.ofString "__annotations__")) M ⟨t, n0, s0.heap.life, s0.gens, s0.drawn, s0.toks, s0.os⟩ (PySem.W.topStub p)
  | none => none
def goI (st : PySem.W.SharedT → Thread → Option (PySem.W.SharedT × Thread)) : Nat → PySem.W.SharedT → Thread → Option PySem.W.SharedT
  | 0, _, _ => none
  | m + 1, s, t => match t.atExitBegin with
    | some [] => some s
    | some (_ :: _) => none
    | none => match st s t with
      | some (s', t') => HandSHeadRun.frS s' fun s' => goI st m s' t'
      | none => none
noncomputable def openI (st : PySem.W.SharedT → Thread → Option (PySem.W.SharedT × Thread)) (N : Nat) (p : Program) : Option Shared :=
  (goI st N ⟨PySem.W.BT.nil, 0, {}, #[], {}, 1, (start (PySem.W.opening p)).1.os⟩ (start (PySem.W.opening p)).2).bind fun s => fenceModules? p s.abs
noncomputable def runI (p : Program) (w : World) (N M : Nat) : Option (Shared × PySem.W.SharedT) :=
  (openI (HandSHeadRun.stepQ (HandSHeadRun.denQ HandSHeadRun.tabQ) (PySem.W.opening p) w) N p).bind fun s0 => (endG (HandSHeadRun.stepQ (HandSHeadRun.denQ HandSHeadRun.tabQ) p w) M p s0).map fun s => (s0, s)
def RunA (r : PySem.W.OpenRow) (q : Program) (N M : Nat) (loose : List Str) (w : World) : Prop :=
  (runI r.prog w N M).map (fun s => ((s.1.heap.isNs mainGlobals && s.1.gens.size == 0) && HandSHeadRun.looksF r.prog s.1.heap s.2.abs, HandSHeadRun.seenQ q loose (importedModules r.prog.main.body) (fun s => PySem.W.xlAt q [] s && PySem.W.recOk r.records s) s.2.abs)) = some (true, PySem.W.openGood q loose)
def RunB (r : PySem.W.OpenRow) (H : PySem.W.Hook) (ob : PySem.W.SharedT → H.α) (N M : Nat) (w : World) : Prop :=
  (runI r.prog w N M).map (fun s => ob s.2) = some (H.val w)
end Gd
namespace K51H
open PySem PySem.Spec PyProof.Rows L2 Gd
def topH (i : Nat) : Stmt := PySem.Challenge.pw_nearestheld_k51_what_many_lack.main.body.getD i (.Pass ⟨0, 0, 0, 0⟩)
def fn0 : List He.DefD := [dfD "integer_power" "integer_power" (topH 2), dfD "is_integer" "is_integer" (topH 3), dfD "is_number" "is_number" (topH 4), dfD "is_worded" "is_worded" (topH 5), dfD "reduced" "reduced" (topH 7), dfD "added" "added" (topH 8), dfD "lessened" "lessened" (topH 9), dfD "times" "times" (topH 10), dfD "size_of" "size_of" (topH 11), dfD "power_of" "power_of" (topH 12), dfD "sign_of_fraction" "sign_of_fraction" (topH 13), dfD "part_of" "part_of" (topH 14), dfD "is_taken_outward" "is_taken_outward" (topH 15), dfD "power_below" "power_below" (topH 16), dfD "_power_within" "_power_within" (topH 17), dfD "_twos_in" "_twos_in" (topH 18), dfD "worth" "worth" (topH 20), dfD "zero" "zero" (topH 21), dfD "rounded" "rounded" (topH 23), dfD "_spot" "_spot" (topH 24), dfD "_nearest" "_nearest" (topH 25), dfD "_outcome" "_outcome" (topH 26), dfD "_too_great" "_too_great" (topH 27), dfD "is_inf" "is_inf" (topH 29), dfD "exact_sum" "exact_sum" (topH 31), dfD "_counted_sum" "_counted_sum" (topH 32), dfD "_units_of" "_units_of" (topH 33), dfD "parted_sum_of" "parted_sum_of" (topH 35), dfD "is_parted_sum" "is_parted_sum" (topH 36), dfD "_law_bag" "_law_bag" (topH 38)]
def fn1 : List He.DefD := [dfD "_law_take" "_law_take" (topH 39), dfD "_law_some" "_law_some" (topH 40), dfD "_law_mixed" "_law_mixed" (topH 41), dfD "_law_alike" "_law_alike" (topH 42), dfD "_law_common" "_law_common" (topH 43), dfD "_law_to" "_law_to" (topH 44), dfD "_law_over" "_law_over" (topH 45), dfD "_law_added" "_law_added" (topH 46), dfD "_law_lessened" "_law_lessened" (topH 47), dfD "_law_multiplied" "_law_multiplied" (topH 48), dfD "_law_is_below" "_law_is_below" (topH 49), dfD "_law_sized" "_law_sized" (topH 50), dfD "_law_power" "_law_power" (topH 51), dfD "_law_worth" "_law_worth" (topH 52), dfD "_law_formats" "_law_formats" (topH 53), dfD "_law_edges" "_law_edges" (topH 54), dfD "_law_number" "_law_number" (topH 55), dfD "_law_grid" "_law_grid" (topH 56), dfD "_law_neighbours" "_law_neighbours" (topH 57), dfD "_law_greatest" "_law_greatest" (topH 58), dfD "_law_normal" "_law_normal" (topH 59), dfD "_law_nearer" "_law_nearer" (topH 60), dfD "_law_form_of" "_law_form_of" (topH 61), dfD "_law_rounded" "_law_rounded" (topH 62), dfD "_law_zero_of" "_law_zero_of" (topH 63), dfD "_law_turned_sign" "_law_turned_sign" (topH 64), dfD "_law_near_format" "_law_near_format" (topH 65), dfD "_law_parted_sum" "_law_parted_sum" (topH 66), dfD "_law_total" "_law_total" (topH 67), dfD "_law_near_sums" "_law_near_sums" (topH 68)]
def fn2 : List He.DefD := [dfD "law" "law" (topH 69)]
def fn : List He.DefD := fn0 ++ fn1 ++ fn2
def fas0 : List He.Fa := [.glo "integer_power", .glo "is_integer", .glo "is_number", .glo "is_worded", .glo "reduced", .glo "added", .glo "lessened", .glo "times", .glo "size_of", .glo "power_of", .glo "sign_of_fraction", .glo "part_of", .glo "is_taken_outward", .glo "power_below", .glo "_power_within", .glo "_twos_in", .glo "worth", .glo "zero", .glo "rounded", .glo "_spot", .glo "_nearest", .glo "_outcome", .glo "_too_great", .glo "is_inf", .glo "exact_sum", .glo "_counted_sum", .glo "_units_of", .glo "parted_sum_of", .glo "is_parted_sum", .glo "_law_bag"]
def fas1 : List He.Fa := [.glo "_law_take", .glo "_law_some", .glo "_law_mixed", .glo "_law_alike", .glo "_law_common", .glo "_law_to", .glo "_law_over", .glo "_law_added", .glo "_law_lessened", .glo "_law_multiplied", .glo "_law_is_below", .glo "_law_sized", .glo "_law_power", .glo "_law_worth", .glo "_law_formats", .glo "_law_edges", .glo "_law_number", .glo "_law_grid", .glo "_law_neighbours", .glo "_law_greatest", .glo "_law_normal", .glo "_law_nearer", .glo "_law_form_of", .glo "_law_rounded", .glo "_law_zero_of", .glo "_law_turned_sign", .glo "_law_near_format", .glo "_law_parted_sum", .glo "_law_total", .glo "_law_near_sums"]
def fas2 : List He.Fa := [.glo "law", .free "abs", .free "all", .free "bool", .free "divmod", .free "int", .free "isinstance", .free "len", .free "list", .free "max", .free "min", .free "range", .free "repr", .free "reversed", .free "set", .free "sorted", .free "str", .free "sum", .free "tuple"]
def fas : List He.Fa := fas0 ++ fas1 ++ fas2
def ck (K : PySem.W.Frag) : Bool := ckM [] [("gcd", "math.gcd")] K && ckS K
def loose0 : List Str := ["gcd", "__name__", "integer_power", "is_integer", "is_number", "is_worded", "reduced", "added", "lessened", "times", "size_of", "power_of", "sign_of_fraction", "part_of", "is_taken_outward", "power_below", "_power_within", "_twos_in", "worth", "zero", "rounded", "_spot", "_nearest", "_outcome", "_too_great", "is_inf", "exact_sum", "_counted_sum", "_units_of", "parted_sum_of"]
def loose1 : List Str := ["is_parted_sum", "_law_bag", "_law_take", "_law_some", "_law_mixed", "_law_alike", "_law_common", "_law_to", "_law_over", "_law_added", "_law_lessened", "_law_multiplied", "_law_is_below", "_law_sized", "_law_power", "_law_worth", "_law_formats", "_law_edges", "_law_number", "_law_grid", "_law_neighbours", "_law_greatest", "_law_normal", "_law_nearer", "_law_form_of", "_law_rounded", "_law_zero_of", "_law_turned_sign", "_law_near_format", "_law_parted_sum"]
def loose2 : List Str := ["_law_total", "_law_near_sums"]
def loose : List Str := loose0 ++ loose1 ++ loose2
theorem runA (w : World) : RunA (PySem.W.OpenLaw.row PySem.Challenge.rw_nearestheld_k51_what_many_lack) (PySem.W.view (PySem.W.OpenLaw.row PySem.Challenge.rw_nearestheld_k51_what_many_lack).prog [69]) 8000 8000 loose w := by
  unfold RunA
  kernel_rfl
theorem runB (w : World) : RunB (PySem.W.OpenLaw.row PySem.Challenge.rw_nearestheld_k51_what_many_lack) (hkM fas fn ck) (obM fas fn ck) 8000 8000 w := by
  unfold RunB
  kernel_rfl
theorem hdefT : PySem.W.defOf (PySem.W.view (PySem.W.OpenLaw.row PySem.Challenge.rw_nearestheld_k51_what_many_lack).prog [69]) (PySem.W.OpenLaw.row PySem.Challenge.rw_nearestheld_k51_what_many_lack).name = some ((HandSHeadRun.topDef (PySem.W.OpenLaw.row PySem.Challenge.rw_nearestheld_k51_what_many_lack).prog 69), []) := by kernel_rfl
theorem hpT : (PySem.W.OpenLaw.row PySem.Challenge.rw_nearestheld_k51_what_many_lack).prog.theDef (PySem.W.OpenLaw.row PySem.Challenge.rw_nearestheld_k51_what_many_lack).name = some ((HandSHeadRun.topDef (PySem.W.OpenLaw.row PySem.Challenge.rw_nearestheld_k51_what_many_lack).prog 69).params, (HandSHeadRun.topDef (PySem.W.OpenLaw.row PySem.Challenge.rw_nearestheld_k51_what_many_lack).prog 69).body, (HandSHeadRun.topDef (PySem.W.OpenLaw.row PySem.Challenge.rw_nearestheld_k51_what_many_lack).prog 69).scope) := by kernel_rfl
theorem hkT : PySem.W.kwWritten? (HandSHeadRun.topDef (PySem.W.OpenLaw.row PySem.Challenge.rw_nearestheld_k51_what_many_lack).prog 69).params.kwonlyargs (HandSHeadRun.topDef (PySem.W.OpenLaw.row PySem.Challenge.rw_nearestheld_k51_what_many_lack).prog 69).params.kw_defaults = some [] := by kernel_rfl
theorem okT : (PySem.W.chainsOk (PySem.W.view (PySem.W.OpenLaw.row PySem.Challenge.rw_nearestheld_k51_what_many_lack).prog [69]) && PySem.W.opensWell (PySem.W.OpenLaw.row PySem.Challenge.rw_nearestheld_k51_what_many_lack).prog && (PySem.W.frees (PySem.W.OpenLaw.row PySem.Challenge.rw_nearestheld_k51_what_many_lack).toRowW && (PySem.W.OpenLaw.row PySem.Challenge.rw_nearestheld_k51_what_many_lack).within.isEmpty)) = true := by decide +kernel
theorem hbT : (PySem.W.OpenLaw.row PySem.Challenge.rw_nearestheld_k51_what_many_lack).prog.bare := ⟨rfl, rfl, rfl, rfl, rfl, by decide +kernel⟩
theorem nameT : (HandSHeadRun.topDef (PySem.W.OpenLaw.row PySem.Challenge.rw_nearestheld_k51_what_many_lack).prog 69).name = ("law" : PySem.Str) := by kernel_rfl
end K51H
namespace Gd
open PySem PySem.Spec PyProof.Rows L2
mutual
inductive Rp (K : PySem.W.Frag) (H : Hp) : V → PyData → Prop
  | non : Rp K H .non .none
  | bl (b : Bool) : Rp K H (.bl b) (.bool b)
  | int (i : Int) : Rp K H (.int i) (.int i)
  | str (x : Str) : Rp K H (.str x) (.str x)
  | lst {a xs ds} (h : H a = some (.lst xs)) (r : RpAll K H xs ds) : Rp K H (.ref a) (.list ds)
  | tup {a xs ds} (h : SqT K H a xs) (r : RpAll K H xs ds) : Rp K H (.ref a) (.tuple ds)
  | dct {a} (h : H a = some (.dK [])) : Rp K H (.ref a) (.dict [])
  | dctT {a} (kvs : List (List Int × Int)) (h : H a = some (.dT (kvs.map fun p => (p.1.map .inl, V.int p.2)))) : Rp K H (.ref a) (.dict (kvs.map fun p => (.tuple (p.1.map .int), .int p.2)))
inductive RpAll (K : PySem.W.Frag) (H : Hp) : List V → List PyData → Prop
  | nil : RpAll K H [] []
  | cons {v vs d ds} (h : Rp K H v d) (r : RpAll K H vs ds) : RpAll K H (v :: vs) (d :: ds)
end
section
variable {K : PySem.W.Frag} {H H' : Hp}
theorem seqT (e : Same H H') {a : Addr} {xs : List V} (h : SqT K H a xs) : SqT K H' a xs := by
  rcases h with (hh | ⟨ob, hh⟩) | hh
  · exact .inl (.inl (e _ _ hh))
  · exact .inl (.inr ⟨ob, e _ _ hh⟩)
  · exact .inr hh
mutual
theorem Rp.mono (e : Same H H') : ∀ {v : V} {d : PyData}, Rp K H v d → Rp K H' v d
  | _, _, .non => .non
  | _, _, .bl b => .bl b
  | _, _, .int i => .int i
  | _, _, .str x => .str x
  | _, _, .lst h r => .lst (e _ _ h) (RpAll.mono e r)
  | _, _, .tup h r => .tup (seqT e h) (RpAll.mono e r)
  | _, _, .dct h => .dct (e _ _ h)
  | _, _, .dctT kvs h => .dctT kvs (e _ _ h)
theorem RpAll.mono (e : Same H H') : ∀ {vs : List V} {ds : List PyData}, RpAll K H vs ds → RpAll K H' vs ds
  | _, _, .nil => .nil
  | _, _, .cons h r => .cons (Rp.mono e h) (RpAll.mono e r)
end
mutual
theorem Rp.dp : ∀ {v : V} {d : PyData}, Rp K H v d → d.hasDict = false → Dp K H v d
  | _, _, .non, _ => .non
  | _, _, .bl b, _ => .bl b
  | _, _, .int i, _ => .int i
  | _, _, .str x, _ => .str x
  | _, _, .lst h r, n => .lst (SqL.of h) (RpAll.dp r (by simpa only [PyData.hasDict] using n))
  | _, _, .tup h r, n => .tup h (RpAll.dp r (by simpa only [PyData.hasDict] using n))
  | _, _, .dct h, n => by simp only [PyData.hasDict] at n; cases n
  | _, _, .dctT kvs h, n => by simp only [PyData.hasDict] at n; cases n
theorem RpAll.dp : ∀ {vs : List V} {ds : List PyData}, RpAll K H vs ds → PyData.hasDictAll ds = false → DpAll K H vs ds
  | _, _, .nil, _ => .nil
  | _, _, .cons h r, n => by
    simp only [PyData.hasDictAll, Bool.or_eq_false_iff] at n
    exact .cons (Rp.dp h n.1) (RpAll.dp r n.2)
end
theorem nd_shaped {d : PyData} (h : SeqAt.shaped d = true) : d.hasDict = false := PyData.hasDict_of_canLay d (by unfold SeqAt.shaped at h; exact (Bool.and_eq_true_iff.mp h).1)
theorem RpAll.length : ∀ {vs : List V} {ds : List PyData}, RpAll K H vs ds → vs.length = ds.length
  | _, _, .nil => rfl
  | _, _, .cons _ r => congrArg (· + 1) (RpAll.length r)
theorem RpAll.get : ∀ {vs : List V} {ds : List PyData} {i : Nat} {v : V}, RpAll K H vs ds → vs[i]? = some v → ∃ d, ds[i]? = some d ∧ Rp K H v d
  | _, _, 0, _, .cons h _, e => by cases e; exact ⟨_, rfl, h⟩
  | _, _, i + 1, _, .cons _ r, e => RpAll.get (i := i) r e
  | _, _, i, _, .nil, e => by simp at e
theorem RpAll.getD : ∀ {vs : List V} {ds : List PyData} {i : Nat} {d : PyData}, RpAll K H vs ds → ds[i]? = some d → ∃ v, vs[i]? = some v ∧ Rp K H v d
  | _, _, 0, _, .cons h _, e => by cases e; exact ⟨_, rfl, h⟩
  | _, _, i + 1, _, .cons _ r, e => RpAll.getD (i := i) r e
  | _, _, i, _, .nil, e => by simp at e
theorem RpAll.app : ∀ {vs ws : List V} {ds es : List PyData}, RpAll K H vs ds → RpAll K H ws es → RpAll K H (vs ++ ws) (ds ++ es)
  | _, _, _, _, .nil, q => q
  | _, _, _, _, .cons h r, q => .cons h (RpAll.app r q)
theorem RpAll.take : ∀ {vs : List V} {ds : List PyData} (n : Nat), RpAll K H vs ds → RpAll K H (vs.take n) (ds.take n)
  | _, _, 0, _ => .nil
  | _, _, _ + 1, .nil => .nil
  | _, _, n + 1, .cons h r => .cons h (RpAll.take n r)
theorem RpAll.drop : ∀ {vs : List V} {ds : List PyData} (n : Nat), RpAll K H vs ds → RpAll K H (vs.drop n) (ds.drop n)
  | _, _, 0, r => r
  | _, _, _ + 1, .nil => .nil
  | _, _, n + 1, .cons _ r => RpAll.drop n r
end
structure Bag where
  x : Int
  y : Int
  z : Int
  cs : List Int
abbrev Gh := Option (Addr × Addr)
def bagCells (B : Bag) (l : Addr) : List V := [.int B.x, .int B.y, .int B.z, .ref l]
structure On (K : PySem.W.Frag) (g : Gh) (B : Bag) (H0 H : Hp) : Prop where
  ex : Same H0 H
  bag : ∀ a l, g = some (a, l) → H0 a = none ∧ H a = some (.lst (bagCells B l)) ∧ H0 l = some (.lst (B.cs.map V.int))
def Off (g : Gh) (a : Addr) : Prop := ∀ l, g ≠ some (a, l)
structure To (g : Gh) (H0 H H0' H' : Hp) : Prop where
  ex : Same H0 H0'
  un : ∀ a o, Off g a → H0 a = none → H a = some o → H0' a = none ∧ H' a = some o
theorem To.refl {g : Gh} {H0 H : Hp} : To g H0 H H0 H := ⟨Same.refl _, fun _ _ _ h1 h2 => ⟨h1, h2⟩⟩
theorem To.trans {g : Gh} {H0 H H1 H' H2 H'' : Hp} (s : To g H0 H H1 H') (t : To g H1 H' H2 H'') : To g H0 H H2 H'' :=
  ⟨s.ex.trans t.ex, fun a o f h1 h2 => let ⟨p, q⟩ := s.un a o f h1 h2; t.un a o f p q⟩
inductive VD where
  | no
  | da (d : PyData)
  | bag
  | scr (ns : List Int)
  | dct (kvs : List (Str × PyData))
  | fn (f : Addr)
  | fns (fs : List Addr)
def Rv (K : PySem.W.Frag) (g : Gh) (H0 : Hp) (v : V) : VD → Prop
  | .no => True
  | .da d => Rp K H0 v d
  | .bag => ∃ a l, g = some (a, l) ∧ v = .ref a
  | .scr ns => ∃ a, v = .ref a ∧ SqL K H0 a (ns.map V.int)
  | .dct kvs => ∃ a xs, v = .ref a ∧ H0 a = some (.dK xs) ∧ xs.map (·.1) = kvs.map (fun kv => Sum.inr kv.1) ∧ RpAll K H0 (xs.map (·.2)) (kvs.map (·.2))
  | .fn f => v = .ref f
  | .fns fs => ∃ a, v = .ref a ∧ H0 a = some (.lst (fs.map V.ref))
theorem Rv.mono {K : PySem.W.Frag} {g : Gh} {H0 H1 : Hp} (e : Same H0 H1) {v : V} : ∀ {d : VD}, Rv K g H0 v d → Rv K g H1 v d
  | .no, h => h
  | .da _, h => Rp.mono e h
  | .bag, h => h
  | .scr _, ⟨a, h1, h2⟩ => ⟨a, h1, e.seq h2⟩
  | .dct _, ⟨a, xs, h1, h2, h3, h4⟩ => ⟨a, xs, h1, e _ _ h2, h3, h4.mono e⟩
  | .fn _, h => h
  | .fns _, ⟨a, h1, h2⟩ => ⟨a, h1, e _ _ h2⟩
def RvAll (K : PySem.W.Frag) (g : Gh) (H0 : Hp) : List V → List VD → Prop
  | [], [] => True
  | v :: vs, d :: ds => Rv K g H0 v d ∧ RvAll K g H0 vs ds
  | _, _ => False
theorem RvAll.mono {K : PySem.W.Frag} {g : Gh} {H0 H1 : Hp} (e : Same H0 H1) : ∀ {vs : List V} {ds : List VD}, RvAll K g H0 vs ds → RvAll K g H1 vs ds
  | [], [], h => h
  | _ :: _, _ :: _, h => ⟨h.1.mono e, RvAll.mono e h.2⟩
  | [], _ :: _, h => h.elim
  | _ :: _, [], h => h.elim
theorem RvAll.length {K : PySem.W.Frag} {g : Gh} {H0 : Hp} : ∀ {vs : List V} {ds : List VD}, RvAll K g H0 vs ds → vs.length = ds.length
  | [], [], _ => rfl
  | _ :: _, _ :: _, h => congrArg (· + 1) (RvAll.length h.2)
  | [], _ :: _, h => h.elim
  | _ :: _, [], h => h.elim
structure EnvD (K : PySem.W.Frag) (g : Gh) (H0 : Hp) (σ : L2.St) (Γ : List VD) : Prop where
  len : σ.length = Γ.length
  at' : ∀ (i : Nat) (d : VD), Γ[i]? = some d → d ≠ .no → ∃ v : V, σ[i]? = some (some v) ∧ Rv K g H0 v d
theorem EnvD.mono {K : PySem.W.Frag} {g : Gh} {H0 H1 : Hp} {σ : L2.St} {Γ : List VD} (e : Same H0 H1) (h : EnvD K g H0 σ Γ) : EnvD K g H1 σ Γ :=
  ⟨h.len, fun i d h1 h2 => let ⟨v, p, q⟩ := h.at' i d h1 h2; ⟨v, p, q.mono e⟩⟩
theorem EnvD.set {K : PySem.W.Frag} {g : Gh} {H0 : Hp} {σ : L2.St} {Γ : List VD} {v : V} {d : VD} (h : EnvD K g H0 σ Γ) (i : Nat) (r : Rv K g H0 v d) : EnvD K g H0 (σ.set i (some v)) (Γ.set i d) := by
  refine ⟨by rw [List.length_set, List.length_set, h.len], fun j e h1 h2 => ?_⟩
  by_cases hj : i = j
  · subst hj
    have hi : i < Γ.length := by
      have := (List.getElem?_eq_some_iff.mp h1).1
      rwa [List.length_set] at this
    rw [List.getElem?_set_self hi] at h1
    cases h1
    exact ⟨v, List.getElem?_set_self (by rw [h.len]; exact hi), r⟩
  · rw [List.getElem?_set_ne hj] at h1 ⊢
    exact h.at' j e h1 h2
def WE (X : Cx) (e : Expr) : TE := fun σ H Q => ∃ t, PE X e t ∧ t σ H Q
def WT (X : Cx) (e : Expr) : TT := fun σ H Q => ∃ t, PT X e t ∧ t σ H Q
def WA (X : Cx) (es : List Expr) : TA := fun σ H Q => ∃ t, PA X es t ∧ t σ H Q
def WS (X : Cx) (ss : List Stmt) : TS := fun D σ H => ∃ t, PSs X ss t ∧ t D σ H
theorem we {X : Cx} (e : Expr) : PE X e (WE X e) := ⟨fun p s σ H Q I ⟨_, ht, h⟩ => ht.run p s σ H Q I h⟩
theorem wt {X : Cx} (e : Expr) : PT X e (WT X e) := ⟨fun p s σ H Q I ⟨_, ht, h⟩ => ht.run p s σ H Q I h⟩
theorem wa {X : Cx} (es : List Expr) : PA X es (WA X es) := ⟨fun o p s σ H Q I ⟨_, ht, h⟩ => ht.run o p s σ H Q I h⟩
theorem ws {X : Cx} (ss : List Stmt) : PSs X ss (WS X ss) := ⟨fun p s σ H D I ⟨_, ht, h⟩ => ht.run p s σ H D I h⟩
def EJ (X : Cx) (Γ : List VD) (B : Bag) (e : Expr) (d : VD) (B' : Bag) : Prop :=
  ∀ g σ H0 H, EnvD X.K g H0 σ Γ → On X.K g B H0 H → ∀ Q : VK,
    (∀ v H0' H', To g H0 H H0' H' → On X.K g B' H0' H' → Rv X.K g H0' v d → Q v H') → WE X e σ H Q
def TJ (X : Cx) (Γ : List VD) (B : Bag) (e : Expr) (b : Bool) (B' : Bag) : Prop :=
  ∀ g σ H0 H, EnvD X.K g H0 σ Γ → On X.K g B H0 H → ∀ Q : Bool → Hp → Prop,
    (∀ H0' H', To g H0 H H0' H' → On X.K g B' H0' H' → Q b H') → WT X e σ H Q
def AJ (X : Cx) (Γ : List VD) (B : Bag) (es : List Expr) (ds : List VD) (B' : Bag) : Prop :=
  ∀ g σ H0 H, EnvD X.K g H0 σ Γ → On X.K g B H0 H → ∀ Q : List V → Hp → Prop,
    (∀ vs H0' H', To g H0 H H0' H' → On X.K g B' H0' H' → RvAll X.K g H0' vs ds → Q vs H') → WA X es σ H Q
structure En where
  nx : List VD → Bag → Prop
  rt : PyData → Bag → Prop
  bk : List VD → Bag → Prop := fun _ _ => False
  ct : List VD → Bag → Prop := fun _ _ => False
structure Gets (X : Cx) (E : En) (g : Gh) (H0 H : Hp) (D : Ends) : Prop where
  nx : ∀ Γ B σ H1 H', E.nx Γ B → To g H0 H H1 H' → EnvD X.K g H1 σ Γ → On X.K g B H1 H' → D.nx σ H'
  rt : ∀ r B v H1 H', E.rt r B → To g H0 H H1 H' → On X.K g B H1 H' → Rp X.K H1 v r → D.rt v H'
  bk : ∀ Γ B σ H1 H', E.bk Γ B → To g H0 H H1 H' → EnvD X.K g H1 σ Γ → On X.K g B H1 H' → D.bk σ H'
  ct : ∀ Γ B σ H1 H', E.ct Γ B → To g H0 H H1 H' → EnvD X.K g H1 σ Γ → On X.K g B H1 H' → D.ct σ H'
theorem Gets.on {X : Cx} {E : En} {g : Gh} {H0 H H1 H' : Hp} {D : Ends} (G : Gets X E g H0 H D) (t : To g H0 H H1 H') : Gets X E g H1 H' D :=
  ⟨fun Γ B σ a b e u => G.nx Γ B σ a b e (t.trans u), fun r B v a b e u => G.rt r B v a b e (t.trans u),
   fun Γ B σ a b e u => G.bk Γ B σ a b e (t.trans u), fun Γ B σ a b e u => G.ct Γ B σ a b e (t.trans u)⟩
def SJ (X : Cx) (Γ : List VD) (B : Bag) (ss : List Stmt) (E : En) : Prop :=
  ∀ g σ H0 H, EnvD X.K g H0 σ Γ → On X.K g B H0 H → ∀ D : Ends, Gets X E g H0 H D → WS X ss D σ H
section
variable {X : Cx} {Γ : List VD} {B B1 B2 B' : Bag} {e a b c : Expr} {es : List Expr} {d da db dc : VD} {pos p : Pos}
theorem laid {K : PySem.W.Frag} {g : Gh} {B : Bag} {H0 H : Hp} {p : Addr} {o : HO} (O : On K g B H0 H) (n : H p = none) :
    To g H0 H (upd H0 p o) (upd H p o) ∧ On K g B (upd H0 p o) (upd H p o) := by
  have n0 : H0 p = none := O.ex.free n
  refine ⟨⟨fun q u h => ?_, fun q u f h1 h2 => ?_⟩, ⟨fun q u h => ?_, fun q l h => ?_⟩⟩
  · rw [upd_ne (ne_of_none h n0)]; exact h
  · have hq := ne_of_none h2 n
    rw [upd_ne hq, upd_ne hq]; exact ⟨h1, h2⟩
  · by_cases hq : q = p
    · subst hq; rw [upd_same] at h ⊢; exact h
    · rw [upd_ne hq] at h ⊢; exact O.ex _ _ h
  · obtain ⟨h1, h2, h3⟩ := O.bag q l h
    have hq := ne_of_none h2 n
    have hl := ne_of_none h3 n0
    rw [upd_ne hq, upd_ne hq, upd_ne hl]; exact ⟨h1, h2, h3⟩
theorem ej_c {v : V} {d : PyData} (h : PE X e (tC v)) (r : ∀ H0, Rp X.K H0 v d) : EJ X Γ B e (.da d) B :=
  fun g σ H0 H _ O Q q => ⟨_, h, q v H0 H To.refl O (r H0)⟩
theorem ej_int {i : Int} {j} : EJ X Γ B (.Constant (.int i) j pos) (.da (.int i)) B := ej_c pe_int fun _ => .int i
theorem ej_bl {i : Bool} {j} : EJ X Γ B (.Constant (.bool i) j pos) (.da (.bool i)) B := ej_c pe_bl fun _ => .bl i
theorem ej_str {i : Str} {j} : EJ X Γ B (.Constant (.str i) j pos) (.da (.str i)) B := ej_c pe_str fun _ => .str i
theorem ej_non {j} : EJ X Γ B (.Constant .none j pos) (.da .none) B := ej_c pe_non fun _ => .non
theorem ej_var (i : Nat) {x : Str} (h : Γ[i]? = some d) (hd : d ≠ .no) (hN : X.N[i]? = some x := by rfl)
    (hv : Vis X.env.scope x := by first | exact Or.inl rfl | exact Or.inr (Or.inl rfl) | exact Or.inr (Or.inr rfl))
    (h1 : (x == ("__debug__" : Str)) = false := by decide) (h2 : (x == ("__classdict__" : Str)) = false := by decide) : EJ X Γ B (.Name x pos) d B :=
  fun g σ H0 H E O Q q => let ⟨v, hs, r⟩ := E.at' i d h hd; ⟨_, pe_var hN hv h1 h2, v, hs, q v H0 H To.refl O r⟩
theorem ej_dat (i : Nat) {x : Str} {d : PyData} (h : Γ[i]? = some (.da d) := by rfl) (hN : X.N[i]? = some x := by rfl)
    (hv : Vis X.env.scope x := by first | exact Or.inl rfl | exact Or.inr (Or.inl rfl) | exact Or.inr (Or.inr rfl))
    (h1 : (x == ("__debug__" : Str)) = false := by decide) (h2 : (x == ("__classdict__" : Str)) = false := by decide) : EJ X Γ B (.Name x pos) (.da d) B :=
  ej_var i h (fun z => nomatch z) hN hv h1 h2
theorem ej_bag (i : Nat) {x : Str} (h : Γ[i]? = some .bag := by rfl) (hN : X.N[i]? = some x := by rfl)
    (hv : Vis X.env.scope x := by first | exact Or.inl rfl | exact Or.inr (Or.inl rfl) | exact Or.inr (Or.inr rfl))
    (h1 : (x == ("__debug__" : Str)) = false := by decide) (h2 : (x == ("__classdict__" : Str)) = false := by decide) : EJ X Γ B (.Name x pos) .bag B :=
  ej_var i h (fun z => nomatch z) hN hv h1 h2
theorem ej_un {r : V → Hp → VK → Prop} (ha : EJ X Γ B a da B1) (hp : ∀ t, PE X a t → PE X e (tUn r t))
    (hr : ∀ g v H0 H, On X.K g B1 H0 H → Rv X.K g H0 v da → ∀ Q : VK, (∀ z H0' H', To g H0 H H0' H' → On X.K g B1 H0' H' → Rv X.K g H0' z d → Q z H') → r v H Q) :
    EJ X Γ B e d B1 := fun g σ H0 H E O Q q =>
  ⟨_, hp _ (we a), ha g σ H0 H E O _ fun v H1 H' t o rv => hr g v H1 H' o rv Q fun z H2 H'' t2 o2 r2 => q z H2 H'' (t.trans t2) o2 r2⟩
theorem ej_bin {r : R2} (ha : EJ X Γ B a da B1) (hb : EJ X Γ B1 b db B2) (hp : ∀ t u, PE X a t → PE X b u → PE X e (tOp r t u))
    (hr : ∀ g v w H0 H, On X.K g B2 H0 H → Rv X.K g H0 v da → Rv X.K g H0 w db → ∀ Q : VK, (∀ z H0' H', To g H0 H H0' H' → On X.K g B2 H0' H' → Rv X.K g H0' z d → Q z H') → r v w H Q) :
    EJ X Γ B e d B2 := fun g σ H0 H E O Q q =>
  ⟨_, hp _ _ (we a) (we b), ha g σ H0 H E O _ fun v H1 H' t o rv => hb g σ H1 H' (E.mono t.ex) o _ fun w H2 H'' t2 o2 rw' =>
    hr g v w H2 H'' o2 (rv.mono t2.ex) rw' Q fun z H3 H3' t3 o3 r3 => q z H3 H3' ((t.trans t2).trans t3) o3 r3⟩
theorem rvI {K : PySem.W.Frag} {g : Gh} {H0 : Hp} {v : V} {i : Int} (h : Rv K g H0 v (.da (.int i))) : v = .int i := by
  have h : Rp K H0 v (.int i) := h
  cases h; rfl
theorem rvB {K : PySem.W.Frag} {g : Gh} {H0 : Hp} {v : V} {i : Bool} (h : Rv K g H0 v (.da (.bool i))) : v = .bl i := by
  have h : Rp K H0 v (.bool i) := h
  cases h; rfl
theorem rvS {K : PySem.W.Frag} {g : Gh} {H0 : Hp} {v : V} {i : Str} (h : Rv K g H0 v (.da (.str i))) : v = .str i := by
  have h : Rp K H0 v (.str i) := h
  cases h; rfl
theorem rvL {K : PySem.W.Frag} {g : Gh} {H0 : Hp} {v : V} {ds : List PyData} (h : Rv K g H0 v (.da (.list ds))) : ∃ a xs, v = .ref a ∧ H0 a = some (.lst xs) ∧ RpAll K H0 xs ds := by
  have h : Rp K H0 v (.list ds) := h
  cases h with
  | lst h1 r => exact ⟨_, _, rfl, h1, r⟩
theorem rvT {K : PySem.W.Frag} {g : Gh} {H0 : Hp} {v : V} {ds : List PyData} (h : Rv K g H0 v (.da (.tuple ds))) : ∃ a xs, v = .ref a ∧ SqT K H0 a xs ∧ RpAll K H0 xs ds := by
  have h : Rp K H0 v (.tuple ds) := h
  cases h with
  | tup h1 r => exact ⟨_, _, rfl, h1, r⟩
theorem ej_ii {i j : Int} {z : Int → Int → V} {y : PyData} {op : Operator} (ha : EJ X Γ B a (.da (.int i)) B1) (hb : EJ X Γ B1 b (.da (.int j)) B2)
    (ho : OpR X (binaryOp op) (rI0 z)) (hz : ∀ H0, Rp X.K H0 (z i j) y) : EJ X Γ B (.BinOp a op b pos) (.da y) B2 :=
  ej_bin ha hb (fun _ _ h1 h2 => pe_op ho h1 h2) fun g v w H0 H O r1 r2 Q q => ⟨i, j, rvI r1, rvI r2, q _ H0 H To.refl O (hz H0)⟩
theorem ej_iic {i j : Int} {C : Int → Int → Prop} {z : Int → Int → V} {y : PyData} {op : Operator} (ha : EJ X Γ B a (.da (.int i)) B1) (hb : EJ X Γ B1 b (.da (.int j)) B2)
    (ho : OpR X (binaryOp op) (rI C z)) (hc : C i j) (hz : ∀ H0, Rp X.K H0 (z i j) y) : EJ X Γ B (.BinOp a op b pos) (.da y) B2 :=
  ej_bin ha hb (fun _ _ h1 h2 => pe_op ho h1 h2) fun g v w H0 H O r1 r2 Q q => ⟨i, j, rvI r1, rvI r2, hc, q _ H0 H To.refl O (hz H0)⟩
theorem ej_add {i j : Int} (ha : EJ X Γ B a (.da (.int i)) B1) (hb : EJ X Γ B1 b (.da (.int j)) B2) : EJ X Γ B (.BinOp a .Add b pos) (.da (.int (i + j))) B2 :=
  ej_ii ha hb op_add fun _ => .int _
theorem ej_sub {i j : Int} (ha : EJ X Γ B a (.da (.int i)) B1) (hb : EJ X Γ B1 b (.da (.int j)) B2) : EJ X Γ B (.BinOp a .Sub b pos) (.da (.int (i - j))) B2 :=
  ej_ii ha hb op_sub fun _ => .int _
theorem ej_mul {i j : Int} (ha : EJ X Γ B a (.da (.int i)) B1) (hb : EJ X Γ B1 b (.da (.int j)) B2) (hc : CMulW i j) : EJ X Γ B (.BinOp a .Mult b pos) (.da (.int (i * j))) B2 :=
  ej_iic ha hb op_mulW hc fun _ => .int _
theorem ej_fdiv {i j : Int} (ha : EJ X Γ B a (.da (.int i)) B1) (hb : EJ X Γ B1 b (.da (.int j)) B2) (hc : CDivW i j) : EJ X Γ B (.BinOp a .FloorDiv b pos) (.da (.int (i / j))) B2 :=
  ej_iic ha hb op_fdivW hc fun _ => .int _
theorem ej_mod {i j : Int} (ha : EJ X Γ B a (.da (.int i)) B1) (hb : EJ X Γ B1 b (.da (.int j)) B2) (hc : 0 < j) : EJ X Γ B (.BinOp a .Mod b pos) (.da (.int (i % j))) B2 :=
  ej_iic ha hb op_mod hc fun _ => .int _
theorem ej_pow {i j : Int} (ha : EJ X Γ B a (.da (.int i)) B1) (hb : EJ X Γ B1 b (.da (.int j)) B2) (hc : CPow i j) : EJ X Γ B (.BinOp a .Pow b pos) (.da (.int (i ^ j.toNat))) B2 :=
  ej_iic ha hb op_pow hc fun _ => .int _
theorem ej_neg {i : Int} (ha : EJ X Γ B a (.da (.int i)) B1) : EJ X Γ B (.UnaryOp .USub a pos) (.da (.int (-i))) B1 :=
  ej_un ha (fun _ h => pe_un un_neg h) fun g v H0 H O r Q q => ⟨i, rvI r, q _ H0 H To.refl O (Rp.int _)⟩
theorem ej_cmpI {i j : Int} {z : Int → Int → V} {y : PyData} {op : CmpOp} (ha : EJ X Γ B a (.da (.int i)) B1) (hb : EJ X Γ B1 b (.da (.int j)) B2)
    (ho : OpR X (compareOp op) (rI0 z)) (hz : ∀ H0, Rp X.K H0 (z i j) y) (hm : behindInMarks op b = false) : EJ X Γ B (.Compare a [op] [b] pos) (.da y) B2 :=
  ej_bin ha hb (fun _ _ h1 h2 => pe_cmpR ho h1 h2 hm) fun g v w H0 H O r1 r2 Q q => ⟨i, j, rvI r1, rvI r2, q _ H0 H To.refl O (hz H0)⟩
theorem ej_lt {i j : Int} (ha : EJ X Γ B a (.da (.int i)) B1) (hb : EJ X Γ B1 b (.da (.int j)) B2) : EJ X Γ B (.Compare a [.Lt] [b] pos) (.da (.bool (decide (i < j)))) B2 :=
  ej_cmpI ha hb op_lt (fun _ => .bl _) (nomark _)
theorem ej_ge {i j : Int} (ha : EJ X Γ B a (.da (.int i)) B1) (hb : EJ X Γ B1 b (.da (.int j)) B2) : EJ X Γ B (.Compare a [.GtE] [b] pos) (.da (.bool (decide (j ≤ i)))) B2 :=
  ej_cmpI ha hb op_ge (fun _ => .bl _) (nomark _)
theorem ej_eq {x y : PyData} (hu : X.A.units + 64 < cLine) (ha : EJ X Γ B a (.da x) B1) (hb : EJ X Γ B1 b (.da y) B2) (hx : SeqAt.shaped x = true) (hy : SeqAt.shaped y = true) :
    EJ X Γ B (.Compare a [.Eq] [b] pos) (.da (.bool (PyData.eqv x y))) B2 :=
  ej_bin ha hb (fun _ _ h1 h2 => pe_cmpR (op_eqD hu) h1 h2 (nomark _)) fun g v w H0 H O r1 r2 Q q =>
    ⟨x, y, (Rp.mono O.ex r1).dp (nd_shaped hx), (Rp.mono O.ex r2).dp (nd_shaped hy), hx, hy, q _ H0 H To.refl O (Rp.bl _)⟩
theorem ej_ne {x y : PyData} (hu : X.A.units + 64 < cLine) (ha : EJ X Γ B a (.da x) B1) (hb : EJ X Γ B1 b (.da y) B2) (hx : SeqAt.shaped x = true) (hy : SeqAt.shaped y = true) :
    EJ X Γ B (.Compare a [.NotEq] [b] pos) (.da (.bool (!PyData.eqv x y))) B2 :=
  ej_bin ha hb (fun _ _ h1 h2 => pe_cmpR (op_neD hu) h1 h2 (nomark _)) fun g v w H0 H O r1 r2 Q q =>
    ⟨x, y, (Rp.mono O.ex r1).dp (nd_shaped hx), (Rp.mono O.ex r2).dp (nd_shaped hy), hx, hy, q _ H0 H To.refl O (Rp.bl _)⟩
theorem ej_eqI {i j : Int} (hu : X.A.units + 64 < cLine) (ha : EJ X Γ B a (.da (.int i)) B1) (hb : EJ X Γ B1 b (.da (.int j)) B2) : EJ X Γ B (.Compare a [.Eq] [b] pos) (.da (.bool (decide (i = j)))) B2 := by
  have h := ej_eq (pos := pos) hu ha hb rfl rfl
  have e : PyData.eqv (.int i) (.int j) = decide (i = j) := by simp only [PyData.eqv]; exact Bool.beq_eq_decide_eq i j
  rw [e] at h; exact h
theorem ej_eqS {i j : Str} (ha : EJ X Γ B a (.da (.str i)) B1) (hb : EJ X Γ B1 b (.da (.str j)) B2) : EJ X Γ B (.Compare a [.Eq] [b] pos) (.da (.bool (decide (i = j)))) B2 :=
  ej_bin ha hb (fun _ _ h1 h2 => pe_cmpR op_eq h1 h2 (nomark _)) fun g v w H0 H O r1 r2 Q q => by
    rw [rvS r1, rvS r2]
    have e : decide (V.str i = V.str j) = decide (i = j) := by
      by_cases h : i = j
      · subst h; simp
      · rw [decide_eq_false h, decide_eq_false fun z => h (V.str.inj z)]
    refine ⟨rfl, ?_⟩
    rw [e]; exact q _ H0 H To.refl O (Rp.bl _)
theorem ej_ixT {ds : List PyData} {i : Int} {y : PyData} (ha : EJ X Γ B a (.da (.tuple ds)) B1) (hb : EJ X Γ B1 b (.da (.int i)) B2) (h : atI ds i = some y) (hs : PlainIx b) :
    EJ X Γ B (.Subscript a b pos) (.da y) B2 :=
  ej_bin ha hb (fun _ _ h1 h2 => pe_ix ix_tup h1 h2 hs) fun g v w H0 H O r1 r2 Q q => by
    obtain ⟨p, xs, rfl, hx, rs⟩ := rvT r1
    obtain ⟨j, h1, h2⟩ := Option.bind_eq_some_iff.mp h
    rw [← rs.length] at h1
    obtain ⟨z, h3, h4⟩ := rs.getD h2
    exact ⟨p, xs, i, z, rfl, rvI r2, seqT O.ex hx, Option.bind_eq_some_iff.mpr ⟨j, h1, h3⟩, q z H0 H To.refl O h4⟩
theorem ej_ixL {ds : List PyData} {i : Int} {y : PyData} (ha : EJ X Γ B a (.da (.list ds)) B1) (hb : EJ X Γ B1 b (.da (.int i)) B2) (h : atI ds i = some y) (hs : PlainIx b) :
    EJ X Γ B (.Subscript a b pos) (.da y) B2 :=
  ej_bin ha hb (fun _ _ h1 h2 => pe_ix ix_list h1 h2 hs) fun g v w H0 H O r1 r2 Q q => by
    obtain ⟨p, xs, rfl, hx, rs⟩ := rvL r1
    obtain ⟨j, h1, h2⟩ := Option.bind_eq_some_iff.mp h
    rw [← rs.length] at h1
    obtain ⟨z, h3, h4⟩ := rs.getD h2
    exact ⟨p, xs, i, z, rfl, rvI r2, SqL.of (O.ex _ _ hx), Option.bind_eq_some_iff.mpr ⟨j, h1, h3⟩, q z H0 H To.refl O h4⟩
theorem aj_nil : AJ X Γ B [] [] B := fun g σ H0 H _ O Q q => ⟨_, pa_nil, q [] H0 H To.refl O trivial⟩
theorem aj_cons {ds : List VD} (h : EJ X Γ B e d B1) (r : AJ X Γ B1 es ds B2) (hs : starEach (e :: es) X.env = (false, eval e X.env) :: starEach es X.env := by rfl) :
    AJ X Γ B (e :: es) (d :: ds) B2 := fun g σ H0 H E O Q q =>
  ⟨_, pa_cons (we e) (wa es) hs, h g σ H0 H E O _ fun v H1 H' t o rv => r g σ H1 H' (E.mono t.ex) o _ fun vs H2 H'' t2 o2 rs => q (v :: vs) H2 H'' (t.trans t2) o2 ⟨rv.mono t2.ex, rs⟩⟩
theorem RvAll.dat {K : PySem.W.Frag} {g : Gh} {H0 : Hp} : ∀ {vs : List V} {ds : List PyData}, RvAll K g H0 vs (ds.map .da) → RpAll K H0 vs ds
  | [], [], _ => .nil
  | _ :: _, _ :: _, h => .cons h.1 (RvAll.dat h.2)
  | [], _ :: _, h => h.elim
  | _ :: _, [], h => h.elim
theorem ej_tup {ds : List PyData} {k} (h : AJ X Γ B es (ds.map .da) B1) (hl : ds.length ≤ 1000) : EJ X Γ B (.Tuple es k pos) (.da (.tuple ds)) B1 := fun g σ H0 H E O Q q =>
  ⟨_, pe_tup (wa es), h g σ H0 H E O _ fun vs H1 H' t o rs => by
    have rs := RvAll.dat rs
    refine ⟨by rw [rs.length]; exact Nat.le_of_lt (small1000 hl), fun p n => ?_⟩
    obtain ⟨t2, o2⟩ := laid (o := .tup vs) o n
    exact q _ _ _ (t.trans t2) o2 (Rp.tup (SqT.of upd_same) (rs.mono t2.ex))⟩
theorem ej_lst {ds : List PyData} (h : AJ X Γ B es (ds.map .da) B1) (hl : ds.length ≤ 1000) : EJ X Γ B (.List es pos) (.da (.list ds)) B1 := fun g σ H0 H E O Q q =>
  ⟨_, pe_lst (wa es), h g σ H0 H E O _ fun vs H1 H' t o rs => by
    have rs := RvAll.dat rs
    refine ⟨by rw [rs.length]; exact Nat.le_of_lt (small1000 hl), fun p n => ?_⟩
    obtain ⟨t2, o2⟩ := laid (o := .lst vs) o n
    exact q _ _ _ (t.trans t2) o2 (Rp.lst upd_same (rs.mono t2.ex))⟩
theorem ej_catL {ds es' : List PyData} (ha : EJ X Γ B a (.da (.list ds)) B1) (hb : EJ X Γ B1 b (.da (.list es')) B2) (hl : ds.length + es'.length ≤ 1000) :
    EJ X Γ B (.BinOp a .Add b pos) (.da (.list (ds ++ es'))) B2 :=
  ej_bin ha hb (fun _ _ h1 h2 => pe_op op_cat h1 h2) fun g v w H0 H O r1 r2 Q q => by
    obtain ⟨p, xs, rfl, hx, rs⟩ := rvL r1
    obtain ⟨p2, ys, rfl, hy, rs2⟩ := rvL r2
    refine ⟨p, p2, xs, ys, rfl, rfl, O.ex _ _ hx, O.ex _ _ hy, by rw [rs.length, rs2.length]; exact Nat.le_of_lt (small1000 hl), fun n hn => ?_⟩
    obtain ⟨t2, o2⟩ := laid (o := .lst (xs ++ ys)) O hn
    exact q _ _ _ t2 o2 (Rp.lst upd_same ((rs.app rs2).mono t2.ex))
theorem ej_catT {ds es' : List PyData} (ha : EJ X Γ B a (.da (.tuple ds)) B1) (hb : EJ X Γ B1 b (.da (.tuple es')) B2) (hl : ds.length + es'.length ≤ 1000) :
    EJ X Γ B (.BinOp a .Add b pos) (.da (.tuple (ds ++ es'))) B2 :=
  ej_bin ha hb (fun _ _ h1 h2 => pe_op op_catA h1 h2) fun g v w H0 H O r1 r2 Q q => by
    obtain ⟨p, xs, rfl, hx, rs⟩ := rvT r1
    obtain ⟨p2, ys, rfl, hy, rs2⟩ := rvT r2
    refine ⟨p, p2, xs, ys, rfl, rfl, seqT O.ex hx, seqT O.ex hy, by rw [rs.length, rs2.length]; exact Nat.le_of_lt (small1000 hl), fun e => ?_, fun _ e => ?_, fun _ _ n hn => ?_⟩
    · subst e
      cases rs
      exact q _ _ _ To.refl O (Rp.tup hy rs2)
    · subst e
      cases rs2
      rw [List.append_nil] at q
      exact q _ _ _ To.refl O (Rp.tup hx rs)
    · obtain ⟨t2, o2⟩ := laid (o := .tup (xs ++ ys)) O hn
      exact q _ _ _ t2 o2 (Rp.tup (SqT.of upd_same) ((rs.app rs2).mono t2.ex))
end
end Gd
namespace Gd
open PySem PySem.Spec PyProof.Rows L2
structure FnG (P : Program) (w : World) (K : PySem.W.Frag) (mg : Str → Option Value)
    (base : Heap) (k : Nat) (f : Addr) (fd : FuncData) (ps : List Str) (sp : Sp) : Prop where
  len : ∀ vs H Q E, sp vs H Q E → List.length vs = ps.length
  run : ∀ (A : Around) (out : List Env) (s : Shared) (H : Hp) (args : Args) (us : List Value) (vs : List V) (Q : VK) (E : XK),
    A.guards = some [] → Room k A → Env0 P w K mg base A out s H → BindsTo s fd args (ps.zip us) →
    Vals vs us → sp vs H Q E → codeAny (model P w) A (.call (.ref f) args) (CR CX0 out P w H s Q E) s
theorem FnG.le {P : Program} {w : World} {K : PySem.W.Frag} {mg : Str → Option Value} {base : Heap} {j k : Nat} {f : Addr} {fd : FuncData} {ps : List Str} {sp : Sp}
    (F : FnG P w K mg base j f fd ps sp) (h : j ≤ k) : FnG P w K mg base k f fd ps sp :=
  ⟨F.len, fun A o s H ar us vs Q E hg hr => F.run A o s H ar us vs Q E hg (hr.mono h)⟩
structure Gx (k : Nat) (X : Cx) : Prop where
  gd : X.A.guards = some []
  rm : Room k X.A
  nd : X.N.Nodup
  calm : X.calm = true
theorem Gx.hu {k : Nat} {X : Cx} (g : Gx k X) : X.A.units + 64 < cLine := g.rm.units
theorem Gx.le {j k : Nat} {X : Cx} (g : Gx k X) (h : j ≤ k) : Gx j X := ⟨g.gd, g.rm.mono h, g.nd, g.calm⟩
theorem runG {X : Cx} {k : Nat} {f : Addr} {fd : FuncData} {ps : List Str} {sp : Sp} {E : XK} {pins : List (Addr × Obj)} {σ : L2.St} {H : Hp} {s : Shared}
    {Q : VK} {us : List Value} {vs : List V} (F : FnG X.prog X.w X.K X.mg X.base k f fd ps sp) (g : Gx k X) (hb : Binds X.K fd ps [])
    (I : Inv X pins σ H s) (r : Vals vs us) (h : sp vs H Q E) : wpAny (model X.prog X.w) X.A (call (.ref f) us) (EP X pins σ Q) X.xe s := by
  have e : us.length = ps.length := r.length.symm.trans (F.len _ _ _ _ h)
  have hz := hb s us I.kIn (by rw [List.append_nil]; exact e)
  rw [List.append_nil] at hz
  have cc := F.run X.A X.stack s H ⟨us, []⟩ us vs Q E g.gd g.rm I.env0 hz r h
  refine wpAny_call (codeAny_mono cc fun res s2 q => ?_)
  match res, q with
  | .ok (.ret _), q => exact I.after q
  | .ok .next, q => exact q.elim
  | .ok .brk, q => exact q.elim
  | .ok .cont, q => exact q.elim
  | .error _, q => exact q.elim
theorem fnG_of {P : Program} {w : World} {K : PySem.W.Frag} {mg : Str → Option Value} {base : Heap} {x qual : Str} {st : Stmt} {f : Addr} {fd : FuncData}
    {N ps : List Str} {k : Nat} {sp : Sp} (F : Fun K x qual st f fd) (S : FnScope N ps (defScope st)) (len : ∀ vs H Q E, sp vs H Q E → vs.length = ps.length)
    (body : ∀ (cdv : Value) (A : Around) (out : List Env) (s : Shared) (H : Hp) (vs : List V) (Q : VK) (E : XK),
      Gx k (cxOf CX0 P w K mg base N qual (defScope st) f cdv A out s H E).nox → sp vs H Q E →
      WS (cxOf CX0 P w K mg base N qual (defScope st) f cdv A out s H E).nox (defBody st) { nx := fun _ H' => Q .non H', rt := Q } (L2.start N vs) H) :
    FnG P w K mg base (k + 1) f fd ps sp := by
  obtain ⟨c1, c2, c3, c4, c5, c6, cdv, c8, c9, rfl, lk, hcd⟩ := F.ex
  refine ⟨len, ?_⟩
  intro A out s H args us vs Q E hg hr e0 hb r hsp
  have up : ∀ b o, base.get? b = some o → s.heap.get? b = some o := fun b o e => (e0.bs b o e).1
  have KX : K.In s.heap := e0.mod.kin.keeps up
  have lim : s.heap.NoLimit := e0.mod.nolimit.keeps up
  have kinds : ∀ y ∈ ps.zip us, (defScope st).names.lookup y.1 = some .local ∨
      ((defScope st).names.lookup y.1 = some .cell ∧ ((cellsFrom (s.heap.objs.size + 1) (defScope st).names []).lookup y.1).isSome = true) := by
    rintro ⟨n, v⟩ hy
    cases S.par n (List.of_mem_zip hy).1 with
    | inl q => exact .inl q
    | inr q => exact .inr ⟨q, PySem.W.cellsFrom_some _ _ _ (.inl q)⟩
  have recd := PySem.W.codeRec_of KX hcd
  refine codeAny_call_function hr.depth (KX _ _ lk) rfl S.co S.gen rfl recd (hb _ _ _ _ ?_)
  refine wpAny_newFunctionEnv_cells S.kind kinds fun env he s1 x1 => ?_
  subst he
  refine ⟨lim.keeps x1.toInCall.keep, codeAny_func ?_⟩
  have I := inv_start (CX := CX0) (E := E) (qual := qual) (f := f) (cd := cdv) S hr.hd e0 (len _ _ _ _ hsp) r x1
  have G : Gx k (cxOf CX0 P w K mg base N qual (defScope st) f cdv A out s H E).nox := ⟨hg, hr.deeper _, S.nd, rfl⟩
  obtain ⟨t, ht, hq⟩ := body cdv A out s H vs Q E G hsp
  refine wpAny_mono (ht.nox.run [] s1 (L2.start N vs) H _ I hq) (fun fl s2 q => ?_) (fun _ _ q => q)
  match fl, q with
  | .ret u, ⟨v, σ', H', J, rv, q⟩ => exact ⟨v, H', J.os, J.bare, J.base, J.hok, rv, q⟩
  | .next, ⟨σ', H', J, q⟩ => exact ⟨.non, H', J.os, J.bare, J.base, J.hok, rfl, q⟩
  | .brk, ⟨_, _, _, q⟩ => exact q.elim
  | .cont, ⟨_, _, _, q⟩ => exact q.elim
abbrev Rel := List VD → Bag → PyData → Bag → Prop
def DefSp (K : PySem.W.Frag) (R : Rel) : Sp := fun vs H Q _ =>
  ∃ g Γ B H0 r B', RvAll K g H0 vs Γ ∧ On K g B H0 H ∧ R Γ B r B' ∧
    ∀ v H0' H', To g H0 H H0' H' → On K g B' H0' H' → Rp K H0' v r → Q v H'
def Cal (P : Program) (w : World) (K : PySem.W.Frag) (mg : Str → Option Value) (base : Heap) (x : Str) (k : Nat) (R : Rel) : Prop :=
  ∃ f fd ps, FnG P w K mg base k f fd ps (DefSp K R) ∧ mg x = some (.ref f) ∧ PySem.W.keepIn K (.ref f) = true ∧ Binds K fd ps []
theorem Cal.imp {P : Program} {w : World} {K : PySem.W.Frag} {mg : Str → Option Value} {base : Heap} {x : Str} {k : Nat} {R R' : Rel}
    (c : Cal P w K mg base x k R) (h : ∀ Γ B r B', R' Γ B r B' → R Γ B r B') : Cal P w K mg base x k R' := by
  obtain ⟨f, fd, ps, F, h1, h2, h3⟩ := c
  refine ⟨f, fd, ps, ⟨?_, ?_⟩, h1, h2, h3⟩
  · rintro vs H Q E ⟨g, Γ, B, H0, r, B', a, b, c, d⟩
    exact F.len vs H Q E ⟨g, Γ, B, H0, r, B', a, b, h _ _ _ _ c, d⟩
  · intro A o s H ar us vs Q E q1 q2 q3 q4 q5 ⟨g, Γ, B, H0, r, B', a, b, c, d⟩
    exact F.run A o s H ar us vs Q E q1 q2 q3 q4 q5 ⟨g, Γ, B, H0, r, B', a, b, h _ _ _ _ c, d⟩
theorem start_env {K : PySem.W.Frag} {g : Gh} {H0 : Hp} {N : List Str} {vs : List V} {Γ : List VD} (h : RvAll K g H0 vs Γ) (hl : Γ.length ≤ N.length) :
    EnvD K g H0 (L2.start N vs) (Γ ++ List.replicate (N.length - Γ.length) .no) := by
  have e := h.length
  refine ⟨?_, ?_⟩
  · unfold L2.start; rw [List.length_append, List.length_append, List.length_map, List.length_replicate, List.length_replicate]; omega
  · have : ∀ (vs : List V) (Γ : List VD) (m n : Nat), RvAll K g H0 vs Γ → ∀ (i : Nat) (d : VD), (Γ ++ List.replicate m .no)[i]? = some d → d ≠ .no →
        ∃ v : V, (vs.map some ++ List.replicate n (none : Option V))[i]? = some (some v) ∧ Rv K g H0 v d := by
      intro vs
      induction vs with
      | nil =>
        intro Γ m n h i d h1 h2
        cases Γ with
        | nil =>
          rw [List.nil_append, List.getElem?_replicate] at h1
          split at h1
          · cases h1; exact absurd rfl h2
          · cases h1
        | cons _ _ => exact h.elim
      | cons v vs ih =>
        intro Γ m n h i d h1 h2
        cases Γ with
        | nil => exact h.elim
        | cons d' Γ =>
          cases i with
          | zero => cases h1; exact ⟨v, rfl, h.1⟩
          | succ i => exact ih Γ m n h.2 i d h1 h2
    unfold L2.start
    exact this vs Γ _ _ h
theorem cal_of {P : Program} {w : World} {K : PySem.W.Frag} {mg : Str → Option Value} {base : Heap} {x qual : Str} {st : Stmt} {f : Addr} {fd : FuncData}
    {N ps : List Str} {k : Nat} {R : Rel} (F : Fun K x qual st f fd) (hm : mg x = some (.ref f)) (hb : Binds K fd ps []) (S : FnScope N ps (defScope st))
    (len : ∀ Γ B r B', R Γ B r B' → Γ.length = ps.length)
    (body : ∀ (cdv : Value) (A : Around) (out : List Env) (s : Shared) (H : Hp) (E : XK),
      Gx k (cxOf CX0 P w K mg base N qual (defScope st) f cdv A out s H E).nox → ∀ Γ B r B', R Γ B r B' →
      SJ (cxOf CX0 P w K mg base N qual (defScope st) f cdv A out s H E).nox (Γ ++ List.replicate (N.length - ps.length) .no) B (defBody st)
        { nx := fun _ B2 => r = .none ∧ B2 = B', rt := fun d B2 => d = r ∧ B2 = B' }) :
    Cal P w K mg base x (k + 1) R := by
  have hpl : ps.length ≤ N.length := by
    have := congrArg List.length S.pre
    rw [List.length_take] at this; omega
  refine ⟨f, fd, ps, fnG_of F S ?_ ?_, hm, F.kp, hb⟩
  · rintro vs H Q E ⟨g, Γ, B, H0, r, B', a, b, c, d⟩
    rw [a.length]; exact len _ _ _ _ c
  · intro cdv A out s H vs Q E G ⟨g, Γ, B, H0, r, B', a, b, c, d⟩
    have hl := len _ _ _ _ c
    have E0' := start_env (N := N) a (by rw [hl]; exact hpl)
    rw [hl] at E0'
    refine body cdv A out s H E G Γ B r B' c g _ H0 H E0' b _ ⟨?_, ?_, ?_, ?_⟩
    · rintro Γ2 B2 σ H1 H' ⟨rfl, rfl⟩ t _ o
      exact d _ _ _ t o .non
    · rintro r2 B2 v H1 H' ⟨rfl, rfl⟩ t o rv
      exact d _ _ _ t o rv
    · intro _ _ _ _ _ z; exact z.elim
    · intro _ _ _ _ _ z; exact z.elim
section
variable {X : Cx} {Γ : List VD} {B B1 B2 B' : Bag} {e a b c : Expr} {es : List Expr} {d da db dc : VD} {pos p pos' : Pos} {rest ss s1 s2 : List Stmt} {E : En}
theorem ej_call {x : Str} {k : Nat} {R : Rel} {ds : List VD} {r : PyData} (c : Cal X.prog X.w X.K X.mg X.base x k R) (g : Gx k X) (ha : AJ X Γ B (e :: es) ds B1) (hR : R ds B1 r B2)
    (hg : Gl X x := by rfl) (hdb : (x == ("__debug__" : Str)) = false := by decide) (he : starEach (e :: es) X.env = (false, eval e X.env) :: starEach es X.env := by rfl)
    (hpl : (backTo pos (starEach es X.env)).any (·.1) = false := by rfl) : EJ X Γ B (.Call (.Name x p) (e :: es) [] pos) (.da r) B2 := by
  obtain ⟨f, fd, ps, F, hm, hk, hb⟩ := c
  intro gh σ H0 H E O Q q
  refine ⟨fun σ H Q => WA X (e :: es) σ H fun vs H1 => DefSp X.K R vs H1 Q E0, ⟨fun pins s σ H Q I h => ?_⟩, ?_⟩
  · refine wpAny_Call_Name_kw (ld_glob I hg hm ?_ hdb)
    refine PySem.W.callWith_K (h₀ := X.base) I.ok.mod.kin hk (thn ((wa (e :: es)).run pos pins s σ H _ I h) ?_) he hpl
    rintro us s1 ⟨vs, H1, I1, r1, q1⟩
    exact ⟨I1.kIn, runG F g hb I1 r1 q1⟩
  · refine ha gh σ H0 H E O _ fun vs H1 H' t o rs => ?_
    exact ⟨gh, ds, B1, H1, r, B2, rs, o, hR, fun v H2 H'' t2 o2 rv => q v H2 H'' (t.trans t2) o2 rv⟩
theorem ej_callB {x : Str} {id : String} {r : List V → Hp → VK → Prop} {ds : List VD} (hc : CallR X (.builtin id) r) (hm : X.mg x = none) (ha : AJ X Γ B (e :: es) ds B1)
    (hr : ∀ g vs H0 H, On X.K g B1 H0 H → RvAll X.K g H0 vs ds → ∀ Q : VK, (∀ z H0' H', To g H0 H H0' H' → On X.K g B1 H0' H' → Rv X.K g H0' z d → Q z H') → r vs H Q)
    (hv : bootBuiltins x = some (.builtin id) := by decide +kernel) (hg : Gl X x := by rfl) (hn : x ≠ "__name__" := by decide) (hdb : (x == ("__debug__" : Str)) = false := by decide)
    (hpl : (backTo pos (starEach es X.env)).any (·.1) = false := by rfl) (he : starEach (e :: es) X.env = (false, eval e X.env) :: starEach es X.env := by rfl) :
    EJ X Γ B (.Call (.Name x p) (e :: es) [] pos) d B1 := fun g σ H0 H E O Q q =>
  ⟨_, pe_callB hc hg hm hv (wa (e :: es)) hn hdb he hpl, ha g σ H0 H E O _ fun vs H1 H' t o rs => hr g vs H1 H' o rs Q fun z H2 H'' t2 o2 rz => q z H2 H'' (t.trans t2) o2 rz⟩
theorem ej_callTy {x : Str} {T : String} {r : List V → Hp → VK → Prop} {ds : List VD} (hc : CallR X (.type T) r) (hm : X.mg x = none) (ha : AJ X Γ B (e :: es) ds B1)
    (hr : ∀ g vs H0 H, On X.K g B1 H0 H → RvAll X.K g H0 vs ds → ∀ Q : VK, (∀ z H0' H', To g H0 H H0' H' → On X.K g B1 H0' H' → Rv X.K g H0' z d → Q z H') → r vs H Q)
    (hv : bootBuiltins x = some (.type T) := by decide +kernel) (hg : Gl X x := by rfl) (hn : x ≠ "__name__" := by decide) (hdb : (x == ("__debug__" : Str)) = false := by decide)
    (hpl : (backTo pos (starEach es X.env)).any (·.1) = false := by rfl) (he : starEach (e :: es) X.env = (false, eval e X.env) :: starEach es X.env := by rfl) :
    EJ X Γ B (.Call (.Name x p) (e :: es) [] pos) d B1 := fun g σ H0 H E O Q q =>
  ⟨_, pe_callTy hc hg hm hv (wa (e :: es)) hn hdb he hpl, ha g σ H0 H E O _ fun vs H1 H' t o rs => hr g vs H1 H' o rs Q fun z H2 H'' t2 o2 rz => q z H2 H'' (t.trans t2) o2 rz⟩
theorem rv1 {K : PySem.W.Frag} {g : Gh} {H0 : Hp} {vs : List V} {d : VD} (h : RvAll K g H0 vs [d]) : ∃ v, vs = [v] ∧ Rv K g H0 v d := by
  match vs, h with
  | [v], h => exact ⟨v, rfl, h.1⟩
theorem rv2 {K : PySem.W.Frag} {g : Gh} {H0 : Hp} {vs : List V} {d d' : VD} (h : RvAll K g H0 vs [d, d']) : ∃ v v', vs = [v, v'] ∧ Rv K g H0 v d ∧ Rv K g H0 v' d' := by
  match vs, h with
  | [v, v'], h => exact ⟨v, v', rfl, h.1, h.2.1⟩
theorem ej_abs {i : Int} (hm : X.mg "abs" = none) (ha : EJ X Γ B a (.da (.int i)) B1) (hs : starEach [a] X.env = [(false, eval a X.env)] := by rfl) (hg : Gl X "abs" := by rfl) :
    EJ X Γ B (.Call (.Name "abs" p) [a] [] pos) (.da (.int (if i < 0 then -i else i))) B1 :=
  ej_callB call_abs hm (aj_cons ha aj_nil hs) (fun g vs H0 H O r Q q => by
    obtain ⟨v, rfl, h⟩ := rv1 r
    exact ⟨i, by rw [rvI h], q _ _ _ To.refl O (Rp.int _)⟩) (hg := hg) (he := hs)
theorem ej_int1 {i : Int} (hm : X.mg "int" = none) (ha : EJ X Γ B a (.da (.int i)) B1) (hs : starEach [a] X.env = [(false, eval a X.env)] := by rfl) (hg : Gl X "int" := by rfl) :
    EJ X Γ B (.Call (.Name "int" p) [a] [] pos) (.da (.int i)) B1 :=
  ej_callTy call_int1 hm (aj_cons ha aj_nil hs) (fun g vs H0 H O r Q q => by
    obtain ⟨v, rfl, h⟩ := rv1 r
    exact .inl ⟨i, by rw [rvI h], q _ _ _ To.refl O (Rp.int _)⟩) (hg := hg) (he := hs)
theorem ej_intB {i : Bool} (hm : X.mg "int" = none) (ha : EJ X Γ B a (.da (.bool i)) B1) (hs : starEach [a] X.env = [(false, eval a X.env)] := by rfl) (hg : Gl X "int" := by rfl) :
    EJ X Γ B (.Call (.Name "int" p) [a] [] pos) (.da (.int (if i then 1 else 0))) B1 :=
  ej_callTy call_int1 hm (aj_cons ha aj_nil hs) (fun g vs H0 H O r Q q => by
    obtain ⟨v, rfl, h⟩ := rv1 r
    exact .inr ⟨i, by rw [rvB h], q _ _ _ To.refl O (Rp.int _)⟩) (hg := hg) (he := hs)
theorem ej_lenL {ds : List PyData} (hm : X.mg "len" = none) (ha : EJ X Γ B a (.da (.list ds)) B1) (hs : starEach [a] X.env = [(false, eval a X.env)] := by rfl) (hg : Gl X "len" := by rfl) :
    EJ X Γ B (.Call (.Name "len" p) [a] [] pos) (.da (.int ds.length)) B1 :=
  ej_callB call_len_seq hm (aj_cons ha aj_nil hs) (fun g vs H0 H O r Q q => by
    obtain ⟨v, rfl, h⟩ := rv1 r
    obtain ⟨p, xs, rfl, hx, rs⟩ := rvL h
    refine ⟨p, xs, rfl, .inl (SqL.of (O.ex _ _ hx)), ?_⟩
    rw [rs.length]; exact q _ _ _ To.refl O (Rp.int _)) (hg := hg) (he := hs)
theorem ej_lenT {ds : List PyData} (hm : X.mg "len" = none) (ha : EJ X Γ B a (.da (.tuple ds)) B1) (hs : starEach [a] X.env = [(false, eval a X.env)] := by rfl) (hg : Gl X "len" := by rfl) :
    EJ X Γ B (.Call (.Name "len" p) [a] [] pos) (.da (.int ds.length)) B1 :=
  ej_callB call_len_seq hm (aj_cons ha aj_nil hs) (fun g vs H0 H O r Q q => by
    obtain ⟨v, rfl, h⟩ := rv1 r
    obtain ⟨p, xs, rfl, hx, rs⟩ := rvT h
    refine ⟨p, xs, rfl, .inr (seqT O.ex hx), ?_⟩
    rw [rs.length]; exact q _ _ _ To.refl O (Rp.int _)) (hg := hg) (he := hs)
structure Shows (d : PyData) : Prop where
  sh : d.showable = true
  nd : d.hasDict = false
  dp : d.depth ≤ 60
  len : d.shown.length ≤ sizeLine
theorem call_repr {k : Nat} (g : Gx k X) : CallR X (.builtin "repr") (fun xs H Q => ∃ x d, xs = [x] ∧ Dp X.K H x d ∧ (∃ p, x = .ref p) ∧ Shows d ∧ Q (.str d.shown) H) := by
  intro pins s σ H xs us Q I rr h
  obtain ⟨x, d, rfl, hd, ⟨p, rfl⟩, S, q⟩ := h
  obtain ⟨u, rfl, rx⟩ := vals1 rr
  cases (show u = Value.ref p from rx)
  obtain ⟨as, rd⟩ := Dp.reads I d (.ref p) (.ref p) hd rfl
  have hu := g.rm.un
  refine repr_of_reads' rd S.sh (fun z => by rw [S.nd] at z; cases z) g.gd (by have := S.dp; omega) (fun _ _ e => e) (fun h' u tk kp => ?_) S.len
  exact ⟨.str d.shown, H, I.kept (t' := tk) kp, ⟨u, rfl⟩, q⟩
def boxed : PyData → Bool
  | .list _ => true
  | .tuple _ => true
  | _ => false
theorem ej_repr {k : Nat} {y : PyData} (g : Gx k X) (hm : X.mg "repr" = none) (ha : EJ X Γ B a (.da y) B1) (hb : boxed y = true) (S : Shows y)
    (hs : starEach [a] X.env = [(false, eval a X.env)] := by rfl) (hg : Gl X "repr" := by rfl) :
    EJ X Γ B (.Call (.Name "repr" p) [a] [] pos) (.da (.str y.shown)) B1 :=
  ej_callB (call_repr g) hm (aj_cons ha aj_nil hs) (fun gh vs H0 H O r Q q => by
    obtain ⟨v, rfl, h⟩ := rv1 r
    have h : Rp X.K H0 v y := h
    refine ⟨v, y, rfl, (h.mono O.ex).dp S.nd, ?_, S, q _ _ _ To.refl O (Rp.str _)⟩
    cases h with
    | lst _ _ => exact ⟨_, rfl⟩
    | tup _ _ => exact ⟨_, rfl⟩
    | non => cases hb
    | bl _ => cases hb
    | int _ => cases hb
    | str _ => cases hb
    | dct _ => cases hb
    | dctT _ _ => cases hb) (hg := hg) (he := hs)
theorem tj_val {x : Bool} (h : EJ X Γ B e (.da (.bool x)) B1) (he : ∀ whole, isTrue e X.env whole = (do let v ← whole; standAt e.pos; holding [v] (truthy v)) := by intro _; rfl) :
    TJ X Γ B e x B1 := fun g σ H0 H E O Q q => ⟨_, pt_val (we e) he, h g σ H0 H E O _ fun v H1 H' t o r => ⟨x, rvB r, q H1 H' t o⟩⟩
theorem tj_cmp {op : CmpOp} {x : Bool} {r : R2} (ha : EJ X Γ B a da B1) (hb : EJ X Γ B1 b db B2) (ho : OpR X (compareOp op) r) (hm : behindInMarks op b = false)
    (hr : ∀ g v w H0 H, On X.K g B2 H0 H → Rv X.K g H0 v da → Rv X.K g H0 w db → ∀ Q : VK, (∀ H0' H', To g H0 H H0' H' → On X.K g B2 H0' H' → Q (.bl x) H') → r v w H Q) :
    TJ X Γ B (.Compare a [op] [b] pos) x B2 := fun g σ H0 H E O Q q =>
  ⟨_, pt_cmpR ho (we a) (we b) hm, ha g σ H0 H E O _ fun v H1 H' t o rv => hb g σ H1 H' (E.mono t.ex) o _ fun w H2 H'' t2 o2 rw' =>
    hr g v w H2 H'' o2 (rv.mono t2.ex) rw' _ fun H3 H3' t3 o3 => ⟨x, rfl, q H3 H3' ((t.trans t2).trans t3) o3⟩⟩
theorem tj_cmpI {i j : Int} {z : Int → Int → V} {y : Bool} {op : CmpOp} (ha : EJ X Γ B a (.da (.int i)) B1) (hb : EJ X Γ B1 b (.da (.int j)) B2)
    (ho : OpR X (compareOp op) (rI0 z)) (hz : z i j = .bl y) (hm : behindInMarks op b = false) : TJ X Γ B (.Compare a [op] [b] pos) y B2 :=
  tj_cmp ha hb ho hm fun g v w H0 H O r1 r2 Q q => ⟨i, j, rvI r1, rvI r2, by rw [hz]; exact q H0 H To.refl O⟩
theorem tj_lt {i j : Int} (ha : EJ X Γ B a (.da (.int i)) B1) (hb : EJ X Γ B1 b (.da (.int j)) B2) : TJ X Γ B (.Compare a [.Lt] [b] pos) (decide (i < j)) B2 := tj_cmpI ha hb op_lt rfl (nomark _)
theorem tj_le {i j : Int} (ha : EJ X Γ B a (.da (.int i)) B1) (hb : EJ X Γ B1 b (.da (.int j)) B2) : TJ X Γ B (.Compare a [.LtE] [b] pos) (decide (i ≤ j)) B2 := tj_cmpI ha hb op_le rfl (nomark _)
theorem tj_gt {i j : Int} (ha : EJ X Γ B a (.da (.int i)) B1) (hb : EJ X Γ B1 b (.da (.int j)) B2) : TJ X Γ B (.Compare a [.Gt] [b] pos) (decide (j < i)) B2 := tj_cmpI ha hb op_gt rfl (nomark _)
theorem tj_ge {i j : Int} (ha : EJ X Γ B a (.da (.int i)) B1) (hb : EJ X Γ B1 b (.da (.int j)) B2) : TJ X Γ B (.Compare a [.GtE] [b] pos) (decide (j ≤ i)) B2 := tj_cmpI ha hb op_ge rfl (nomark _)
theorem tj_eq {x y : PyData} (hu : X.A.units + 64 < cLine) (ha : EJ X Γ B a (.da x) B1) (hb : EJ X Γ B1 b (.da y) B2) (hx : SeqAt.shaped x = true) (hy : SeqAt.shaped y = true) :
    TJ X Γ B (.Compare a [.Eq] [b] pos) (PyData.eqv x y) B2 :=
  tj_cmp ha hb (op_eqD hu) (nomark _) fun g v w H0 H O r1 r2 Q q => ⟨x, y, (Rp.mono O.ex r1).dp (nd_shaped hx), (Rp.mono O.ex r2).dp (nd_shaped hy), hx, hy, q H0 H To.refl O⟩
theorem tj_ne {x y : PyData} (hu : X.A.units + 64 < cLine) (ha : EJ X Γ B a (.da x) B1) (hb : EJ X Γ B1 b (.da y) B2) (hx : SeqAt.shaped x = true) (hy : SeqAt.shaped y = true) :
    TJ X Γ B (.Compare a [.NotEq] [b] pos) (!PyData.eqv x y) B2 :=
  tj_cmp ha hb (op_neD hu) (nomark _) fun g v w H0 H O r1 r2 Q q => ⟨x, y, (Rp.mono O.ex r1).dp (nd_shaped hx), (Rp.mono O.ex r2).dp (nd_shaped hy), hx, hy, q H0 H To.refl O⟩
theorem eqv_int (i j : Int) : PyData.eqv (.int i) (.int j) = decide (i = j) := by
  simp only [PyData.eqv]; exact Bool.beq_eq_decide_eq i j
theorem tj_eqI {i j : Int} (hu : X.A.units + 64 < cLine) (ha : EJ X Γ B a (.da (.int i)) B1) (hb : EJ X Γ B1 b (.da (.int j)) B2) : TJ X Γ B (.Compare a [.Eq] [b] pos) (decide (i = j)) B2 := by
  rw [← eqv_int]; exact tj_eq hu ha hb rfl rfl
theorem tj_neI {i j : Int} (hu : X.A.units + 64 < cLine) (ha : EJ X Γ B a (.da (.int i)) B1) (hb : EJ X Γ B1 b (.da (.int j)) B2) : TJ X Γ B (.Compare a [.NotEq] [b] pos) (!decide (i = j)) B2 := by
  rw [← eqv_int]; exact tj_ne hu ha hb rfl rfl
theorem tj_eqS {i j : Str} (ha : EJ X Γ B a (.da (.str i)) B1) (hb : EJ X Γ B1 b (.da (.str j)) B2) : TJ X Γ B (.Compare a [.Eq] [b] pos) (decide (i = j)) B2 :=
  tj_cmp ha hb op_eq (nomark _) fun g v w H0 H O r1 r2 Q q => by
    rw [rvS r1, rvS r2]
    have e : decide (V.str i = V.str j) = decide (i = j) := by
      by_cases h : i = j
      · subst h; simp
      · rw [decide_eq_false h, decide_eq_false fun z => h (V.str.inj z)]
    refine ⟨rfl, ?_⟩
    rw [e]; exact q H0 H To.refl O
theorem tj_is {x y : Bool} (h : TJ X Γ B e x B1) (hxy : x = y) : TJ X Γ B e y B1 := hxy ▸ h
theorem ej_is {x y : PyData} (h : EJ X Γ B e (.da x) B1) (hxy : x = y) : EJ X Γ B e (.da y) B1 := hxy ▸ h
theorem tj_not {x : Bool} (h : TJ X Γ B e x B1) : TJ X Γ B (.UnaryOp .Not e pos) (!x) B1 := fun g σ H0 H E O Q q =>
  ⟨_, pt_not (wt e), h g σ H0 H E O _ fun H1 H' t o => q H1 H' t o⟩
def WW (X : Cx) (e : Expr) : TT := fun σ H Q => ∃ t, PW X e t ∧ t σ H Q
theorem ww {X : Cx} (e : Expr) : PW X e (WW X e) := ⟨fun w p s σ H Q I ⟨_, ht, h⟩ => ht.run w p s σ H Q I h⟩
def WJ (X : Cx) (Γ : List VD) (B : Bag) (e : Expr) (b : Bool) (B' : Bag) : Prop :=
  ∀ g σ H0 H, EnvD X.K g H0 σ Γ → On X.K g B H0 H → ∀ Q : Bool → Hp → Prop, (∀ H0' H', To g H0 H H0' H' → On X.K g B' H0' H' → Q b H') → WW X e σ H Q
theorem tj_w {x : Bool} (h : WJ X Γ B e x B1) : TJ X Γ B e x B1 := fun g σ H0 H E O Q q => let ⟨t, h1, h2⟩ := h g σ H0 H E O Q q; ⟨t, h1.pt, h2⟩
theorem wj_and1 {x : Bool} (h : TJ X Γ B e x B1) : WJ X Γ B (.BoolOp .And [e] pos) x B1 := fun g σ H0 H E O Q q => ⟨_, pw_and1 (wt e), h g σ H0 H E O Q q⟩
theorem wj_or1 {x : Bool} (h : TJ X Γ B e x B1) : WJ X Γ B (.BoolOp .Or [e] pos) x B1 := fun g σ H0 H E O Q q => ⟨_, pw_or1 (wt e), h g σ H0 H E O Q q⟩
theorem wj_and {x y : Bool} (h : TJ X Γ B e x B) (hr : x = true → WJ X Γ B (.BoolOp .And (a :: es) pos) y B) : WJ X Γ B (.BoolOp .And (e :: a :: es) pos) (x && y) B := fun g σ H0 H E O Q q =>
  ⟨_, pw_and (wt e) (ww _), h g σ H0 H E O _ fun H1 H' t o => by
    cases x with
    | true => exact iteT (hr rfl g σ H1 H' (E.mono t.ex) o Q fun H2 H'' t2 o2 => q H2 H'' (t.trans t2) o2)
    | false => exact iteF (q H1 H' t o)⟩
theorem wj_or {x y : Bool} (h : TJ X Γ B e x B) (hr : x = false → WJ X Γ B (.BoolOp .Or (a :: es) pos) y B) : WJ X Γ B (.BoolOp .Or (e :: a :: es) pos) (x || y) B := fun g σ H0 H E O Q q =>
  ⟨_, pw_or (wt e) (ww _), h g σ H0 H E O _ fun H1 H' t o => by
    cases x with
    | true => exact iteT (q H1 H' t o)
    | false => exact iteF (hr rfl g σ H1 H' (E.mono t.ex) o Q fun H2 H'' t2 o2 => q H2 H'' (t.trans t2) o2)⟩
theorem ej_one {op} (h : EJ X Γ B e d B1) : EJ X Γ B (.BoolOp op [e] pos) d B1 := fun g σ H0 H E O Q q => ⟨_, pe_one (we e), h g σ H0 H E O Q q⟩
theorem ej_and {x y : Bool} (h : EJ X Γ B e (.da (.bool x)) B1) (hr : x = true → EJ X Γ B1 (.BoolOp .And (a :: es) pos) (.da (.bool y)) B1) : EJ X Γ B (.BoolOp .And (e :: a :: es) pos) (.da (.bool (x && y))) B1 := fun g σ H0 H E O Q q =>
  ⟨_, pe_and (we e) (we _), h g σ H0 H E O _ fun v H1 H' t o r => ⟨x, rvB r, by
    cases x with
    | true => exact iteT (hr rfl g σ H1 H' (E.mono t.ex) o Q fun z H2 H'' t2 o2 r2 => q z H2 H'' (t.trans t2) o2 r2)
    | false => exact iteF (q _ H1 H' t o (Rp.bl _))⟩⟩
theorem ej_or {x y : Bool} (h : EJ X Γ B e (.da (.bool x)) B1) (hr : x = false → EJ X Γ B1 (.BoolOp .Or (a :: es) pos) (.da (.bool y)) B1) : EJ X Γ B (.BoolOp .Or (e :: a :: es) pos) (.da (.bool (x || y))) B1 := fun g σ H0 H E O Q q =>
  ⟨_, pe_or (we e) (we _), h g σ H0 H E O _ fun v H1 H' t o r => ⟨x, rvB r, by
    cases x with
    | true => exact iteT (q _ H1 H' t o (Rp.bl _))
    | false => exact iteF (hr rfl g σ H1 H' (E.mono t.ex) o Q fun z H2 H'' t2 o2 r2 => q z H2 H'' (t.trans t2) o2 r2)⟩⟩
theorem ej_not {x : Bool} (h : EJ X Γ B e (.da (.bool x)) B1) : EJ X Γ B (.UnaryOp .Not e pos) (.da (.bool (!x))) B1 := fun g σ H0 H E O Q q =>
  ⟨_, pe_not (we e), h g σ H0 H E O _ fun v H1 H' t o r => ⟨x, rvB r, q _ H1 H' t o (Rp.bl _)⟩⟩
theorem ej_if {x : Bool} (h : TJ X Γ B c x B1) (h1 : x = true → EJ X Γ B1 a d B2) (h2 : x = false → EJ X Γ B1 b d B2) : EJ X Γ B (.IfExp c a b pos) d B2 := fun g σ H0 H E O Q q =>
  ⟨_, pe_ifExp (wt c) (we a) (we b), h g σ H0 H E O _ fun H1 H' t o => by
    cases x with
    | true => exact iteT (h1 rfl g σ H1 H' (E.mono t.ex) o Q fun z H2 H'' t2 o2 r2 => q z H2 H'' (t.trans t2) o2 r2)
    | false => exact iteF (h2 rfl g σ H1 H' (E.mono t.ex) o Q fun z H2 H'' t2 o2 r2 => q z H2 H'' (t.trans t2) o2 r2)⟩
theorem sj_nil (h : E.nx Γ B) : SJ X Γ B [] E := fun g σ H0 H Ev O D G => ⟨_, pss_nil, G.nx Γ B σ H0 H h To.refl Ev O⟩
theorem sj_ret (h : EJ X Γ B e (.da da') B1) (hr : E.rt da' B1) : SJ X Γ B (.Return (some e) pos :: rest) E := fun g σ H0 H Ev O D G =>
  ⟨_, pss_cons (ps_ret (we e)) (ws rest), h g σ H0 H Ev O _ fun v H1 H' t o r => G.rt _ B1 v H1 H' hr t o r⟩
theorem sj_set (i : Nat) {x : Str} (nd : X.N.Nodup) (h : EJ X Γ B e d B1) (k : SJ X (Γ.set i d) B1 rest E) (hi : X.N[i]? = some x := by rfl)
    (hx : Loc X.env.scope x := by first | exact Or.inl rfl | exact Or.inr rfl) (hs : swapsWith e (some (.Name x pos')) pos.line X.env = pure false := by rfl)
    (hf : X.fn x = true ∨ X.env.scope.names.lookup x = some .local := by first | exact Or.inl rfl | exact Or.inr rfl) : SJ X Γ B (.Assign [.Name x pos'] e pos :: rest) E := fun g σ H0 H Ev O D G =>
  ⟨_, pss_cons (ps_set nd hi hx (we e) hs hf) (ws rest), h g σ H0 H Ev O _ fun v H1 H' t o r => k g _ H1 H' ((Ev.mono t.ex).set i r) o D (G.on t)⟩
theorem sj_if {x : Bool} (h : TJ X Γ B c x B1) (h1 : x = true → SJ X Γ B1 s1 { E with nx := fun Γ' B' => SJ X Γ' B' rest E }) (h2 : x = false → SJ X Γ B1 s2 { E with nx := fun Γ' B' => SJ X Γ' B' rest E }) :
    SJ X Γ B (.If c s1 s2 pos :: rest) E := fun g σ H0 H Ev O D G =>
  ⟨_, pss_cons (ps_if (wt c) (ws s1) (ws s2)) (ws rest), h g σ H0 H Ev O _ fun H1 H' t o => by
    have G' : Gets X { E with nx := fun Γ' B' => SJ X Γ' B' rest E } g H1 H' { D with nx := WS X rest D } :=
      ⟨fun Γ2 B2 σ2 H2 H'' q t2 ev o2 => q g σ2 H2 H'' ev o2 D (G.on (t.trans t2)), (G.on t).rt, (G.on t).bk, (G.on t).ct⟩
    cases x with
    | true => exact iteT (h1 rfl g σ H1 H' (Ev.mono t.ex) o _ G')
    | false => exact iteF (h2 rfl g σ H1 H' (Ev.mono t.ex) o _ G')⟩
theorem sj_when {x : Bool} (h : TJ X Γ B c x B1) (h1 : x = true → SJ X Γ B1 s1 { E with nx := fun Γ' B' => SJ X Γ' B' rest E }) (h2 : x = false → SJ X Γ B1 rest E) :
    SJ X Γ B (.If c s1 [] pos :: rest) E := sj_if h h1 fun e => sj_nil (h2 e)
theorem sj_mono {E' : En} (h : SJ X Γ B ss E) (h1 : ∀ Γ B, E.nx Γ B → E'.nx Γ B) (h2 : ∀ r B, E.rt r B → E'.rt r B) (h3 : ∀ Γ B, E.bk Γ B → E'.bk Γ B) (h4 : ∀ Γ B, E.ct Γ B → E'.ct Γ B) : SJ X Γ B ss E' :=
  fun g σ H0 H Ev O D G => h g σ H0 H Ev O D ⟨fun Γ B σ a b q => G.nx Γ B σ a b (h1 _ _ q), fun r B v a b q => G.rt r B v a b (h2 _ _ q), fun Γ B σ a b q => G.bk Γ B σ a b (h3 _ _ q), fun Γ B σ a b q => G.ct Γ B σ a b (h4 _ _ q)⟩
end
end Gd
namespace Gd
open PySem PySem.Spec PyProof.Rows L2
def cutP (ds : List PyData) (lo hi : Option Int) : List PyData := (ds.drop (HT.sIx ds.length 0 lo)).take (HT.sIx ds.length ds.length hi - HT.sIx ds.length 0 lo)
theorem RpAll.cut {K : PySem.W.Frag} {H : Hp} {xs : List V} {ds : List PyData} (r : RpAll K H xs ds) (lo hi : Option Int) : RpAll K H (cutV xs lo hi) (cutP ds lo hi) := by
  unfold cutV cutP
  rw [r.length]
  exact (r.drop _).take _
theorem RpAll.ints {K : PySem.W.Frag} {H : Hp} : ∀ ns : List Int, RpAll K H (ns.map V.int) (ns.map PyData.int)
  | [] => .nil
  | n :: ns => .cons (.int n) (RpAll.ints ns)
theorem RpAll.ints_of {K : PySem.W.Frag} {H : Hp} : ∀ {xs : List V} {ns : List Int}, RpAll K H xs (ns.map PyData.int) → xs = ns.map V.int
  | [], [], _ => rfl
  | _ :: _, n :: ns, .cons h r => by
    cases h
    rw [RpAll.ints_of r]; rfl
section
variable {X : Cx} {Γ : List VD} {B B1 B2 B3 B' : Bag} {e a b c : Expr} {es : List Expr} {d da db dc : VD} {pos p pos' : Pos} {rest ss s1 s2 : List Stmt} {E : En}
def OJ (X : Cx) (Γ : List VD) (B : Bag) (o : Option Expr) (v : Option Int) (B' : Bag) : Prop :=
  ∀ g σ H0 H, EnvD X.K g H0 σ Γ → On X.K g B H0 H → ∀ Q : Option Int → Hp → Prop,
    (∀ H0' H', To g H0 H H0' H' → On X.K g B' H0' H' → Q v H') → ∃ t, PO X o t ∧ t σ H Q
theorem oj_none : OJ X Γ B none none B := fun g σ H0 H _ O Q q => ⟨_, po_none, q H0 H To.refl O⟩
theorem oj_some {i : Int} (h : EJ X Γ B e (.da (.int i)) B1) : OJ X Γ B (some e) (some i) B1 := fun g σ H0 H E O Q q =>
  ⟨_, po_some (we e), h g σ H0 H E O _ fun v H1 H' t o r => ⟨i, rvI r, q H1 H' t o⟩⟩
def WO (X : Cx) (o : Option Expr) : TO := fun σ H Q => ∃ t, PO X o t ∧ t σ H Q
theorem wo (o : Option Expr) : PO X o (WO X o) := ⟨fun p s σ H Q I ⟨_, ht, h⟩ => ht.run p s σ H Q I h⟩
theorem ej_slice {r : V → Option Int → Option Int → Hp → VK → Prop} {lo hi : Option Expr} {l u : Option Int} {p2 : Pos} (hr : SlR X r) (ha : EJ X Γ B a da B1) (hl : OJ X Γ B1 lo l B2) (hu : OJ X Γ B2 hi u B3)
    (k : ∀ g v H0 H, On X.K g B3 H0 H → Rv X.K g H0 v da → ∀ Q : VK, (∀ z H0' H', To g H0 H H0' H' → On X.K g B3 H0' H' → Rv X.K g H0' z d → Q z H') → r v l u H Q) :
    EJ X Γ B (.Subscript a (.Slice lo hi none p2) pos) d B3 := fun g σ H0 H E O Q q =>
  ⟨_, pe_slice hr (we a) (wo lo) (wo hi), ha g σ H0 H E O _ fun v H1 H' t o rv => hl g σ H1 H' (E.mono t.ex) o _ fun H2 H'' t2 o2 =>
    hu g σ H2 H'' (E.mono (t.trans t2).ex) o2 _ fun H3 H3' t3 o3 => k g v H3 H3' o3 (rv.mono (t2.trans t3).ex) Q fun z H4 H4' t4 o4 r4 => q z H4 H4' (((t.trans t2).trans t3).trans t4) o4 r4⟩
theorem ej_sliceL {lo hi : Option Expr} {l u : Option Int} {p2 : Pos} {ds : List PyData} (ha : EJ X Γ B a (.da (.list ds)) B1) (hl : OJ X Γ B1 lo l B2) (hu : OJ X Γ B2 hi u B3) :
    EJ X Γ B (.Subscript a (.Slice lo hi none p2) pos) (.da (.list (cutP ds l u))) B3 :=
  ej_slice sl_list ha hl hu fun g v H0 H O r Q q => by
    obtain ⟨p, xs, rfl, hx, rs⟩ := rvL r
    refine ⟨p, xs, rfl, SqL.of (O.ex _ _ hx), fun n hn => ?_⟩
    obtain ⟨t2, o2⟩ := laid (o := .lst (cutV xs l u)) O hn
    exact q _ _ _ t2 o2 (Rp.lst upd_same ((rs.cut l u).mono t2.ex))
theorem ej_sliceT {lo hi : Option Expr} {l u : Option Int} {p2 : Pos} {ds : List PyData} (ha : EJ X Γ B a (.da (.tuple ds)) B1) (hl : OJ X Γ B1 lo l B2) (hu : OJ X Γ B2 hi u B3) :
    EJ X Γ B (.Subscript a (.Slice lo hi none p2) pos) (.da (.tuple (cutP ds l u))) B3 :=
  ej_slice sl_tupA ha hl hu fun g v H0 H O r Q q => by
    obtain ⟨p, xs, rfl, hx, rs⟩ := rvT r
    refine ⟨p, xs, rfl, seqT O.ex hx, fun w => ?_, fun _ n hn => ?_⟩
    · have e : cutP ds l u = ds := by
        rw [rs.length] at w
        unfold cutP
        rw [w.1, w.2]
        simp
      have q := q (.ref p) H0 H To.refl O
      rw [e] at q
      exact q (Rp.tup hx rs)
    · obtain ⟨t2, o2⟩ := laid (o := .tup (cutV xs l u)) O hn
      exact q _ _ _ t2 o2 (Rp.tup (SqT.of upd_same) ((rs.cut l u).mono t2.ex))
theorem ej_sliceScr {lo hi : Option Expr} {l u : Option Int} {p2 : Pos} {ns : List Int} (ha : EJ X Γ B a (.scr ns) B1) (hl : OJ X Γ B1 lo l B2) (hu : OJ X Γ B2 hi u B3) :
    EJ X Γ B (.Subscript a (.Slice lo hi none p2) pos) (.da (.list (cutP (ns.map .int) l u))) B3 :=
  ej_slice sl_list ha hl hu fun g v H0 H O r Q q => by
    obtain ⟨p, rfl, hx⟩ := r
    refine ⟨p, _, rfl, O.ex.seq hx, fun n hn => ?_⟩
    obtain ⟨t2, o2⟩ := laid (o := .lst (cutV (ns.map V.int) l u)) O hn
    exact q _ _ _ t2 o2 (Rp.lst upd_same ((RpAll.ints ns).cut l u))
theorem ej_bagAt {i : Int} {y : PyData} {k : Nat} (ha : EJ X Γ B a .bag B1) (hb : EJ X Γ B1 b (.da (.int i)) B2) (hi : i = (k : Int)) (hk : k = 0 ∧ y = .int B2.x ∨ k = 1 ∧ y = .int B2.y ∨ k = 2 ∧ y = .int B2.z ∨ k = 3 ∧ y = .list (B2.cs.map .int)) (hs : PlainIx b) :
    EJ X Γ B (.Subscript a b pos) (.da y) B2 :=
  ej_bin ha hb (fun _ _ h1 h2 => pe_ix ix_list h1 h2 hs) fun g v w H0 H O r1 r2 Q q => by
    obtain ⟨p, l, hg, rfl⟩ := r1
    obtain ⟨_, h2, h3⟩ := O.bag p l hg
    subst hi
    rcases hk with ⟨rfl, rfl⟩ | ⟨rfl, rfl⟩ | ⟨rfl, rfl⟩ | ⟨rfl, rfl⟩
    · exact ⟨p, _, _, _, rfl, rvI r2, SqL.of h2, rfl, q _ _ _ To.refl O (Rp.int _)⟩
    · exact ⟨p, _, _, _, rfl, rvI r2, SqL.of h2, rfl, q _ _ _ To.refl O (Rp.int _)⟩
    · exact ⟨p, _, _, _, rfl, rvI r2, SqL.of h2, rfl, q _ _ _ To.refl O (Rp.int _)⟩
    · exact ⟨p, _, _, _, rfl, rvI r2, SqL.of h2, rfl, q _ _ _ To.refl O (Rp.lst h3 (RpAll.ints _))⟩
theorem bagged {K : PySem.W.Frag} {g : Gh} {B B' : Bag} {H0 H : Hp} {a l : Addr} (O : On K g B H0 H) (hg : g = some (a, l)) (hc : B'.cs = B.cs) :
    To g H0 H H0 (upd H a (.lst (bagCells B' l))) ∧ On K g B' H0 (upd H a (.lst (bagCells B' l))) := by
  obtain ⟨h1, h2, h3⟩ := O.bag a l hg
  refine ⟨⟨Same.refl _, fun q u f e1 e2 => ⟨e1, ?_⟩⟩, ⟨fun q u e => ?_, fun q m e => ?_⟩⟩
  · rw [upd_ne (fun z => f l (by rw [z]; exact hg))]; exact e2
  · rw [upd_ne (ne_of_none e h1)]; exact O.ex _ _ e
  · rw [hg] at e; cases e
    exact ⟨h1, upd_same, by rw [hc]; exact h3⟩
theorem sj_bagSet {i n : Int} {k : Nat} {px : Pos} (hv : EJ X Γ B e (.da (.int n)) B1) (ha : EJ X Γ B1 a .bag B2) (hb : EJ X Γ B2 b (.da (.int i)) B3) (hi : i = (k : Int))
    (hk : k = 0 ∧ B' = { B3 with x := n } ∨ k = 1 ∧ B' = { B3 with y := n } ∨ k = 2 ∧ B' = { B3 with z := n }) (q : SJ X Γ B' rest E)
    (h1 : swapsWithSole [.Subscript a b px] e pos.line X.env = pure false := by rfl) (h2 : swappedStores [.Subscript a b px] e X.env = pure none := by rfl)
    (h3 : (assignEach [.Subscript a b px] X.env).map (·.2) = [assign (.Subscript a b px) X.env] := by rfl)
    (h4 : ∀ v, assign (.Subscript a b px) X.env v = (do
      let ov ← holding [v] (eval a X.env)
      let iv ← holding [v, ov] (eval b X.env)
      standAt px; holding [v, ov, iv] (setItem ov iv v)
      release [v, ov, iv] []) := by intro _; rfl) :
    SJ X Γ B (.Assign [.Subscript a b px] e pos :: rest) E := fun g σ H0 H Ev O D G =>
  ⟨_, pss_cons (ps_asg (we e) (pg_sub (we a) (we b) set_list h4) h1 h2 h3) (ws rest), hv g σ H0 H Ev O _ fun v H1 H' t o rv => ha g σ H1 H' (Ev.mono t.ex) o _ fun w H2 H'' t2 o2 rw' =>
    hb g σ H2 H'' (Ev.mono (t.trans t2).ex) o2 _ fun u H3 H3' t3 o3 ru => by
      obtain ⟨p, l, hg, rfl⟩ := rw'
      rw [rvI ru, rvI rv]
      subst hi
      obtain ⟨_, e2, _⟩ := o3.bag p l hg
      have tt := (t.trans t2).trans t3
      have fin : ∀ (H4 : Hp), H4 = upd H3' p (.lst (bagCells B' l)) → B'.cs = B3.cs → WS X rest D σ H4 := by
        rintro H4 rfl hc
        obtain ⟨t4, o4⟩ := bagged o3 hg hc
        exact q g σ H3 _ (Ev.mono tt.ex) o4 D (G.on (tt.trans t4))
      rcases hk with ⟨rfl, rfl⟩ | ⟨rfl, rfl⟩ | ⟨rfl, rfl⟩
      · exact ⟨p, _, _, 0, rfl, rfl, e2, rfl, fin _ rfl rfl⟩
      · exact ⟨p, _, _, 1, rfl, rfl, e2, rfl, fin _ rfl rfl⟩
      · exact ⟨p, _, _, 2, rfl, rfl, e2, rfl, fin _ rfl rfl⟩⟩
def rGetL : V → V → Hp → VK → Prop := fun o i H Q => ∃ p xs k v, o = .ref p ∧ i = .int ((k : Nat) : Int) ∧ H p = some (.lst xs) ∧ xs[k]? = some v ∧ k < 1000 ∧ Q v H
theorem get_list : PGet X rGetL := by
  intro pins s σ H o i ov iv Q I r1 r2 h
  obtain ⟨p, xs, k, v, rfl, rfl, hp, hv, hk, q⟩ := h
  cases (show ov = Value.ref p from r1)
  obtain ⟨t, rfl⟩ := r2
  obtain ⟨its, r, pl, hz⟩ := I.list (SqL.of hp)
  obtain ⟨u, hu, ru⟩ := r.get hv
  refine wpAny_getItem_list pl.isList (Int.natCast_nonneg k) (by omega) ?_ ⟨v, H, I, ru, q⟩
  rw [Int.toNat_natCast]; simpa using hu
theorem sj_bagAug {n : Int} {px : Pos} (ha : EJ X Γ B a .bag B1) (hb : EJ X Γ B1 b (.da (.int 2)) B2) (hv : EJ X Γ B2 e (.da (.int n)) B3) (hz : B3.z = B2.z) (q : SJ X Γ { B3 with z := B3.z + n } rest E)
    (h1 : ∀ ov iv new, augStore b ov iv new = (do holding [new, ov, iv] (setItem ov iv new); release [new, ov, iv] []; pure .next) := by intros; rfl) :
    SJ X Γ B (.AugAssign (.Subscript a b px) .Add e pos :: rest) E := fun g σ H0 H Ev O D G =>
  ⟨_, pss_cons (ps_augS (we a) (we b) get_list (we e) ip_add set_list h1) (ws rest), ha g σ H0 H Ev O _ fun w H1 H' t o rw' => hb g σ H1 H' (Ev.mono t.ex) o _ fun u H2 H'' t2 o2 ru => by
    obtain ⟨p, l, hg, rfl⟩ := rw'
    rw [rvI ru]
    obtain ⟨_, e2, _⟩ := o2.bag p l hg
    refine ⟨p, _, 2, .int B2.z, rfl, rfl, e2, rfl, by omega, ?_⟩
    refine hv g σ H2 H'' (Ev.mono (t.trans t2).ex) o2 _ fun v H3 H3' t3 o3 rv => ?_
    rw [rvI rv]
    obtain ⟨_, e3, _⟩ := o3.bag p l hg
    have tt := (t.trans t2).trans t3
    refine ⟨B2.z, n, rfl, rfl, p, _, 2, 2, rfl, rfl, e3, rfl, ?_⟩
    obtain ⟨t4, o4⟩ := bagged (B' := { B3 with z := B3.z + n }) o3 hg rfl
    rw [← hz]
    exact q g σ H3 _ (Ev.mono tt.ex) o4 D (G.on (tt.trans t4))⟩
theorem sj_while (nd : X.N.Nodup) (P : List VD → Bag → Prop) (μ : List VD → Bag → Nat) (h0 : P Γ B)
    (hs : ∀ Γ B, P Γ B → ∃ x, TJ X Γ B c x B ∧
      (x = true → SJ X Γ B s1 { nx := fun Γ' B' => P Γ' B' ∧ μ Γ' B' < μ Γ B, ct := fun Γ' B' => P Γ' B' ∧ μ Γ' B' < μ Γ B, bk := fun Γ' B' => SJ X Γ' B' rest E, rt := E.rt }) ∧
      (x = false → SJ X Γ B rest E))
    (hp : PassesOwn (model X.prog X.w) X.A X.env X.xe := by exact PassesOwn.never) : SJ X Γ B (.While c s1 [] pos :: rest) E := fun g σ H0 H Ev O D G =>
  ⟨_, pss_cons (ps_while hp (wt c) (ws s1)) (ws rest), by
    refine ⟨fun m σ' H' => ∃ Γ' B' H1, P Γ' B' ∧ μ Γ' B' = m ∧ To g H0 H H1 H' ∧ EnvD X.K g H1 σ' Γ' ∧ On X.K g B' H1 H', ⟨_, Γ, B, H0, h0, rfl, To.refl, Ev, O⟩, ?_⟩
    rintro m σ' H' ⟨Γ', B', H1, hP, rfl, t, ev, o⟩
    obtain ⟨x, ht, hb, hd⟩ := hs Γ' B' hP
    refine ht g σ' H1 H' ev o _ fun H2 H'' t2 o2 => ?_
    have tt := t.trans t2
    cases x with
    | true =>
      refine iteT ⟨fun σ2 H3' => ∃ m', m' < μ Γ' B' ∧ ∃ Γ2 B2 H3, P Γ2 B2 ∧ μ Γ2 B2 = m' ∧ To g H0 H H3 H3' ∧ EnvD X.K g H3 σ2 Γ2 ∧ On X.K g B2 H3 H3', fun _ _ z => z, ?_⟩
      refine hb rfl g σ' H2 H'' (ev.mono t2.ex) o2 _ ⟨?_, ?_, ?_, ?_⟩
      · rintro Γ3 B3 σ3 H3 H3' ⟨q1, q2⟩ t3 e3 o3
        exact ⟨_, q2, Γ3, B3, H3, q1, rfl, tt.trans t3, e3, o3⟩
      · intro r B3 v H3 H3' q t3 o3 rv
        exact (G.on tt).rt r B3 v H3 H3' q t3 o3 rv
      · intro Γ3 B3 σ3 H3 H3' q t3 e3 o3
        exact q g σ3 H3 H3' e3 o3 D (G.on (tt.trans t3))
      · rintro Γ3 B3 σ3 H3 H3' ⟨q1, q2⟩ t3 e3 o3
        exact ⟨_, q2, Γ3, B3, H3, q1, rfl, tt.trans t3, e3, o3⟩
    | false => exact iteF (hd rfl g σ' H2 H'' (ev.mono t2.ex) o2 D (G.on tt))⟩
theorem sj_forL (j : Nat) {x : Str} {ds : List PyData} {px : Pos} (nd : X.N.Nodup) (hc : X.calm = true) (P : Nat → List VD → Bag → Prop) (hi : EJ X Γ B e (.da (.list ds)) B1) (h0 : P 0 Γ B1)
    (hs : ∀ i y Γ' B', ds[i]? = some y → P i Γ' B' → SJ X (Γ'.set j (.da y)) B' s1 { nx := P (i + 1), ct := P (i + 1), bk := fun Γ' B' => SJ X Γ' B' rest E, rt := E.rt })
    (hd : ∀ Γ' B', P ds.length Γ' B' → SJ X Γ' B' rest E) (hN : X.N[j]? = some x := by rfl) (hx : Loc X.env.scope x := by first | exact Or.inl rfl | exact Or.inr rfl)
    (hf : X.fn x = true ∨ X.env.scope.names.lookup x = some .local := by first | exact Or.inl rfl | exact Or.inr rfl)
    (hp : PassesOwn (model X.prog X.w) X.A X.env X.xe := by exact PassesOwn.never) (hq : ∀ x, foldedSetIterable e X.env x = pure x := by intro _; rfl) :
    SJ X Γ B (.For (.Name x px) e s1 [] pos :: rest) E := fun g σ H0 H Ev O D G =>
  ⟨_, pss_cons (ps_for hp hc (pi_list (we e)) (pg_name nd hN hx hf) (ws s1) hq) (ws rest), hi g σ H0 H Ev O _ fun v H1 H' t o r => by
    obtain ⟨p, xs, rfl, hxs, rs⟩ := rvL r
    refine ⟨p, rfl, ⟨xs, SqL.of (o.ex _ _ hxs)⟩, ?_⟩
    refine for_list (xs := xs) (fun i σ' H'' => ∃ Γ' B' H2, P i Γ' B' ∧ To g H1 H' H2 H'' ∧ EnvD X.K g H2 σ' Γ' ∧ On X.K g B' H2 H'') ⟨Γ, B1, H1, h0, To.refl, Ev.mono t.ex, o⟩ ?_ ?_ ?_
    · rintro i σ' H'' _ ⟨Γ', B', H2, _, t2, _, o2⟩
      exact SqL.of (o2.ex _ _ (t2.ex _ _ hxs))
    · rintro i y σ' H'' hy ⟨Γ', B', H2, hP, t2, e2, o2⟩
      obtain ⟨d, hdi, rd⟩ := rs.get hy
      refine hs i d Γ' B' hdi hP g _ H2 H'' (e2.set j (Rp.mono t2.ex rd)) o2 _ ⟨?_, ?_, ?_, ?_⟩
      · intro Γ3 B3 σ3 H3 H3' q t3 e3 o3
        exact ⟨Γ3, B3, H3, q, t2.trans t3, e3, o3⟩
      · intro r B3 v H3 H3' q t3 o3 rv
        exact (G.on (t.trans t2)).rt r B3 v H3 H3' q t3 o3 rv
      · intro Γ3 B3 σ3 H3 H3' q t3 e3 o3
        exact q g σ3 H3 H3' e3 o3 D (G.on ((t.trans t2).trans t3))
      · intro Γ3 B3 σ3 H3 H3' q t3 e3 o3
        exact ⟨Γ3, B3, H3, q, t2.trans t3, e3, o3⟩
    · rintro σ' H'' ⟨Γ', B', H2, hP, t2, e2, o2⟩
      rw [rs.length] at hP
      exact hd Γ' B' hP g σ' H2 H'' e2 o2 D (G.on (t.trans t2))⟩
theorem sj_forT (j : Nat) {x : Str} {ds : List PyData} {px : Pos} (nd : X.N.Nodup) (hc : X.calm = true) (P : Nat → List VD → Bag → Prop) (hi : EJ X Γ B e (.da (.tuple ds)) B1) (h0 : P 0 Γ B1)
    (hs : ∀ i y Γ' B', ds[i]? = some y → P i Γ' B' → SJ X (Γ'.set j (.da y)) B' s1 { nx := P (i + 1), ct := P (i + 1), bk := fun Γ' B' => SJ X Γ' B' rest E, rt := E.rt })
    (hd : ∀ Γ' B', P ds.length Γ' B' → SJ X Γ' B' rest E) (hN : X.N[j]? = some x := by rfl) (hx : Loc X.env.scope x := by first | exact Or.inl rfl | exact Or.inr rfl)
    (hf : X.fn x = true ∨ X.env.scope.names.lookup x = some .local := by first | exact Or.inl rfl | exact Or.inr rfl)
    (hp : PassesOwn (model X.prog X.w) X.A X.env X.xe := by exact PassesOwn.never) (hq : ∀ x, foldedSetIterable e X.env x = pure x := by intro _; rfl) :
    SJ X Γ B (.For (.Name x px) e s1 [] pos :: rest) E := fun g σ H0 H Ev O D G =>
  ⟨_, pss_cons (ps_for hp hc (pi_tup (we e)) (pg_name nd hN hx hf) (ws s1) hq) (ws rest), hi g σ H0 H Ev O _ fun v H1 H' t o r => by
    obtain ⟨p, xs, rfl, hxs, rs⟩ := rvT r
    refine ⟨p, rfl, ⟨xs, seqT o.ex hxs⟩, ?_⟩
    refine for_tup (xs := xs) (fun i σ' H'' => ∃ Γ' B' H2, P i Γ' B' ∧ To g H1 H' H2 H'' ∧ EnvD X.K g H2 σ' Γ' ∧ On X.K g B' H2 H'') ⟨Γ, B1, H1, h0, To.refl, Ev.mono t.ex, o⟩ ?_ ?_ ?_
    · rintro i σ' H'' _ ⟨Γ', B', H2, _, t2, _, o2⟩
      exact seqT o2.ex (seqT t2.ex hxs)
    · rintro i y σ' H'' hy ⟨Γ', B', H2, hP, t2, e2, o2⟩
      obtain ⟨d, hdi, rd⟩ := rs.get hy
      refine hs i d Γ' B' hdi hP g _ H2 H'' (e2.set j (Rp.mono t2.ex rd)) o2 _ ⟨?_, ?_, ?_, ?_⟩
      · intro Γ3 B3 σ3 H3 H3' q t3 e3 o3
        exact ⟨Γ3, B3, H3, q, t2.trans t3, e3, o3⟩
      · intro r B3 v H3 H3' q t3 o3 rv
        exact (G.on (t.trans t2)).rt r B3 v H3 H3' q t3 o3 rv
      · intro Γ3 B3 σ3 H3 H3' q t3 e3 o3
        exact q g σ3 H3 H3' e3 o3 D (G.on ((t.trans t2).trans t3))
      · intro Γ3 B3 σ3 H3 H3' q t3 e3 o3
        exact ⟨Γ3, B3, H3, q, t2.trans t3, e3, o3⟩
    · rintro σ' H'' ⟨Γ', B', H2, hP, t2, e2, o2⟩
      rw [rs.length] at hP
      exact hd Γ' B' hP g σ' H2 H'' e2 o2 D (G.on (t.trans t2))⟩
theorem sj_par (i j : Nat) {x y : Str} {px py pt : Pos} {kt k2 pt2} {d1 d2 : VD} (nd : X.N.Nodup) (hc : X.calm = true) (h : AJ X Γ B [a, b] [d1, d2] B1) (k : SJ X ((Γ.set i d1).set j d2) B1 rest E)
    (hij : i ≠ j) (hw : swappedStores [.Tuple [.Name x px, .Name y py] kt pt] (.Tuple [a, b] k2 pt2) X.env = pure (some [x, y])) (hi : X.N[i]? = some x := by rfl) (hj : X.N[j]? = some y := by rfl)
    (hx : X.env.scope.names.lookup x = some .local := by rfl) (hy : X.env.scope.names.lookup y = some .local := by rfl)
    (hsw : swapsWithSole [.Tuple [.Name x px, .Name y py] kt pt] (.Tuple [a, b] k2 pt2) pos.line X.env = pure false := by rfl) :
    SJ X Γ B (.Assign [.Tuple [.Name x px, .Name y py] kt pt] (.Tuple [a, b] k2 pt2) pos :: rest) E := fun g σ H0 H Ev O D G =>
  ⟨_, pss_cons (ps_par hc nd hi hj hij hx hy (wa [a, b]) hw hsw) (ws rest), h g σ H0 H Ev O _ fun vs H1 H' t o r => by
    obtain ⟨v, w, rfl, r1, r2⟩ := rv2 r
    exact ⟨v, w, rfl, k g _ H1 H' (((Ev.mono t.ex).set i r1).set j r2) o D (G.on t)⟩⟩
def gNames : List Nat → TGs
  | [] => gNil
  | i :: is => gCons (gName i) (gNames is)
def setAll (Γ : List VD) : List Nat → List PyData → List VD
  | i :: is, d :: ds => setAll (Γ.set i (.da d)) is ds
  | _, _ => Γ
theorem gNames_run {K : PySem.W.Frag} {g : Gh} {H0 H : Hp} {Q : L2.St → Hp → Prop} : ∀ (is : List Nat) (vs : List V) (ds : List PyData) (σ : L2.St) (Γ : List VD), RpAll K H0 vs ds → is.length = ds.length → EnvD K g H0 σ Γ →
    (∀ σ', EnvD K g H0 σ' (setAll Γ is ds) → Q σ' H) → gNames is vs σ H Q
  | [], _, _, σ, Γ, .nil, _, e, q => ⟨rfl, q σ e⟩
  | i :: is, _, _, σ, Γ, .cons h r, hl, e, q => ⟨_, _, rfl, gNames_run is _ _ _ _ r (Nat.succ.inj hl) (e.set (d := .da _) i h) q⟩
theorem sj_unpack (is : List Nat) {ts : List Expr} {k} {pt : Pos} {ds : List PyData} (hc : X.calm = true) (h : EJ X Γ B e (.da (.tuple ds)) B1) (hg : PGs X ts (gNames is)) (hl : is.length = ds.length)
    (q : SJ X (setAll Γ is ds) B1 rest E) (hn : (assignEach ts X.env).length = ds.length := by rfl) (hst : (assignEach ts X.env).findIdx? (·.1) = none := by rfl)
    (h1 : swapsWithSole [.Tuple ts k pt] e pos.line X.env = pure false := by rfl) (h2 : swappedStores [.Tuple ts k pt] e X.env = pure none := by rfl)
    (h3 : (assignEach [.Tuple ts k pt] X.env).map (·.2) = [assign (.Tuple ts k pt) X.env] := by rfl) : SJ X Γ B (.Assign [.Tuple ts k pt] e pos :: rest) E := fun g σ H0 H Ev O D G =>
  ⟨_, pss_cons (ps_asg (we e) (pg_tup hc hg hn hst) h1 h2 h3) (ws rest), h g σ H0 H Ev O _ fun v H1 H' t o r => by
    obtain ⟨p, xs, rfl, hxs, rs⟩ := rvT r
    exact ⟨p, xs, rfl, seqT o.ex hxs, rs.length, gNames_run is xs ds σ Γ rs hl (Ev.mono t.ex) fun σ' e' => q g σ' H1 H' e' o D (G.on t)⟩⟩
def Blk (X : Cx) (scope : Scope) (J : Cx → Prop) : Prop := ∀ (s : Shared) (H : Hp) (C : Addr) (cl : List (Str × Addr)) (fp : List Addr), J (X.blk s H scope (compEnvC scope cl C X.env) fp)
def WB (X : Cx) (scope : Scope) (e : Expr) : TE := fun σ H Q => ∀ (s : Shared) (H' : Hp) (C : Addr) (cl : List (Str × Addr)) (fp : List Addr), WE (X.blk s H' scope (compEnvC scope cl C X.env) fp) e σ H Q
theorem wb (scope : Scope) (e : Expr) (s : Shared) (H : Hp) (C : Addr) (cl : List (Str × Addr)) (fp : List Addr) : PE (X.blk s H scope (compEnvC scope cl C X.env) fp) e (WB X scope e) :=
  ⟨fun pins s' σ H' Q I h => (we e).run pins s' σ H' Q I (h s H C cl fp)⟩
structure LcI (K : PySem.W.Frag) (g : Gh) (H1 H' : Hp) (A : Addr) (acc : List PyData) (B : Bag) (H2 H'' : Hp) : Prop where
  to : To g H1 H' H2 H''
  new : H' A = none
  no : H2 A = none
  at' : ∃ zs, H'' A = some (.lst zs) ∧ RpAll K H2 zs acc
  on : On K g B H2 H''
theorem lcI_start {K : PySem.W.Frag} {g : Gh} {H1 H' : Hp} {A : Addr} (o : On K g B H1 H') (h : H' A = none) : Off g A ∧ LcI K g H1 H' A [] B H1 (upd H' A (.lst [])) := by
  have h1 : H1 A = none := o.ex.free h
  have off : Off g A := fun l e => by
    obtain ⟨_, q, _⟩ := o.bag A l e
    rw [h] at q; cases q
  refine ⟨off, ⟨⟨Same.refl _, fun q u f e1 e2 => ⟨e1, ?_⟩⟩, h, h1, ⟨[], upd_same, .nil⟩, ⟨fun q u e => ?_, fun q l e => ?_⟩⟩⟩
  · rw [upd_ne (ne_of_none e2 h)]; exact e2
  · rw [upd_ne (ne_of_none e h1)]; exact o.ex _ _ e
  · obtain ⟨q1, q2, q3⟩ := o.bag q l e
    exact ⟨q1, by rw [upd_ne (ne_of_none q2 h)]; exact q2, q3⟩
theorem lcI_app {K : PySem.W.Frag} {g : Gh} {H1 H' : Hp} {A : Addr} {acc : List PyData} {H2 H'' H3 H3' : Hp} {v : V} {y : PyData} (off : Off g A) (I : LcI K g H1 H' A acc B1 H2 H'') (t : To g H2 H'' H3 H3') (o : On K g B2 H3 H3') (r : Rp K H3 v y) :
    ∃ zs, H3' A = some (.lst zs) ∧ zs.length = acc.length ∧ LcI K g H1 H' A (acc ++ [y]) B2 H3 (upd H3' A (.lst (zs ++ [v]))) := by
  obtain ⟨zs, h1, h2⟩ := I.at'
  obtain ⟨h3, h4⟩ := t.un A _ off I.no h1
  refine ⟨zs, h4, h2.length, ⟨⟨I.to.ex.trans t.ex, fun q u f e1 e2 => ?_⟩, I.new, h3, ⟨_, upd_same, (h2.mono t.ex).app (.cons r .nil)⟩, ⟨fun q u e => ?_, fun q l e => ?_⟩⟩⟩
  · by_cases hq : q = A
    · subst hq
      have z := I.new
      rw [e2] at z; cases z
    · obtain ⟨q1, q2⟩ := I.to.un q u f e1 e2
      obtain ⟨q3, q4⟩ := t.un q u f q1 q2
      exact ⟨q3, by rw [upd_ne hq]; exact q4⟩
  · rw [upd_ne (ne_of_none e h3)]; exact o.ex _ _ e
  · obtain ⟨q1, q2, q3⟩ := o.bag q l e
    have hq : q ≠ A := fun z => off l (by rw [← z]; exact e)
    exact ⟨q1, by rw [upd_ne hq]; exact q2, q3⟩
theorem lcI_end {K : PySem.W.Frag} {g : Gh} {H0 H H1 H' : Hp} {A : Addr} {acc : List PyData} {H2 H'' : Hp} (off : Off g A) (t : To g H0 H H1 H') (I : LcI K g H1 H' A acc B H2 H'') :
    ∃ H3, To g H0 H H3 H'' ∧ On K g B H3 H'' ∧ Rp K H3 (.ref A) (.list acc) := by
  obtain ⟨zs, h1, h2⟩ := I.at'
  have tt := t.trans I.to
  have up : Same H2 (upd H2 A (.lst zs)) := fun q u e => by rw [upd_ne (ne_of_none e I.no)]; exact e
  refine ⟨upd H2 A (.lst zs), ⟨tt.ex.trans up, fun q u f e1 e2 => ?_⟩, ⟨fun q u e => ?_, fun q l e => ?_⟩, Rp.lst upd_same (h2.mono up)⟩
  · obtain ⟨q1, q2⟩ := tt.un q u f e1 e2
    have hq : q ≠ A := fun z => by
      subst z
      obtain ⟨_, q3⟩ := t.un q u f e1 e2
      rw [I.new] at q3; cases q3
    exact ⟨by rw [upd_ne hq]; exact q1, q2⟩
  · by_cases hq : q = A
    · subst hq; rw [upd_same] at e; cases e; exact h1
    · rw [upd_ne hq] at e; exact I.on.ex _ _ e
  · obtain ⟨q1, q2, q3⟩ := I.on.bag q l e
    have hq : q ≠ A := fun z => off l (by rw [← z]; exact e)
    have hl : l ≠ A := fun z => by rw [z, I.no] at q3; cases q3
    exact ⟨by rw [upd_ne hq]; exact q1, q2, by rw [upd_ne hl]; exact q3⟩
theorem wipe1 {σ : L2.St} {j : Nat} {v : Option V} : wipe ((wipe σ [j]).set j v) [j] = wipe σ [j] := by
  show (((σ.set j none).set j v).set j none) = σ.set j none
  rw [List.set_set, List.set_set]
theorem wipe_env {K : PySem.W.Frag} {g : Gh} {H0 : Hp} {σ : L2.St} {j : Nat} {v : V} {d : PyData} (Ev : EnvD K g H0 σ Γ) (r : Rp K H0 v d) : EnvD K g H0 ((wipe σ [j]).set j (some v)) (Γ.set j (.da d)) := by
  show EnvD K g H0 ((σ.set j none).set j (some v)) (Γ.set j (.da d))
  rw [List.set_set]
  exact Ev.set (d := .da d) j r
def RJ (X : Cx) (Γ : List VD) (B : Bag) (t : TE) (d : VD) (B' : Bag) : Prop :=
  ∀ g σ H0 H, EnvD X.K g H0 σ Γ → On X.K g B H0 H → ∀ Q : VK,
    (∀ v H0' H', To g H0 H H0' H' → On X.K g B' H0' H' → Rv X.K g H0' v d → Q v H') → t σ H Q
theorem ej_of {t : TE} (h : PE X e t) (r : RJ X Γ B t d B1) : EJ X Γ B e d B1 := fun g σ H0 H E O Q q => ⟨t, h, r g σ H0 H E O Q q⟩
section
variable {elt : Expr} {scope : Scope} {j : Nat} {x : Str} {px : Pos} {ds ys : List PyData}
theorem lc_turn {g : Gh} {H1 H' : Hp} {A : Addr} {acc : List PyData} {H'' H2 : Hp} {σ : L2.St} {v : V} {y z : PyData} {Nx : Hp → Prop} (off : Off g A) (Ev : EnvD X.K g H1 σ Γ) (I : LcI X.K g H1 H' A acc B1 H2 H'') (r : Rp X.K H2 v y)
    (hz : acc.length < 1000) (he : Blk X scope fun Y => EJ Y (Γ.set j (.da y)) B1 elt (.da z) B2) (k : ∀ H3 H3', LcI X.K g H1 H' A (acc ++ [z]) B2 H3 H3' → Nx H3') :
    gName j v (wipe σ [j]) H'' fun σ2 H2 => wipe σ2 [j] = wipe σ [j] ∧ tYes σ2 H2 fun b H3 => if b = true then WB X scope elt σ2 H3 fun y H4 => ∃ acc, H4 A = some (.lst acc) ∧ acc.length < sizeLine ∧ Nx (upd H4 A (.lst (acc ++ [y]))) else Nx H3 := by
  refine ⟨wipe1, ?_⟩
  unfold tYes
  refine iteT ?_
  intro s hH C cl fp
  refine he s hH C cl fp g _ H2 H'' (wipe_env (Ev.mono I.to.ex) r) I.on _ fun w H3 H3' t o rw' => ?_
  obtain ⟨zs, h1, h2, J⟩ := lcI_app off I t o rw'
  exact ⟨zs, h1, by rw [h2]; exact small1000 (Nat.le_of_lt hz), k _ _ J⟩
theorem rj_lc (Bs : Nat → Bag) (hi : EJ X Γ B e (.da (.list ds)) (Bs 0)) (hl : ys.length = ds.length) (hz : ds.length ≤ 1000)
    (hs : ∀ i y z, ds[i]? = some y → ys[i]? = some z → Blk X scope fun Y => EJ Y (Γ.set j (.da y)) (Bs i) elt (.da z) (Bs (i + 1))) :
    RJ X Γ B (tLc (iList X.K (WE X e)) (gName j) tYes (WB X scope elt) [j]) (.da (.list ys)) (Bs ds.length) := fun g σ H0 H Ev O Q q =>
  hi g σ H0 H Ev O _ fun v H1 H' t o r => by
    obtain ⟨p, xs, rfl, hxs, rs⟩ := rvL r
    refine ⟨p, rfl, ⟨xs, SqL.of (o.ex _ _ hxs)⟩, fun A hA => ?_⟩
    obtain ⟨off, I0⟩ := lcI_start o hA
    refine lc_list (xs := xs) (fun i H'' => ∃ H2, LcI X.K g H1 H' A (ys.take i) (Bs i) H2 H'') ⟨_, I0⟩ ?_ ?_ ?_
    · rintro i H'' _ ⟨H2, I⟩
      exact SqL.of (I.on.ex _ _ (I.to.ex _ _ hxs))
    · rintro i w H'' hw ⟨H2, I⟩
      obtain ⟨y, hy, ry⟩ := rs.get hw
      have hi2 : i < ys.length := by rw [hl]; exact (List.getElem?_eq_some_iff.mp hy).1
      have hyz : ys[i]? = some ys[i] := List.getElem?_eq_getElem hi2
      refine lc_turn off (Ev.mono t.ex) I (ry.mono I.to.ex) (by rw [List.length_take]; omega) (hs i y _ hy hyz) fun H3 H3' J => ⟨H3, ?_⟩
      rw [List.take_add_one, hyz]; exact J
    · rintro H'' ⟨H2, I⟩
      rw [rs.length, ← hl, List.take_length] at I
      obtain ⟨H3, t3, o3, r3⟩ := lcI_end off t I
      rw [hl] at o3
      exact q _ H3 H'' t3 o3 r3
theorem rj_lcT (Bs : Nat → Bag) (hi : EJ X Γ B e (.da (.tuple ds)) (Bs 0)) (hl : ys.length = ds.length) (hz : ds.length ≤ 1000)
    (hs : ∀ i y z, ds[i]? = some y → ys[i]? = some z → Blk X scope fun Y => EJ Y (Γ.set j (.da y)) (Bs i) elt (.da z) (Bs (i + 1))) :
    RJ X Γ B (tLc (iTup X.K (WE X e)) (gName j) tYes (WB X scope elt) [j]) (.da (.list ys)) (Bs ds.length) := fun g σ H0 H Ev O Q q =>
  hi g σ H0 H Ev O _ fun v H1 H' t o r => by
    obtain ⟨p, xs, rfl, hxs, rs⟩ := rvT r
    refine ⟨p, rfl, ⟨xs, seqT o.ex hxs⟩, fun A hA => ?_⟩
    obtain ⟨off, I0⟩ := lcI_start o hA
    refine lc_tup (xs := xs) (fun i H'' => ∃ H2, LcI X.K g H1 H' A (ys.take i) (Bs i) H2 H'') ⟨_, I0⟩ ?_ ?_ ?_
    · rintro i H'' _ ⟨H2, I⟩
      exact seqT I.on.ex (seqT I.to.ex hxs)
    · rintro i w H'' hw ⟨H2, I⟩
      obtain ⟨y, hy, ry⟩ := rs.get hw
      have hi2 : i < ys.length := by rw [hl]; exact (List.getElem?_eq_some_iff.mp hy).1
      have hyz : ys[i]? = some ys[i] := List.getElem?_eq_getElem hi2
      refine lc_turn off (Ev.mono t.ex) I (ry.mono I.to.ex) (by rw [List.length_take]; omega) (hs i y _ hy hyz) fun H3 H3' J => ⟨H3, ?_⟩
      rw [List.take_add_one, hyz]; exact J
    · rintro H'' ⟨H2, I⟩
      rw [rs.length, ← hl, List.take_length] at I
      obtain ⟨H3, t3, o3, r3⟩ := lcI_end off t I
      rw [hl] at o3
      exact q _ H3 H'' t3 o3 r3
theorem ej_lc (nd : X.N.Nodup) (hc : X.calm = true) (ok : BlkOk X.N X.env.scope scope [(x, j)])
    (hg : ∀ (s : Shared) (H : Hp) (C : Addr) (cl : List (Str × Addr)) (fp : List Addr), PG (X.blk s H scope (compEnvC scope cl C X.env) fp) (.Name x px) (gName j))
    (r : RJ X Γ B (tLc (iList X.K (WE X e)) (gName j) tYes (WB X scope elt) [j]) d B1) (hq : ∀ x, foldedSetIterable e X.env x = pure x := by intro _; rfl) :
    EJ X Γ B (.ListComp elt [⟨.Name x px, e, [], 0⟩] scope pos) d B1 := ej_of (pe_lc (own := [(x, j)]) hc nd (pi_list (we e)) ok hg (fun _ _ _ _ _ => pts_nil) (wb scope elt) hq) r
theorem ej_lcT (nd : X.N.Nodup) (hc : X.calm = true) (ok : BlkOk X.N X.env.scope scope [(x, j)])
    (hg : ∀ (s : Shared) (H : Hp) (C : Addr) (cl : List (Str × Addr)) (fp : List Addr), PG (X.blk s H scope (compEnvC scope cl C X.env) fp) (.Name x px) (gName j))
    (r : RJ X Γ B (tLc (iTup X.K (WE X e)) (gName j) tYes (WB X scope elt) [j]) d B1) (hq : ∀ x, foldedSetIterable e X.env x = pure x := by intro _; rfl) :
    EJ X Γ B (.ListComp elt [⟨.Name x px, e, [], 0⟩] scope pos) d B1 := ej_of (pe_lc (own := [(x, j)]) hc nd (pi_tup (we e)) ok hg (fun _ _ _ _ _ => pts_nil) (wb scope elt) hq) r
end
end
end Gd
namespace Gd
open PySem PySem.Spec PyProof.Rows L2
section
variable {X : Cx} {Γ : List VD} {B B1 B2 B3 B' : Bag} {e a b c : Expr} {es : List Expr} {d da db dc : VD} {pos p pos' : Pos} {rest ss s1 s2 : List Stmt} {E : En}
def CDivX (_ j : Int) : Prop := j ≠ 0 ∧ j.natAbs.log2 < 9000
theorem op_fdivX : OpR X (binaryOp .FloorDiv) (rI CDivX fun i j => .int (i.fdiv j)) :=
  opI fun i j _ _ _ _ _ hc q => PyProof.Rows.floordiv_int hc.1 q (.inl (PyProof.noPylong_of_log2 hc.2))
theorem ej_fdivX {i j : Int} (ha : EJ X Γ B a (.da (.int i)) B1) (hb : EJ X Γ B1 b (.da (.int j)) B2) (hc : CDivX i j) : EJ X Γ B (.BinOp a .FloorDiv b pos) (.da (.int (i.fdiv j))) B2 :=
  ej_iic ha hb op_fdivX hc fun _ => .int _
theorem ej_gcd {i j : Int} (hm : X.mg "gcd" = some (.builtin "math.gcd")) (ha : EJ X Γ B a (.da (.int i)) B1) (hb : EJ X Γ B1 b (.da (.int j)) B2) (hg : Gl X "gcd" := by rfl)
    (h1 : starEach [a, b] X.env = (false, eval a X.env) :: starEach [b] X.env := by rfl) (h2 : starEach [b] X.env = (false, eval b X.env) :: starEach [] X.env := by rfl)
    (hpl : (backTo pos (starEach [b] X.env)).any (·.1) = false := by rfl) :
    EJ X Γ B (.Call (.Name "gcd" p) [a, b] [] pos) (.da (.int (Nat.gcd i.natAbs j.natAbs : Nat))) B2 := fun g σ H0 H E O Q q =>
  ⟨_, pe_callBfun cr_gcd hg hm (wa [a, b]) (by decide) h1 hpl, (aj_cons ha (aj_cons hb aj_nil h2) h1) g σ H0 H E O _ fun vs H1 H' t o r => by
    obtain ⟨v, w, rfl, r1, r2⟩ := rv2 r
    exact ⟨i, j, by rw [rvI r1, rvI r2], q _ _ _ t o (Rp.int _)⟩⟩
theorem ej_divmod {i j : Int} (hm : X.mg "divmod" = none) (ha : EJ X Γ B a (.da (.int i)) B1) (hb : EJ X Γ B1 b (.da (.int j)) B2) (h0 : 0 < j) (hc : j.natAbs.log2 < 9000) (hg : Gl X "divmod" := by rfl)
    (h1 : starEach [a, b] X.env = (false, eval a X.env) :: starEach [b] X.env := by rfl) (h2 : starEach [b] X.env = (false, eval b X.env) :: starEach [] X.env := by rfl)
    (hpl : (backTo pos (starEach [b] X.env)).any (·.1) = false := by rfl) :
    EJ X Γ B (.Call (.Name "divmod" p) [a, b] [] pos) (.da (.tuple [.int (i / j), .int (i % j)])) B2 :=
  ej_callB call_divmodW hm (aj_cons ha (aj_cons hb aj_nil h2) h1) (fun g vs H0 H O r Q q => by
    obtain ⟨v, w, rfl, r1, r2⟩ := rv2 r
    refine ⟨i, j, by rw [rvI r1, rvI r2], ⟨h0, PyProof.noPylong_of_log2 hc⟩, fun n hn => ?_⟩
    obtain ⟨t2, o2⟩ := laid (o := .tup [.int (i / j), .int (i % j)]) O hn
    exact q _ _ _ t2 o2 (Rp.tup (SqT.of upd_same) (.cons (.int _) (.cons (.int _) .nil)))) (hg := hg) (he := h1) (hpl := hpl)
theorem ej_tupleL {ds : List PyData} (hm : X.mg "tuple" = none) (ha : EJ X Γ B a (.da (.list ds)) B1) (hs : starEach [a] X.env = [(false, eval a X.env)] := by rfl) (hg : Gl X "tuple" := by rfl) :
    EJ X Γ B (.Call (.Name "tuple" p) [a] [] pos) (.da (.tuple ds)) B1 :=
  ej_callTy call_tuple_of hm (aj_cons ha aj_nil hs) (fun g vs H0 H O r Q q => by
    obtain ⟨v, rfl, h⟩ := rv1 r
    obtain ⟨p, xs, rfl, hx, rs⟩ := rvL h
    refine ⟨p, xs, rfl, .inl ⟨SqL.of (O.ex _ _ hx), fun n hn => ?_⟩⟩
    obtain ⟨t2, o2⟩ := laid (o := .tup xs) O hn
    exact q _ _ _ t2 o2 (Rp.tup (SqT.of upd_same) (rs.mono t2.ex))) (hg := hg) (he := hs)
theorem ej_listT {ds : List PyData} (hm : X.mg "list" = none) (ha : EJ X Γ B a (.da (.tuple ds)) B1) (hs : starEach [a] X.env = [(false, eval a X.env)] := by rfl) (hg : Gl X "list" := by rfl) :
    EJ X Γ B (.Call (.Name "list" p) [a] [] pos) (.da (.list ds)) B1 :=
  ej_callTy call_list_of hm (aj_cons ha aj_nil hs) (fun g vs H0 H O r Q q => by
    obtain ⟨v, rfl, h⟩ := rv1 r
    obtain ⟨p, xs, rfl, hx, rs⟩ := rvT h
    refine ⟨p, xs, rfl, .inr (seqT O.ex hx), fun n hn => ?_⟩
    obtain ⟨t2, o2⟩ := laid (o := .lst xs) O hn
    exact q _ _ _ t2 o2 (Rp.lst upd_same (rs.mono t2.ex))) (hg := hg) (he := hs)
theorem RpAll.rep {K : PySem.W.Frag} {H : Hp} {xs : List V} {ds : List PyData} (r : RpAll K H xs ds) : ∀ n : Nat, RpAll K H (List.replicate n xs).flatten (List.replicate n ds).flatten
  | 0 => .nil
  | n + 1 => by
    rw [List.replicate_succ, List.flatten_cons, List.replicate_succ, List.flatten_cons]
    exact r.app (RpAll.rep r n)
theorem inV_strs (x : Str) : ∀ ss : List Str, inV (.str x) (ss.map V.str) = ss.any fun s => decide (s = x)
  | [] => rfl
  | s :: ss => by
    show (eqV (.str s) (.str x) || inV (.str x) (ss.map V.str)) = (decide (s = x) || ss.any fun s => decide (s = x))
    rw [inV_strs x ss]
    have e : eqV (.str s) (.str x) = decide (s = x) := by
      first
        | rfl
        | (unfold eqV; exact Bool.beq_eq_decide_eq s x)
        | (simp [eqV])
    rw [e]
theorem RpAll.strs_of {K : PySem.W.Frag} {H : Hp} : ∀ {xs : List V} {ns : List Str}, RpAll K H xs (ns.map PyData.str) → xs = ns.map V.str
  | [], [], _ => rfl
  | _ :: _, n :: ns, .cons h r => by
    cases h
    rw [RpAll.strs_of r]; rfl
theorem tj_inT {x : Str} {ss : List Str} (ha : EJ X Γ B a (.da (.str x)) B1) (hb : EJ X Γ B1 b (.da (.tuple (ss.map .str))) B2) (hm : behindInMarks .In b = false := by rfl) :
    TJ X Γ B (.Compare a [.In] [b] pos) (ss.any fun s => decide (s = x)) B2 :=
  tj_cmp ha hb op_in_seq hm fun g v w H0 H O r1 r2 Q q => by
    obtain ⟨p, xs, rfl, hx, rs⟩ := rvT r2
    rw [rvS r1]
    have e := rs.strs_of
    subst e
    refine ⟨p, _, rfl, .inr (seqT O.ex hx), rfl, ?_, ?_⟩
    · rw [List.all_map]; exact List.all_eq_true.mpr fun _ _ => rfl
    · rw [if_neg (by decide), inV_strs]; exact q _ _ To.refl O
end
theorem sj_law {X : Cx} {Γ : List VD} {B B1 : Bag} {e : Expr} {x : Str} {pos pos' : Pos} {rest : List Stmt} {ns : List Int} {y : Int} (i : Nat) (nd : X.N.Nodup)
    (h : EJ X Γ B e (.da (.list [.int 0, .int y, .int 0, .list (ns.map .int)])) B1)
    (k : SJ X ((List.replicate Γ.length VD.no).set i .bag) ⟨0, y, 0, ns⟩ rest { nx := fun _ _ => False, rt := fun r _ => r = .bool true })
    (hi : X.N[i]? = some x := by rfl) (hx : Loc X.env.scope x := by first | exact Or.inl rfl | exact Or.inr rfl) (hs : swapsWith e (some (.Name x pos')) pos.line X.env = pure false := by rfl)
    (hf : X.fn x = true ∨ X.env.scope.names.lookup x = some .local := by first | exact Or.inl rfl | exact Or.inr rfl)
    {σ : L2.St} {H0 H : Hp} (Ev : EnvD X.K none H0 σ Γ) (O : On X.K none B H0 H) {Q : VK} (q : ∀ H', Q (.bl true) H') :
    WS X (.Assign [.Name x pos'] e pos :: rest) { nx := fun _ H' => Q .non H', rt := Q } σ H :=
  ⟨_, pss_cons (ps_set nd hi hx (we e) hs hf) (ws rest), h none σ H0 H Ev O _ fun v H1 H' t o r => by
    obtain ⟨p, xs, rfl, hp, rs⟩ := rvL r
    cases rs with
    | cons r0 rs =>
    cases rs with
    | cons r1 rs =>
    cases rs with
    | cons r2 rs =>
    cases rs with
    | cons r3 rs =>
    cases rs
    cases r0; cases r1; cases r2
    cases r3 with
    | lst hl rl =>
    rename_i l zs
    have ez := rl.ints_of
    subst ez
    have hlp : l ≠ p := by
      intro z
      rw [z, hp] at hl
      have e1 := HO.lst.inj (Option.some.inj hl)
      cases ns with
      | nil => cases e1
      | cons n ns =>
        cases ns with
        | nil => cases e1
        | cons m ns =>
          cases ns with
          | nil => cases e1
          | cons m2 ns =>
            cases ns with
            | nil => cases e1
            | cons m3 ns => cases e1
    refine k (some (p, l)) _ (fun b => if b = p then none else H1 b) H' ⟨?_, ?_⟩ ⟨fun b u hb => ?_, fun b m hb => ?_⟩ _ ⟨?_, ?_, ?_, ?_⟩
    · rw [List.length_set, List.length_set, List.length_replicate]; exact Ev.len
    · intro j dd hj hne
      by_cases hij : i = j
      · subst hij
        have hlt : i < Γ.length := by
          have := (List.getElem?_eq_some_iff.mp hj).1
          rwa [List.length_set, List.length_replicate] at this
        rw [List.getElem?_set_self (by rw [List.length_replicate]; exact hlt)] at hj
        cases hj
        exact ⟨.ref p, List.getElem?_set_self (by rw [Ev.len]; exact hlt), p, l, rfl, rfl⟩
      · rw [List.getElem?_set_ne hij, List.getElem?_replicate] at hj
        split at hj
        · cases hj; exact absurd rfl hne
        · cases hj
    · by_cases hb2 : b = p
      · rw [if_pos hb2] at hb; cases hb
      · rw [if_neg hb2] at hb; exact o.ex _ _ hb
    · cases hb
      refine ⟨if_pos rfl, o.ex _ _ hp, ?_⟩
      rw [if_neg hlp]; exact hl
    · intro _ _ _ _ _ z; exact z.elim
    · rintro r2 B2 v H2 H2' rfl _ _ rv
      cases rv; exact q _
    · intro _ _ _ _ _ z; exact z.elim
    · intro _ _ _ _ _ z; exact z.elim⟩
def spLaw (K : PySem.W.Frag) : Sp := fun vs H Q _ => ∃ (a : Addr) (ns : List Int), vs = [.ref a] ∧ SqL K H a (ns.map V.int) ∧ ns.length ≤ 63 ∧ ∀ H', Q (.bl true) H'
theorem law_callG {P : Program} {w : World} {K : PySem.W.Frag} {mg mb : Str → Option Value} {k : Nat} {fa a : Addr} {fd : FuncData} {x : Str} {sp : Sp} {sx : Shared} {vs : List Value} {ns : List Int}
    (KI : K.In sx.heap) (hn1 : sx.heap.Ns mainGlobals mg) (hb : sx.heap.Ns builtinsNs mb) (hbb : ∀ x : Str, x ≠ "__name__" → mb x = bootBuiltins x) (hl0 : sx.heap.NoLimit) (hg : sx.gens = #[])
    (ha : sx.heap.get? a = some { cls := .type "list", data := .seq vs.toArray }) (hi : IntsAre vs ns) (hl : ns.length ≤ sizeLine) (hr : Room k callerA)
    (F : ∀ base : Heap, K.In base → base.Ns mainGlobals mg → FnG P w K mg base k fa fd [x] sp) (hbind : ∀ (s : Shared) (u : Value), BindsTo s fd ⟨[u], []⟩ [(x, u)])
    (hsp : ∀ H : Hp, SqL K H a (ns.map V.int) → sp [.ref a] H (fun v _ => v = .bl true) fun _ _ _ => False) :
    codeAny (model P w) callerA (.call (.ref fa) ⟨[.ref a], []⟩) (fun r s' => r = Except.ok (.ret (.bool true)) ∧ OldK sx.heap s'.heap ∧ s'.os = sx.os ∧ AllBare s'.gens) sx := by
  have rv := vals_ints hi
  have lenV := hi.length
  have main : ∀ H : Hp, Only H → SqL K H a (ns.map V.int) → HOk P w H sx.heap → (∀ b, H b ≠ none → b = a) → (H a ≠ none → K.lookup a = none) →
      codeAny (model P w) callerA (.call (.ref fa) ⟨[.ref a], []⟩) (fun r s' => r = Except.ok (.ret (.bool true)) ∧ OldK sx.heap s'.heap ∧ s'.os = sx.os ∧ AllBare s'.gens) sx := by
    intro H hO hS hok hA hK
    have free : ∀ b, (∃ o, sx.heap.get? b = some o ∧ ∃ es ep, o.data = .dict es ep) → H b = none := by
      rintro b ⟨o, e, es, ep, d⟩
      cases q : H b with
      | none => rfl
      | some u =>
        have eb : b = a := hA b (by simp [q])
        rw [eb, ha] at e
        cases e
        have dd : Data.seq vs.toArray _ = Data.dict es ep := d
        cases dd
    have nsK : ∀ {b : Addr} {m : Str → Option Value}, sx.heap.Ns b m → (hidT sx.heap H).Ns b m := by
      rintro b m ⟨o, es, ep, e, dd, r⟩
      exact ⟨o, es, ep, hidT_get e (free b ⟨o, e, es, ep, dd⟩), dd, r⟩
    have hKb : K.In (hidT sx.heap H) := by
      intro b o e
      refine hidT_get (KI b o e) ?_
      cases q : H b with
      | none => rfl
      | some u =>
        have eb : b = a := hA b (by simp [q])
        rw [eb, hK (by rw [← eb]; simp [q])] at e
        cases e
    obtain ⟨mc, l1, l2⟩ := hl0
    have hM : Mod K mg (hidT sx.heap H) := ⟨hKb, nsK hn1, ⟨mb, nsK hb, hbb⟩, mc, nsK l1, l2⟩
    have e0 : Env0 P w K mg (hidT sx.heap H) callerA [] sx H :=
      ⟨rfl, hM, fun b o e => of_hidT e, Nat.le_of_eq (hidT_size _ _), trivial, fun b z => absurd (show b ∈ ([] : List Addr) from z) (by simp), hok, .of_eq hg⟩
    have cc := (F _ hKb (nsK hn1)).run callerA [] sx H ⟨[.ref a], []⟩ [.ref a] [.ref a] _ _ rfl hr e0 (hbind sx (.ref a)) (.cons rfl .nil) (hsp H hS)
    refine codeAny_mono cc fun res s2 h => ?_
    match res, h with
    | .error _, h => exact h.elim
    | .ok .next, h => exact h.elim
    | .ok .brk, h => exact h.elim
    | .ok .cont, h => exact h.elim
    | .ok (.ret u), ⟨v, H', os, bare, un, hok', r', q⟩ =>
      have q' : v = .bl true := q
      subst q'
      obtain rfl : u = .bool true := r'
      refine ⟨rfl, .of_keep fun b o e => ?_, os, bare⟩
      cases q : H b with
      | none => exact un.keep b o e q (fun z => absurd (show b ∈ ([] : List Addr) from z) (by simp)) (by simp)
      | some u =>
        cases hO b with
        | inl z => rw [q] at z; cases z
        | inr z =>
          obtain ⟨ob, xs, z⟩ := z
          obtain ⟨e1, _⟩ := hok b _ z
          obtain ⟨e2, _⟩ := hok' b _ (un.frzs b ob _ z)
          rw [e] at e1; cases e1; exact e2
  cases hk : K.lookup a with
  | some o =>
    have e := KI a o hk
    rw [ha] at e
    cases e
    refine main (fun _ => none) (fun _ => .inl rfl) (.inr ⟨_, vs.toArray, _, hk, rfl, rfl, rfl, by rw [List.size_toArray, lenV]; exact hl, by simpa using rv⟩) ?_ (fun b z => absurd rfl z) fun z => absurd rfl z
    intro b u z
    have z' : (none : Option HO) = some u := z
    cases z'
  | none =>
    have at1 : ∀ b, b ≠ a → (if b = a then some (HO.frz { cls := .type "list", data := .seq vs.toArray } (.lst (ns.map V.int))) else none) = none := fun b h => if_neg h
    refine main (fun b => if b = a then some (.frz { cls := .type "list", data := .seq vs.toArray } (.lst (ns.map V.int))) else none) (fun b => ?_) (.inl (.inr ⟨_, if_pos rfl⟩)) (fun b u z => ?_) (fun b z => ?_) fun _ => hk
    · by_cases hb : b = a
      · exact Or.inr ⟨_, _, if_pos hb⟩
      · exact .inl (if_neg hb)
    · by_cases hb : b = a
      · have zz := (if_pos hb).symm.trans z
        cases zz
        subst hb
        exact ⟨ha, by simpa using hl, vs, _, rv, ha⟩
      · have z' := (at1 b hb).symm.trans z
        cases z'
    · by_cases hb : b = a
      · exact hb
      · exact absurd (at1 b hb) z
end Gd
namespace Gd
open PySem PySem.Spec PyProof.Rows L2
def Bd (n : Nat) (i : Int) : Prop := i.natAbs < 2 ^ n
theorem Bd.le {n m : Nat} {i : Int} (h : Bd n i) (e : n ≤ m) : Bd m i := Nat.lt_of_lt_of_le h (Nat.pow_le_pow_right (by decide) e)
theorem Bd.mul {n m : Nat} {i j : Int} (h : Bd n i) (k : Bd m j) : Bd (n + m) (i * j) := wide_lt h k
theorem Bd.add {n m : Nat} {i j : Int} (h : Bd n i) (k : Bd m j) : Bd (n + m + 1) (i + j) := by
  have h1 := h.le (Nat.le_add_right n m)
  have h2 := k.le (Nat.le_add_left m n)
  have := Int.natAbs_add_le i j
  unfold Bd at *
  rw [Nat.pow_succ]; omega
theorem Bd.neg {n : Nat} {i : Int} (h : Bd n i) : Bd n (-i) := by unfold Bd; rw [Int.natAbs_neg]; exact h
theorem Bd.sub {n m : Nat} {i j : Int} (h : Bd n i) (k : Bd m j) : Bd (n + m + 1) (i - j) := by
  rw [Int.sub_eq_add_neg]; exact h.add k.neg
theorem Bd.abs {n : Nat} {i : Int} (h : Bd n i) : Bd n (if i < 0 then -i else i) := by
  split
  · exact h.neg
  · exact h
theorem Bd.mod {n : Nat} {i j : Int} (k : Bd n j) (h : 0 < j) : Bd n (i % j) := by
  have h1 := Int.emod_nonneg i (Int.ne_of_gt h)
  have h2 := Int.emod_lt_of_pos i h
  unfold Bd at *; omega
theorem Bd.nat {n a : Nat} (h : a < 2 ^ n) : Bd n (a : Int) := h
theorem cm {n m : Nat} {i j : Int} (h : Bd n i) (k : Bd m j) (e : n + m + 2 ≤ 1000000 := by decide) : CMulW i j :=
  wide_mul (h.le (Nat.le_succ n)) (k.le (Nat.le_succ m)) (Nat.succ_pos _) (Nat.succ_pos _) (by omega)
theorem cdv {n : Nat} {i j : Int} (k : Bd n j) (h : 0 < j) (e : n + 1 ≤ 9000 := by decide) : CDivW i j := wide_div h (k.le (Nat.le_succ n)) (Nat.succ_pos _) e
theorem cdx {n : Nat} {i j : Int} (k : Bd n j) (h : j ≠ 0) (e : n + 1 ≤ 9000 := by decide) : CDivX i j := ⟨h, (wide_div (i := i) (j := ((j.natAbs : Nat) : Int)) (by omega) (by rw [Int.natAbs_natCast]; exact k.le (Nat.le_succ n)) (Nat.succ_pos _) e).2⟩
theorem lg {n : Nat} {j : Int} (k : Bd n j) (e : n + 1 ≤ 9000 := by decide) : j.natAbs.log2 < 9000 := Nat.lt_of_lt_of_le (PySem.Flt.log2_lt_of (Nat.succ_pos _) (k.le (Nat.le_succ n))) e
section
variable {X : Cx} {Γ : List VD} {B B1 B2 B3 B' : Bag} {e a b c : Expr} {es : List Expr} {d da db dc : VD} {pos p pos' : Pos} {rest ss s1 s2 : List Stmt} {E : En}
def AD (X : Cx) (Γ : List VD) (B : Bag) (es : List Expr) (ds : List PyData) (B' : Bag) : Prop := AJ X Γ B es (ds.map .da) B'
theorem ad_nil : AD X Γ B [] [] B := aj_nil
theorem ad_cons {y : PyData} {ds : List PyData} (h : EJ X Γ B e (.da y) B1) (r : AD X Γ B1 es ds B2) (hs : starEach (e :: es) X.env = (false, eval e X.env) :: starEach es X.env := by rfl) : AD X Γ B (e :: es) (y :: ds) B2 := aj_cons h r hs
theorem ej_tupD {ds : List PyData} {k} (h : AD X Γ B es ds B1) (hl : ds.length ≤ 1000 := by decide) : EJ X Γ B (.Tuple es k pos) (.da (.tuple ds)) B1 := ej_tup h hl
theorem ej_lstD {ds : List PyData} (h : AD X Γ B es ds B1) (hl : ds.length ≤ 1000 := by decide) : EJ X Γ B (.List es pos) (.da (.list ds)) B1 := ej_lst h hl
theorem ej_at {ds : List PyData} {i : Int} {y : PyData} {j} (ha : EJ X Γ B a (.da (.tuple ds)) B1) (h : atI ds i = some y := by rfl) : EJ X Γ B (.Subscript a (.Constant (.int i) j p) pos) (.da y) B1 :=
  ej_ixT ha ej_int h fun _ _ => rfl
theorem ej_ifI {x : Bool} {u v : Int} (h : TJ X Γ B c x B1) (h1 : x = true → EJ X Γ B1 a (.da (.int u)) B2) (h2 : x = false → EJ X Γ B1 b (.da (.int v)) B2) : EJ X Γ B (.IfExp c a b pos) (.da (.int (bif x then u else v))) B2 :=
  ej_if h (fun e => by subst e; exact h1 rfl) fun e => by subst e; exact h2 rfl
theorem sj_ifM {x : Bool} (M : List VD → Bag → Prop) (h : TJ X Γ B c x B1) (h1 : x = true → SJ X Γ B1 s1 { E with nx := M }) (h2 : x = false → SJ X Γ B1 s2 { E with nx := M }) (k : ∀ Γ' B', M Γ' B' → SJ X Γ' B' rest E) :
    SJ X Γ B (.If c s1 s2 pos :: rest) E :=
  sj_if h (fun e => sj_mono (h1 e) (fun Γ' B' q => k Γ' B' q) (fun _ _ q => q) (fun _ _ q => q) (fun _ _ q => q)) (fun e => sj_mono (h2 e) (fun Γ' B' q => k Γ' B' q) (fun _ _ q => q) (fun _ _ q => q) (fun _ _ q => q))
theorem tj_neS {i j : Str} (ha : EJ X Γ B a (.da (.str i)) B1) (hb : EJ X Γ B1 b (.da (.str j)) B2) : TJ X Γ B (.Compare a [.NotEq] [b] pos) (!decide (i = j)) B2 :=
  tj_cmp ha hb op_ne (nomark _) fun g v w H0 H O r1 r2 Q q => by
    rw [rvS r1, rvS r2]
    have e : decide (V.str i = V.str j) = decide (i = j) := by
      by_cases h : i = j
      · subst h; simp
      · rw [decide_eq_false h, decide_eq_false fun z => h (V.str.inj z)]
    refine ⟨rfl, ?_⟩
    rw [e]; exact q H0 H To.refl O
theorem ej_mulC {i j : Int} (ha : EJ X Γ B a (.da (.int i)) B1) (hb : EJ X Γ B1 b (.da (.int j)) B2) (hc : CMul i j) : EJ X Γ B (.BinOp a .Mult b pos) (.da (.int (i * j))) B2 :=
  ej_iic ha hb op_mul hc fun _ => .int _
theorem eqv_refl_of {y : PyData} (h : SeqAt.shaped y = true) : PyData.eqv y y = true := SeqAt.eqv_refl y (SeqAt.canLay_of_shaped h)
end
def At (K : PySem.W.Frag) (mg : Str → Option Value) (x : Str) (st : Stmt) (ps : List Str) : Prop :=
  ∃ f fd, Fun K x x st f fd ∧ mg x = some (.ref f) ∧ Binds K fd ps []
theorem cal_at {P : Program} {w : World} {K : PySem.W.Frag} {mg : Str → Option Value} {base : Heap} {x : Str} {st : Stmt}
    {N ps : List Str} {k : Nat} {R : Rel} (T : At K mg x st ps) (S : FnScope N ps (defScope st))
    (len : ∀ Γ B r B', R Γ B r B' → Γ.length = ps.length)
    (body : ∀ (f : Addr) (cdv : Value) (A : Around) (out : List Env) (s : Shared) (H : Hp) (E : XK),
      Gx k (cxOf CX0 P w K mg base N x (defScope st) f cdv A out s H E).nox → ∀ Γ B r B', R Γ B r B' →
      SJ (cxOf CX0 P w K mg base N x (defScope st) f cdv A out s H E).nox (Γ ++ List.replicate (N.length - ps.length) .no) B (defBody st)
        { nx := fun _ B2 => r = .none ∧ B2 = B', rt := fun d B2 => d = r ∧ B2 = B' }) :
    Cal P w K mg base x (k + 1) R := by
  obtain ⟨f, fd, F, hm, hb⟩ := T
  exact cal_of F hm hb S len fun cdv A out s H E G => body f cdv A out s H E G
end Gd
namespace Fr
open Gd PySem
open scoped Rat
def fq (q : Rat) : PyData := .tuple [.int q.num, .int (q.den : Int)]
def com (n d : Int) : Int := if d < 0 then -((Nat.gcd n.natAbs d.natAbs : Nat) : Int) else ((Nat.gcd n.natAbs d.natAbs : Nat) : Int)
theorem com_ne {n d : Int} (h : d ≠ 0) : com n d ≠ 0 := by
  have : 0 < Nat.gcd n.natAbs d.natAbs := Nat.gcd_pos_of_pos_right _ (by omega)
  unfold com; split <;> omega
theorem com_bd {n d : Int} {k : Nat} (h : d ≠ 0) (b : Bd k d) : Bd k (com n d) := by
  have h1 : Nat.gcd n.natAbs d.natAbs ≤ d.natAbs := Nat.gcd_le_right _ (by omega)
  unfold Bd com at *; split <;> omega
theorem red_num {n d : Int} (h : d ≠ 0) : n.fdiv (com n d) = (n /. d).num := by
  rw [Rat.num_divInt]
  have hg : (d.gcd n : Int) = (Nat.gcd n.natAbs d.natAbs : Nat) := by rw [Int.gcd_comm]; rfl
  rw [hg]
  unfold com
  by_cases hd : d < 0
  · rw [if_pos hd, Int.sign_eq_neg_one_of_neg hd, Int.neg_one_mul]
    have := Int.neg_fdiv_neg (-n) ((Nat.gcd n.natAbs d.natAbs : Nat) : Int)
    rw [Int.neg_neg] at this
    rw [this, Int.fdiv_eq_ediv_of_nonneg _ (Int.natCast_nonneg _)]
  · rw [if_neg hd, Int.sign_eq_one_of_pos (by omega), Int.one_mul, Int.fdiv_eq_ediv_of_nonneg _ (Int.natCast_nonneg _)]
theorem red_den {n d : Int} (h : d ≠ 0) : d.fdiv (com n d) = ((n /. d).den : Int) := by
  rw [Rat.den_divInt, if_neg h]
  have hg : d.gcd n = Nat.gcd n.natAbs d.natAbs := by rw [Int.gcd_comm]; rfl
  rw [hg]
  unfold com
  by_cases hd : d < 0
  · rw [if_pos hd]
    have := Int.neg_fdiv_neg (-d) ((Nat.gcd n.natAbs d.natAbs : Nat) : Int)
    rw [Int.neg_neg] at this
    rw [this, Int.fdiv_eq_ediv_of_nonneg _ (Int.natCast_nonneg _)]
    rw [Int.natCast_ediv]
    have : -d = (d.natAbs : Int) := by omega
    rw [this]
  · rw [if_neg hd, Int.fdiv_eq_ediv_of_nonneg _ (Int.natCast_nonneg _), Int.natCast_ediv]
    have : d = (d.natAbs : Int) := by omega
    conv => lhs; lhs; rw [this]
theorem divInt_bd {n d : Int} {a b : Nat} (h : d ≠ 0) (ha : Bd a n) (hb : Bd b d) : Bd a (n /. d).num ∧ Bd b ((n /. d).den : Int) := by
  constructor
  · rw [← red_num h]
    unfold Bd at *
    refine Nat.lt_of_le_of_lt ?_ ha
    rw [red_num h, Rat.num_divInt]
    refine Nat.le_trans (Int.natAbs_ediv_le_natAbs _ _) ?_
    rw [Int.natAbs_mul, Int.natAbs_sign_of_ne_zero h, Nat.one_mul]
    exact Nat.le_refl _
  · unfold Bd at *
    rw [Int.natAbs_natCast, Rat.den_divInt, if_neg h]
    exact Nat.lt_of_le_of_lt (Nat.div_le_self _ _) hb
theorem den_pos (q : Rat) : (0 : Int) < (q.den : Int) := Int.natCast_pos.mpr q.den_pos
theorem den_ne (q : Rat) : (q.den : Int) ≠ 0 := Int.ne_of_gt (den_pos q)
theorem self_div (q : Rat) : q.num /. (q.den : Int) = q := Rat.num_divInt_den q
theorem add_div (x y : Rat) : (x.num * (y.den : Int) + y.num * (x.den : Int)) /. ((x.den : Int) * (y.den : Int)) = x + y := by
  rw [← Rat.divInt_add_divInt _ _ (den_ne x) (den_ne y), self_div, self_div]
theorem mul_div (x y : Rat) : (x.num * y.num) /. ((x.den : Int) * (y.den : Int)) = x * y := by
  rw [← Rat.divInt_mul_divInt, self_div, self_div]
theorem sub_div (x y : Rat) : (x.num * (y.den : Int) - y.num * (x.den : Int)) /. ((x.den : Int) * (y.den : Int)) = x - y := by
  have := add_div x (-y)
  rw [Rat.neg_num, Rat.neg_den] at this
  rw [Rat.sub_eq_add_neg, ← this]
  congr 1
  rw [Int.neg_mul, Int.sub_eq_add_neg]
end Fr
namespace Gd
open PySem PySem.Spec PyProof.Rows L2
mutual
def nice : PyData → Bool
  | .none => true
  | .bool _ => true
  | .int i => decide (Nat.log2 i.natAbs < 1920)
  | .str x => x.cps.all fun c => c < 0x110000
  | .list xs => niceAll xs
  | .tuple xs => niceAll xs
  | .dict _ => false
def niceAll : List PyData → Bool
  | [] => true
  | x :: xs => nice x && niceAll xs
end
mutual
theorem nice_sh : ∀ d : PyData, nice d = true → d.showable = true
  | .none, _ => by simp only [PyData.showable]
  | .bool _, _ => by simp only [PyData.showable]
  | .int i, h => by simp only [nice] at h; simp only [PyData.showable]; exact h
  | .str _, _ => by simp only [PyData.showable]
  | .list xs, h => by simp only [nice] at h; simp only [PyData.showable]; exact nice_shA xs h
  | .tuple xs, h => by simp only [nice] at h; simp only [PyData.showable]; exact nice_shA xs h
  | .dict _, h => by simp only [nice] at h; cases h
theorem nice_shA : ∀ ds : List PyData, niceAll ds = true → PyData.showableAll ds = true
  | [], _ => by
    simp only [PyData.showableAll]
  | x :: xs, h => by
    simp only [niceAll, Bool.and_eq_true] at h
    simp only [PyData.showableAll, Bool.and_eq_true]; exact ⟨nice_sh x h.1, nice_shA xs h.2⟩
end
mutual
theorem nice_nd : ∀ d : PyData, nice d = true → d.hasDict = false
  | .none, _ => by simp only [PyData.hasDict]
  | .bool _, _ => by simp only [PyData.hasDict]
  | .int i, h => by simp only [PyData.hasDict]
  | .str _, _ => by simp only [PyData.hasDict]
  | .list xs, h => by simp only [nice] at h; simp only [PyData.hasDict]; exact nice_ndA xs h
  | .tuple xs, h => by simp only [nice] at h; simp only [PyData.hasDict]; exact nice_ndA xs h
  | .dict _, h => by simp only [nice] at h; cases h
theorem nice_ndA : ∀ ds : List PyData, niceAll ds = true → PyData.hasDictAll ds = false
  | [], _ => by simp only [PyData.hasDictAll]
  | x :: xs, h => by
    simp only [niceAll, Bool.and_eq_true] at h
    simp only [PyData.hasDictAll, Bool.or_eq_false_iff]; exact ⟨nice_nd x h.1, nice_ndA xs h.2⟩
end
mutual
theorem nice_lay : ∀ d : PyData, nice d = true → d.canLay0 = true
  | .none, _ => by simp only [PyData.canLay0]
  | .bool _, _ => by simp only [PyData.canLay0]
  | .int i, h => by simp only [PyData.canLay0]
  | .str _, h => by simp only [nice] at h; simp only [PyData.canLay0]; exact h
  | .list xs, h => by simp only [nice] at h; simp only [PyData.canLay0]; exact nice_layA xs h
  | .tuple xs, h => by simp only [nice] at h; simp only [PyData.canLay0]; exact nice_layA xs h
  | .dict _, h => by simp only [nice] at h; cases h
theorem nice_layA : ∀ ds : List PyData, niceAll ds = true → PyData.canLayAll0 ds = true
  | [], _ => by simp only [PyData.canLayAll0]
  | x :: xs, h => by
    simp only [niceAll, Bool.and_eq_true] at h
    simp only [PyData.canLayAll0, Bool.and_eq_true]; exact ⟨nice_lay x h.1, nice_layA xs h.2⟩
end
mutual
theorem nice_short : ∀ d : PyData, nice d = true → d.leavesShort 1921 = true
  | .none, _ => by simp only [PyData.leavesShort]
  | .bool _, _ => by simp only [PyData.leavesShort]
  | .int i, h => by
    simp only [nice, decide_eq_true_eq] at h
    simp only [PyData.leavesShort, decide_eq_true_eq, PyData.shown_int]
    exact int_text_len_1921 h
  | .str x, h => by
    simp only [nice] at h
    simp only [PyData.leavesShort, List.all_eq_true, decide_eq_true_eq]
    intro c hc
    have h2 := Array.all_eq_true'.mp h c (by simpa using hc)
    have h3 : c < 0x110000 := of_decide_eq_true h2
    omega
  | .list xs, h => by simp only [nice] at h; simp only [PyData.leavesShort]; exact nice_shortA xs h
  | .tuple xs, h => by simp only [nice] at h; simp only [PyData.leavesShort]; exact nice_shortA xs h
  | .dict _, h => by simp only [nice] at h; cases h
theorem nice_shortA : ∀ ds : List PyData, niceAll ds = true → PyData.leavesShortAll 1921 ds = true
  | [], _ => by simp only [PyData.leavesShortAll]
  | x :: xs, h => by
    simp only [niceAll, Bool.and_eq_true] at h
    simp only [PyData.leavesShortAll, Bool.and_eq_true]; exact ⟨nice_short x h.1, nice_shortA xs h.2⟩
end
structure Okd (d : PyData) : Prop where
  nice : Gd.nice d = true
  dp : d.depth ≤ 60
  bulk : d.bulk ≤ 5000
theorem Okd.shows {d : PyData} (h : Okd d) : Shows d := ⟨nice_sh d h.nice, nice_nd d h.nice, h.dp, by
  have h1 := PyData.shown_le_bulk 1921 (by decide) d (nice_short d h.nice)
  have h2 := h.bulk
  rw [show sizeLine = 16777216 from by decide]
  omega⟩
theorem Okd.shaped {d : PyData} (h : Okd d) : SeqAt.shaped d = true := by
  unfold SeqAt.shaped
  rw [nice_lay d h.nice, Bool.true_and, decide_eq_true_eq]
  have := h.dp; omega
theorem nice_int {n : Nat} {i : Int} (h : Bd n i) (e : n ≤ 1920 := by decide) : nice (.int i) = true := by
  simp only [nice, decide_eq_true_eq]
  by_cases h0 : 0 < n
  · exact Nat.lt_of_lt_of_le (PySem.Flt.log2_lt_of h0 h) e
  · have : n = 0 := by omega
    subst this
    have : i.natAbs = 0 := by unfold Bd at h; omega
    rw [this]; decide
theorem niceAll_cons {d : PyData} {ds : List PyData} (h : nice d = true) (r : niceAll ds = true) : niceAll (d :: ds) = true := by simp only [niceAll, h, r, Bool.and_self]
theorem niceAll_nil : niceAll [] = true := by simp only [niceAll]
theorem nice_list {ds : List PyData} (r : niceAll ds = true) : nice (.list ds) = true := by simp only [nice]; exact r
theorem nice_tuple {ds : List PyData} (r : niceAll ds = true) : nice (.tuple ds) = true := by simp only [nice]; exact r
end Gd
namespace Gd
open PySem PySem.Spec PyProof.Rows L2
theorem at_mk {K : PySem.W.Frag} {h : Heap} {mg : Str → Option Value} {x : Str} {st : Stmt} (ps : List Str) {f : Addr} {oc : Value} {od an : Option Addr} {osl : Array (Option Value)} {kV doc pm cdv ct : Value}
    (X : K.In h) (G : h.Ns mainGlobals mg) (a : PySem.W.nsIn K mainGlobals x = some (some (.ref f)))
    (l : K.lookup f = some ⟨oc, od, .func (PySem.W.fnOf x x (defArgs st) (defBody st) (defScope st) .none kV doc pm an cdv ct), osl⟩) (c : PySem.W.codeIn K cdv x = true) (k : PySem.W.keepIn K (.ref f) = true)
    (b : ∀ (kV doc pm : Value) (an : Option Addr) (cdv ct : Value) (us : List Value), us.length = ps.length → bindArgs (PySem.W.fnOf x x (defArgs st) (defBody st) (defScope st) .none kV doc pm an cdv ct) ⟨us, []⟩ = pure (ps.zip us)) :
    At K mg x st ps := ⟨f, _, fun_mk l c k, PySem.W.mg_of X G a, (fun_mk (st := st) l c k).binds b⟩
theorem law_mk {P : Program} {w : World} {K : PySem.W.Frag} {h : Heap} {mg : Str → Option Value} {st : Stmt} {fa f : Addr} {oc : Value} {od an : Option Addr} {osl : Array (Option Value)} {kV doc pm cdv ct : Value} {n : Nat}
    (X : K.In h) (G : h.Ns mainGlobals mg) (hfa : mg "law" = some (.ref fa)) (a : PySem.W.nsIn K mainGlobals "law" = some (some (.ref f)))
    (l : K.lookup f = some ⟨oc, od, .func (PySem.W.fnOf "law" "law" (defArgs st) (defBody st) (defScope st) .none kV doc pm an cdv ct), osl⟩) (c : PySem.W.codeIn K cdv "law" = true) (k : PySem.W.keepIn K (.ref f) = true)
    (b : ∀ (s : Shared) (v : Value), BindsTo s (PySem.W.fnOf "law" "law" (defArgs st) (defBody st) (defScope st) .none kV doc pm an cdv ct) ⟨[v], []⟩ [("_law_script", v)])
    (H : ∀ (base : Heap) (f : Addr) (fd : FuncData), Fun K "law" "law" st f fd → FnG P w K mg base n f fd ["_law_script"] (spLaw K)) :
    ∃ fd : FuncData, (∀ (s : Shared) (v : Value), BindsTo s fd ⟨[v], []⟩ [("_law_script", v)]) ∧ ∀ base : Heap, K.In base → base.Ns mainGlobals mg → FnG P w K mg base n fa fd ["_law_script"] (spLaw K) := by
  have e := hfa.symm.trans (PySem.W.mg_of X G a)
  cases e
  exact ⟨_, b, fun base _ _ => H base _ _ (fun_mk l c k)⟩
end Gd
namespace Gd
open PySem PySem.Spec PyProof.Rows L2
def keyT (e : Int × Value) : Str := match e.2 with | .str k _ => k | _ => Str.empty
def TxE (w : World) (e : Int × Value) : Prop := ∃ k tk, e.2 = Value.str k tk ∧ e.1 = hashStr w k
structure TxAt (w : World) (l : List Str) (o : Obj) (es : Array (Int × Value)) (t : SetTable) : Prop where
  ex : o.ExactSet
  el : ∀ e ∈ es.toList, TxE w e
  nd : (es.toList.map keyT).Nodup
  me : ∀ k, k ∈ es.toList.map keyT ↔ k ∈ l
  sz : es.size ≤ l.length
  ft : t.fits es.size = true
  ri : Ris t.place.toList
  ld : w.params.followText "set-order" = true ∨ t.led = true
def TxSet (w : World) (h : Heap) (a : Addr) (l : List Str) : Prop := ∃ o es ep t, h.get? a = some o ∧ o.data = .set es ep t ∧ TxAt w l o es t
theorem TxSet.at {w : World} {h h' : Heap} {a : Addr} {l : List Str} (R : TxSet w h a l) (k : ∀ o, h.get? a = some o → h'.get? a = some o) : TxSet w h' a l :=
  let ⟨o, es, ep, t, ho, r⟩ := R; ⟨o, es, ep, t, k o ho, r⟩
section
variable {P : Program} {w : World} {A : Around} {E : Value → Shared → Prop} {s : Shared} {a : Addr} {l : List Str}
theorem tx_elems {es : List (Int × Value)} (g : ∀ e ∈ es, TxE w e) : ElemsOf (PySem.strKind P w) es := fun e he => by
  obtain ⟨k, tk, h1, h2⟩ : TxE w e := g e he
  exact ⟨⟨k, by rw [h1]; exact strKind_is P w k tk, h2⟩, by rw [h1] <;> rfl⟩
theorem tx_is {e : Int × Value} (g : TxE w e) (k : Str) : (PySem.strKind P w).is k e.2 = true ↔ keyT e = k := by
  obtain ⟨k0, tk, h1, h2⟩ := g
  have e1 : keyT e = k0 := by unfold keyT; rw [h1]
  have e2 : (PySem.strKind P w).is k0 e.2 = true := by rw [h1]; exact strKind_is P w k0 tk
  rw [e1]
  exact ⟨fun z => (PySem.strKind P w).inj _ _ _ e2 z, fun z => z ▸ e2⟩
theorem tx_tail {g : Bool → Sem Unit} (hg : ∀ (b : Bool) (s₁ : Shared) (Q' : Unit → Shared → Prop), Q' () s₁ → wpAny (model P w) A (g b) Q' E s₁)
    {o : Obj} {es es1 : Array (Int × Value)} {ep : Nat} {t t2 : SetTable} (ho : s.heap.get? a = some o) (hd : o.data = .set es ep t) (T : TxAt w l o es1 t2) (hb : es1.size < scanBound) {wd : Bool} {R : Option Bool → Shared → Prop}
    (hR : ∀ h', Heap.SameBut a s.heap h' → TxSet w h' a l → R (some true) { s with heap := h' }) :
    wpAny (model P w) A (do storeSet a es1 t2; if (!wd && t2.tooFull) = true then (do g (relayAll t2 es1 (SetTable.grown es1.size)).2.2; storeSet a (relayAll t2 es1 (SetTable.grown es1.size)).1 (relayAll t2 es1 (SetTable.grown es1.size)).2.1; pure (some true)) else pure (some true)) R E s := by
  have ho1 := store_at (t' := t2) (es' := es1) ho hd
  have sb := Heap.SameBut.update s.heap a (Obj.putSet es1 t2)
  refine wpAny_bind (wpAny_storeSet_of ho hd ?_ (fits_of_scanBound hb))
  by_cases c : (!wd && t2.tooFull) = true
  · rw [if_pos c]
    have pm := relayAll_perm t2 es1 (SetTable.grown es1.size); have p2 := relayAll_fits t2 es1 (SetTable.grown es1.size)
    have p3 := relayAll_ris t2 es1 (SetTable.grown es1.size); have p4 := relayAll_led t2 es1 (SetTable.grown es1.size)
    generalize relayAll t2 es1 (SetTable.grown es1.size) = Z at pm p2 p3 p4 ⊢; obtain ⟨es2, t3, gave⟩ := Z
    dsimp only at pm p2 p3 p4 ⊢
    have z : es2.size = es1.size := by rw [← Array.length_toList, pm.length_eq, Array.length_toList]
    refine wpAny_bind (hg _ _ _ (wpAny_bind (wpAny_storeSet_of ho1 rfl ?_ (fits_of_scanBound (by rw [z]; exact hb)))))
    refine wpAny_pure (hR _ (sb.trans (Heap.SameBut.update _ a _)) ⟨_, es2, _, t3, store_at ho1 rfl, rfl, ⟨T.ex, fun e he => T.el e (pm.mem_iff.mp he), (pm.map keyT).nodup_iff.mpr T.nd, fun k => (pm.map keyT).mem_iff.trans (T.me k), ?_, p2, p3, ?_⟩⟩)
    · rw [z]; exact T.sz
    · exact T.ld.imp id fun q => by rw [p4]; exact q
  · rw [if_neg c]
    exact wpAny_pure (hR _ sb ⟨_, es1, _, t2, ho1, rfl, ⟨T.ex, T.el, T.nd, T.me, T.sz, T.ft, T.ri, T.ld⟩⟩)
theorem tx_add {k : Str} {tk : Tok} {Q : Bool → Shared → Prop} (R : TxSet w s.heap a l) (room : l.length + 1 < scanBound)
    (hQ : ∀ b h', Heap.SameBut a s.heap h' → TxSet w h' a (k :: l) → Q b { s with heap := h' }) :
    wpAny (model P w) A (setAddHashed a (.str k tk) ((PySem.strKind P w).hash k)) Q E s := by
  obtain ⟨o, es, ep, t, ho, hd, T⟩ := R
  have hkey : (PySem.strKind P w).is k (.str k tk) = true := strKind_is P w k tk
  have hsc : (Value.str k tk).scannable = true := rfl
  have hel : ElemsOf (PySem.strKind P w) es.toList := tx_elems T.el
  have hb : es.size < scanBound := Nat.lt_of_le_of_lt T.sz (Nat.lt_of_succ_lt room); unfold setAddHashed setAddHashedIn
  refine wpAny_holding (wpAny_bind (wpAny_setState_of ho hd T.ft ?_))
  dsimp only
  rw [byScan_of hsc hb hel]
  simp only [↓reduceIte]
  unfold setAddByScan
  refine wpAny_bind (wpAny_bind (wpAny_rule (wpAny_bind (wpAny_setScan_of hkey ho hd T.ft hel ?_))))
  cases hfi : List.findIdx? (fun e => (PySem.strKind P w).is k e.2) es.toList
  case none =>
    dsimp only
    have hnk : k ∉ es.toList.map keyT := fun z => by
      obtain ⟨e, he, q⟩ := List.mem_map.mp z; have c := List.findIdx?_eq_none_iff.mp hfi e he
      rw [(tx_is (T.el e he) k).2 q] at c; cases c
    have hgw : ∀ (b : Bool) {s₁ : Shared} {Q' : Unit → Shared → Prop}, Q' () s₁ → wpAny (model P w) A (match b with | true => rule "set.scan.the-table-gave-way" | false => pure ()) Q' E s₁ := by
      intro b s₁ Q' q; cases b <;> first | exact wpAny_pure q | exact wpAny_rule q
    have pm := layNew_perm t es ((PySem.strKind P w).hash k) (.str k tk); have p2 := layNew_fits t es ((PySem.strKind P w).hash k) (.str k tk)
    have p3 := layNew_ris t es ((PySem.strKind P w).hash k) (.str k tk) T.ri; have p4 := layNew_led t es ((PySem.strKind P w).hash k) (.str k tk)
    generalize layNew t es ((PySem.strKind P w).hash k) (.str k tk) = Z at pm p2 p3 p4 ⊢; obtain ⟨es1, t1, wd, gave⟩ := Z
    dsimp only at pm p2 p3 p4 ⊢
    rw [Array.toList_push] at pm
    have pc : es1.toList.Perm (((PySem.strKind P w).hash k, Value.str k tk) :: es.toList) := pm.trans (List.perm_append_singleton _ _)
    have pk : (es1.toList.map keyT).Perm (k :: es.toList.map keyT) := pc.map keyT
    have hsz : es1.size = es.size + 1 := by rw [← Array.length_toList, pc.length_eq, List.length_cons, Array.length_toList]
    have T1 : TxAt w (k :: l) o es1 t1 := by
      refine ⟨T.ex, fun e he => ?_, pk.nodup_iff.mpr (List.nodup_cons.mpr ⟨hnk, T.nd⟩), fun i => ?_, ?_, p2, p3, T.ld.imp id fun z => by rw [p4]; exact z⟩
      · rcases List.mem_cons.mp (pc.mem_iff.mp he) with z | z
        · exact z ▸ ⟨k, tk, rfl, rfl⟩
        · exact T.el e z
      · rw [pk.mem_iff, List.mem_cons, List.mem_cons, T.me i]
      · have := T.sz; rw [hsz, List.length_cons]; omega
    have hb1 : es1.size < scanBound := by have := T.sz; omega
    have T2 : TxAt w (k :: l) o es1 { t1 with plain := false } := ⟨T1.ex, T1.el, T1.nd, T1.me, T1.sz, SetTable.fits_plain_off p2, T1.ri, T1.ld⟩
    refine wpAny_bind (hgw _ ?_)
    split
    · refine wpAny_bind ?_; rw [hashByValue_scannable 8 hsc]
      refine wpAny_pure (tx_tail (l := k :: l) ?_ ho hd ?_ hb1 ?_)
      · intro b s₁ Q' q; cases b <;> first | exact wpAny_rule q | exact wpAny_pure q
      · first | exact T2 | (split <;> first | exact T1 | exact T2) | exact T1
      · intro h' sb r; dsimp only; exact wpAny_pure (hQ _ h' sb r)
    · refine wpAny_bind (wpAny_pure ?_); simp only [↓reduceIte]
      refine tx_tail (l := k :: l) ?_ ho hd T1 hb1 ?_
      · intro b s₁ Q' q; cases b <;> first | exact wpAny_rule q | exact wpAny_pure q
      · intro h' sb r; dsimp only; exact wpAny_pure (hQ _ h' sb r)
  case some j =>
    dsimp only; obtain ⟨hj, pj, _⟩ := List.findIdx?_eq_some_iff_getElem.mp hfi
    have hk : k ∈ es.toList.map keyT := List.mem_map.mpr ⟨_, List.getElem_mem hj, (tx_is (T.el _ (List.getElem_mem hj)) k).1 pj⟩
    refine wpAny_pure (wpAny_pure (hQ _ s.heap (Heap.SameBut.refl a s.heap) ⟨o, es, ep, t, ho, hd, ⟨T.ex, T.el, T.nd, fun i => ?_, ?_, T.ft, T.ri, T.ld⟩⟩))
    · rw [List.mem_cons, ← T.me i]
      exact ⟨.inr, fun z => z.elim (fun e => e ▸ hk) id⟩
    · have := T.sz; rw [List.length_cons]; omega
end
end Gd
namespace Gd
open PySem PySem.Spec PyProof.Rows L2
theorem tx_start {w : World} {h : Heap} {a : Addr} (ho : h.get? a = some { cls := .type "set", dict := none, data := .set #[] 0 (.fresh 0 0 (!w.params.followText "set-order")) }) : TxSet w h a [] := by
  refine ⟨_, #[], 0, _, ho, rfl, ⟨⟨rfl, rfl, rfl⟩, fun e he => by simp at he, by simp, fun k => by simp, Nat.le_refl _, rfl, List.Pairwise.nil, ?_⟩⟩; show _ ∨ (!w.params.followText "set-order") = true
  cases w.params.followText "set-order" <;> simp
section
variable {P : Program} {w : World} {A : Around} {s : Shared} {E : Value → Shared → Prop}
theorem tx_loop {I : Addr} {fp wr : List Addr} {G : Array GenState → Array GenState → Prop} {n : Nat} {Pv : Nat → Value → Prop} {St : Nat → Shared → Prop} {R : Result → Shared → Prop}
    (W : WalksS P w A.in1 I fp wr G n Pv St) (S : Addr) (hSf : S ∉ fp) (xs : List Str) (hn : n = xs.length) (hb : xs.length + 1 < scanBound) (hv : ∀ i v, Pv i v → ∃ k t, xs[i]? = some k ∧ v = .str k t) :
    ∀ (m i : Nat) (s : Shared), n - i = m → i ≤ n → St i s → (∃ l, l.length = i ∧ (∀ k, k ∈ l ↔ k ∈ xs.take i) ∧ TxSet w s.heap S l) →
      (∀ s' l, Moved (S :: wr) G s s' → l.length = n → (∀ k, k ∈ l ↔ k ∈ xs) → TxSet w s'.heap S l → R (.ok (.ret .none)) s') → codeAny (model P w) A (.builtin "set.update.loop" ⟨[.ref S, .ref I], []⟩) R s := by
  have hSw : S ∉ wr := fun z => hSf (W.sub _ z)
  have up : ∀ b ∈ wr, b ∈ S :: wr := fun b => List.mem_cons_of_mem _
  intro m
  induction m with
  | zero =>
    intro i s hm hi hst ⟨l, hl, hk, hS⟩ hR
    obtain rfl : i = n := by omega
    refine codeAny_builtin F.entry_set_update_loop ?_; rw [Around.under_plainId F.plain_set_update_loop _]
    refine wpAny_bind (W.done s _ _ hst fun s' mv => wpAny_pure (hR s' l (mv.mono up) hl (fun k => ?_) (hS.at fun o e => mv.heap S o hSw e)))
    rw [hk, List.take_of_length_le (by omega)]
  | succ m ih =>
    intro i s hm hi hst ⟨l, hl, hk, hS⟩ hR
    refine codeAny_builtin F.entry_set_update_loop ?_; rw [Around.under_plainId F.plain_set_update_loop _]
    refine wpAny_bind (W.item i s _ _ (by omega) hst fun v s' hP hst' mv => ?_)
    obtain ⟨z, t, hz, rfl⟩ := hv i v hP
    show wpAny _ A.in1 (holding [Value.str z t] (setAdd S (.str z t)) >>= _) _ _ s'; refine wpAny_bind (wpAny_holding ?_)
    unfold setAdd
    refine wpAny_holding (wpAny_bind ((PySem.strKind P w).pyHash (k := z) (strKind_is _ _ _ _) ?_))
    refine tx_add (s := { s' with toks := s'.toks + 1 }) (hS.at fun o e => mv.heap S o hSw e) (by omega) fun b h' sb S2 => ?_
    refine wpAny_pure ⟨plainId_quiet F.plain_set_update_loop _, ih (i + 1) _ (by omega) (by omega) (W.frame _ s' _ _ hst' (Nat.le_succ _) fun b hb o e => ?_) ⟨z :: l, by rw [List.length_cons, hl], fun k => ?_, S2⟩ fun s2 l2 mv2 hl2 hk2 S3 => ?_⟩
    · rw [sb.2 b fun h : b = S => hSf (h ▸ hb)]; exact e
    · rw [List.take_add_one, hz, List.mem_cons, List.mem_append, hk]; simp [or_comm]
    · refine hR s2 l2 (Moved.trans W.gtrans ((mv.mono up).then_heap (Nat.le_succ _) fun b o hb e => ?_) mv2) hl2 hk2 S3
      rw [sb.2 b fun h : b = S => hb (by rw [h]; exact List.mem_cons_self)]; exact e
set_option maxHeartbeats 3300000 in
theorem tx_call {l : Addr} {items : Array Value} (xs : List Str) {Q : Value → Shared → Prop} (hh : A.handled = none) (hl : s.heap.IsList l items) (hit : StrsAre items.toList xs) (hb : xs.length + 1 < scanBound)
    (h : ∀ (h' : Heap) (tk : Nat) (ys : List Str), TxSet w h' s.heap.objs.size ys → ys.length = xs.length → (∀ k, k ∈ ys ↔ k ∈ xs) → (∀ b o, s.heap.get? b = some o → h'.get? b = some o) → Q (.ref s.heap.objs.size) { s with heap := h', toks := tk }) : wpAny (model P w) A (call (.type "set") [.ref l]) Q E s := by
  have hsz : items.size = xs.length := (Array.length_toList (xs := items)).symm.trans (StrsAre.len_eq hit); obtain ⟨c, tl, hmro⟩ := F.called_set.mro
  have hmade := F.called_set.made; have hsub := F.called_set.sub
  refine wpAny_call (codeAny_of_tree ?_); show wpAny _ _ (callAny (.type "set") _) _ _ _
  refine wpAny_pure ⟨Code.quiet_builtin _ (by decide +kernel), codeAny_builtin F.entry_type_call ?_⟩; rw [Around.under_plain (weight_type_call_type "set" [.ref l] []) rfl]
  have h1 := F.called_set.notType; have h2 := F.called_set.canCreate; have hct := F.typeCall_set_1 (.ref l); repeat (any_goals (first | assumption | wp_step))
  let o0 : Obj := { cls := .type "set", dict := none, data := .set #[] 0 (.fresh 0 0 (!w.params.followText "set-order")) }
  refine codeAny_mono (code_set_led1 (.ref l) (E := E) (Q₁ := fun obj s₁ => obj = .ref s.heap.objs.size ∧ s₁ = { s with heap := s.heap.push o0 }) ⟨rfl, rfl⟩) fun r s₁ hr => ?_
  match r, hr with
  | .error e, hr => exact hr
  | .ok .next, hr => exact hr.elim
  | .ok .brk, hr => exact hr.elim
  | .ok .cont, hr => exact hr.elim
  | .ok (.ret obj), hr =>
    obtain ⟨rfl, rfl⟩ := hr
    have hS : (s.heap.push o0).get? s.heap.objs.size = some o0 := Heap.get?_push_size _ rfl
    have hT : Shared.TypeIs { s with heap := s.heap.push o0 } (.ref s.heap.objs.size) "set" := ⟨_, hS, rfl⟩
    have hli := F.called_set.init.lookup; have hbi := F.called_set.init.bind (.ref s.heap.objs.size); repeat (any_goals (first | assumption | wp_step))
    refine codeAny_mono (codeAny_call_builtin (R := wants (fun r s₂ => r = .none ∧ ∃ h' tk ys, s₂ = { s with heap := h', toks := tk } ∧ TxSet w h' s.heap.objs.size ys ∧ ys.length = xs.length ∧ (∀ k, k ∈ ys ↔ k ∈ xs) ∧ (∀ b o, s.heap.get? b = some o → h'.get? b = some o)) E) F.called_set.init.plain F.entry_set_init (check_set_init_1 hT ?_)) fun r₂ s₂ hr₂ => ?_
    · obtain ⟨⟨ocls, odict, odata, oslots⟩, hol, hcl, nl, hdl⟩ := hl
      simp only at hcl hdl
      subst hcl; subst hdl
      have hol' : (s.heap.push o0).get? l = some { cls := .type "list", dict := odict, data := .seq items nl, slots := oslots } := Heap.get?_push_of_some _ hol
      have hsls := F.sub_list_set; have hslf := F.sub_list_frozenset; have hne : (Value.type "list" == Value.type "dict") = false := by decide
      have hl1 : (s.heap.push o0).IsList l items := ⟨_, hol', rfl, nl, rfl⟩; unfold Builtin.«set.__init__» noKeywords Builtin.Frozenset.updateFrom
      generalize hPI : pyIter = PI
      wp_walk
      subst hPI
      refine wpAny_pyIter_list hl1 (wpAny_bind (wpAny_runValue ?_)); have hlS : l < s.heap.objs.size := Heap.lt_size hol
      have hz : (s.heap.push o0).objs.size = s.heap.objs.size + 1 := Heap.size_push ..
      have hneI : l ≠ (s.heap.push o0).objs.size := by rw [hz]; exact Nat.ne_of_lt (Nat.lt_succ_of_lt hlS)
      have hSf : s.heap.objs.size ∉ [(s.heap.push o0).objs.size, l] := by rw [hz]; simp only [List.mem_cons, List.not_mem_nil, or_false, not_or]; exact ⟨Nat.ne_of_lt (Nat.lt_succ_self _), Nat.ne_of_gt hlS⟩
      refine tx_loop ((Walks.list (by simp [hh]) _ l hneI items).toS) s.heap.objs.size hSf xs hsz hb (fun i v hv => ?_) (items.size - 0) 0 _ (by omega) (Nat.zero_le _) ⟨⟨_, Heap.get?_push_size _ rfl, rfl, rfl⟩, (hl1.push _)⟩ ⟨[], rfl, fun k => by simp, tx_start (Heap.get?_push_of_some _ hS)⟩ ?_
      · obtain ⟨y, t, e1, e2⟩ := StrsAre.item hit i v (by rw [Array.getElem?_toList]; exact hv)
        exact ⟨y, t, e2, e1⟩
      · intro s' ys hm hl2 hk2 S2; obtain ⟨h', g2, d', tk', os'⟩ := s'
        obtain rfl : g2 = s.gens := hm.gens
        obtain rfl : d' = s.drawn := hm.drawn
        obtain rfl : os' = s.os := hm.os
        show wpAny _ _ _ _ _ _
        refine wpAny_pure ?_; show wpAny _ _ (ret Value.none) _ _ _
        refine wpAny_pure ⟨rfl, h', tk', ys, rfl, S2, hl2.trans hsz, hk2, fun b o e => ?_⟩; have hb0 : b < s.heap.objs.size := Heap.lt_size e
        refine hm.heap b o ?_ (Heap.get?_push_of_some _ (Heap.get?_push_of_some _ e))
        rw [hz]; simp only [List.mem_cons, List.not_mem_nil, or_false, not_or]; exact ⟨Nat.ne_of_lt hb0, Nat.ne_of_lt (Nat.lt_succ_of_lt hb0)⟩
    · match r₂, hr₂ with
      | .error e, hr₂ => exact hr₂
      | .ok .next, hr₂ => exact hr₂.elim
      | .ok .brk, hr₂ => exact hr₂.elim
      | .ok .cont, hr₂ => exact hr₂.elim
      | .ok (.ret r), hr₂ =>
        obtain ⟨rfl, h', tk, ys, rfl, S2, hl2, hk2, hk'⟩ := hr₂; repeat (any_goals (first | assumption | wp_step))
        exact h _ _ _ S2 hl2 hk2 hk'
end
end Gd
namespace Gd
open PySem PySem.Spec PyProof.Rows L2
section
variable {P : Program} {w : World} {A : Around} {E : Value → Shared → Prop} {s : Shared} {a : Addr} {l : List Str}
theorem tx_sorted {Q : Value → Shared → Prop} (R : TxSet w s.heap a l) (hh : A.handled = none) (h64 : l.length < 64)
    (hQ : ∀ s' p (out : Array Value) (c : Nat) (ns : List Str), (∀ b o, s.heap.get? b = some o → s'.heap.get? b = some o) → s'.gens = s.gens → s'.os = s.os → s.heap.objs.size ≤ p →
      s'.heap.get? p = some (seqObj "list" out c) → StrsAre out.toList ns → ns.Nodup → (∀ k, k ∈ ns ↔ k ∈ l) → sortedS ns = true → Q (.ref p) s') :
    wpAny (model P w) A (call (.builtin "sorted") [Value.ref a]) Q E s := by
  obtain ⟨o, es, ep, t, ho, hd, T⟩ := R
  refine Calls.call_function_entry kind_sorted plain_sorted entry_sorted (args_sorted1 _) ?_; unfold Builtin.«sorted»; refine wpAny_bind (m := checkCount "sorted" 1 1 _) (wpAny_pure ?_)
  have hb : es.size < scanBound := by have := T.sz; unfold scanBound; omega
  refine wpAny_bind (collect_set (A := A.in1) hh ⟨o, ho, T.ex.1, hd⟩ T.ft hb T.ri T.ld fun s1 vs k1 hz g1 o1 pm => ?_)
  have hvl : vs.length < 64 := by
    have e : vs.length = es.size := by rw [pm.length_eq, List.length_map, Array.length_toList]
    have := T.sz; omega
  have kk : ∀ e ∈ es.toList, PyProof.Rows.strOf e.2 = keyT e := fun e he => by
    obtain ⟨k, tk, h1, _⟩ := T.el e he
    unfold keyT; rw [h1] <;> rfl
  have hI : StrsAre vs (vs.map PyProof.Rows.strOf) := strsAre_map vs fun v hv => by
    obtain ⟨e, he, q⟩ := List.mem_map.1 (pm.mem_iff.1 hv)
    obtain ⟨k, tk, h1, _⟩ := T.el e he; exact ⟨k, tk, by rw [← q]; exact h1⟩
  have pk : (vs.map PyProof.Rows.strOf).Perm (es.toList.map keyT) := by
    have q := pm.map PyProof.Rows.strOf
    rw [List.map_map] at q
    have e : es.toList.map (PyProof.Rows.strOf ∘ fun x => x.2) = es.toList.map keyT := List.map_congr_left fun e he => kk e he
    rw [← e]; exact q
  refine wpAny_bind (wpAny_newList ?_ (by rw [sizeLine_eq]; omega)); have hoL : (s1.heap.push (seqObj "list" vs.toArray 0)).get? s1.heap.objs.size = some (seqObj "list" vs.toArray 0) := Heap.get?_push_size _ rfl
  refine wpAny_bind (wpAny_holding (wpAny_call_entry slot_list_sort ⟨_, hoL, rfl⟩ entry_list_sort (list_sort_treeK PyProof.Rows.strKind_oneLt hoL hI.keysOf (fun v₁ v₂ rest e => keyKind_strs (by rw [← e]; exact hI)) hvl fun st' a1 a2 => ⟨_, rfl, ?_⟩) (args_list_sort _)))
  obtain ⟨ns, b1, b2, b3⟩ := sorted_out_str hI a1 a2
  obtain ⟨c, hc⟩ := sortedHeap_at (vs := vs) (out := (arrOf st').map (·.2)) hoL
  have pn := b2.trans pk
  refine wpAny_pure ⟨_, rfl, hQ _ s1.heap.objs.size _ c ns (fun b u e => ?_) g1 o1 hz hc b1 (pn.nodup_iff.mpr T.nd) (fun k => pn.mem_iff.trans (T.me k)) b3⟩
  have q := k1 b u e
  have hlt := Heap.lt_size q
  show (sortedHeap (s1.heap.push (seqObj "list" vs.toArray 0)) s1.heap.objs.size vs _).get? b = some u
  rw [sortedHeap_old (Nat.ne_of_lt hlt) (by rw [size_push']; exact Nat.lt_succ_of_lt hlt)]; exact Heap.get?_push_of_some _ q
end
section
variable {X : Cx}
def TxO (w : World) (a : Addr) (l : List Str) : HO := .ext fun h => TxSet w h a l
theorem txO_new {w : World} {P : Program} {H : Hp} {h : Heap} {a : Addr} {l : List Str} (R : TxSet w h a l) : ObjOk P w H h a (TxO w a l) := by
  have ⟨o, _, _, _, ho, _⟩ := R
  exact ⟨R, ⟨o, ho⟩, fun h1 h2 p k => TxSet.at p k⟩
def rSetT (X : Cx) : List V → Hp → VK → Prop := fun vs H Q => ∃ (a : Addr) (xs : List Str), vs = [V.ref a] ∧ SqL X.K H a (xs.map V.str) ∧ xs.length < 64 ∧
  ∀ (ys : List Str) (p : Addr), ys.length = xs.length → (∀ k, k ∈ ys ↔ k ∈ xs) → H p = none → Q (.ref p) (upd H p (TxO X.w p ys))
theorem cr_setT (hc : X.calm = true) : CallR X (.type "set") (rSetT X) := by
  intro pins s σ H vs us Q I r h; obtain ⟨a, xs, rfl, hs, h64, q⟩ := h
  rw [Vals.ref1 r]; obtain ⟨its, rv, pl, hz⟩ := I.list hs
  refine tx_call xs (I.ok.hd hc) pl.isList (by simpa using strsAre_of rv) (by unfold scanBound; omega) fun h' tk ys T e1 e2 k => ?_
  exact ⟨.ref _, _, I.laid (t' := tk) (fun b u e => k b u e) (Nat.le_refl _) (txO_new T), rfl, q ys _ e1 e2 (I.hok.fresh (Nat.le_refl _))⟩
def rSortedT (X : Cx) : List V → Hp → VK → Prop := fun vs H Q => ∃ (a : Addr) (l : List Str), vs = [V.ref a] ∧ H a = some (TxO X.w a l) ∧ l.length < 64 ∧
  ∀ (ns : List Str) (p : Addr), ns.Nodup → (∀ k, k ∈ ns ↔ k ∈ l) → sortedS ns = true → H p = none → Q (.ref p) (upd H p (.lst (ns.map V.str)))
theorem vals_strs {vs : List Value} {ns : List Str} (h : StrsAre vs ns) : Vals (ns.map V.str) vs := by
  induction h with
  | nil => exact .nil
  | cons y t _ ih => exact .cons ⟨t, rfl⟩ ih
theorem cr_sortedT' (hc : X.calm = true) : CallR X (.builtin "sorted") (rSortedT X) := by
  intro pins s σ H vs us Q I r hr
  obtain ⟨a, l, rfl, ha, h64, q⟩ := hr
  have R : TxSet X.w s.heap a l := (I.hok a _ ha).1
  rw [Vals.ref1 r]
  refine tx_sorted R (I.ok.hd hc) h64 fun s' p out c ns k g o hp hg hi hd hm hs => ?_
  have hlen : (ns.map V.str).length ≤ sizeLine := by
    have h1 : ns.length ≤ l.length := (List.Nodup.length_le_of_subset hd fun k hk => (hm k).1 hk)
    rw [List.length_map, sizeLine_eq]; omega
  have hn : H p = none := (I.hok).fresh hp
  have J : Inv X pins σ (upd H p (.lst (ns.map V.str))) { s with heap := s'.heap, gens := s'.gens, drawn := s'.drawn, toks := s'.toks } :=
    I.call (ch := []) (Un.laid k hp hn) (I.hok.laid k hp ⟨hlen, out.toList, c, vals_strs hi, hg⟩) (by rw [g]; exact I.bare) (fun _ z => nomatch z)
  have e : s' = { s with heap := s'.heap, gens := s'.gens, drawn := s'.drawn, toks := s'.toks } := by cases s'; cases s; cases o; rfl
  rw [e]
  exact ⟨.ref p, _, J, rfl, q ns p hd hm hs hn⟩
end
end Gd
namespace Gd
open PySem PySem.Spec PyProof.Rows L2
structure Own (K : PySem.W.Frag) (i : Nat) (g : Gh) (A0 A1 : Hp) (a : Addr) (B : Bag) (Γ : List VD) (acc : List PyData) (σ : L2.St) (H0 H : Hp) : Prop where
  to : To g A0 A1 H0 H
  fr : A1 a = none
  off : Off g a
  ev : EnvD K g H0 σ Γ
  at' : σ[i]? = some (some (.ref a))
  no : H0 a = none
  ls : ∃ zs, H a = some (.lst zs) ∧ RpAll K H0 zs acc
  on : On K g B H0 H
theorem Own.freeze {K : PySem.W.Frag} {i : Nat} {g : Gh} {A0 A1 : Hp} {a : Addr} {B : Bag} {Γ : List VD} {acc : List PyData} {σ : L2.St} {H0 H : Hp} (O : Own K i g A0 A1 a B Γ acc σ H0 H) :
    ∃ H1, To g A0 A1 H1 H ∧ EnvD K g H1 σ (Γ.set i (.da (.list acc))) ∧ On K g B H1 H := by
  obtain ⟨zs, hz, rz⟩ := O.ls
  have sm : Same H0 (upd H0 a (.lst zs)) := fun b o e => by
    rw [upd_ne fun z : b = a => by rw [z, O.no] at e; cases e]; exact e
  refine ⟨upd H0 a (.lst zs), ⟨O.to.ex.trans sm, fun b o f h1 h2 => ?_⟩, ?_, ⟨fun b o e => ?_, fun b l e => ?_⟩⟩
  · have hb : b ≠ a := fun z => by rw [z, O.fr] at h2; cases h2
    obtain ⟨p, q⟩ := O.to.un b o f h1 h2
    exact ⟨by rw [upd_ne hb]; exact p, q⟩
  · have e := (O.ev.mono sm).set (v := .ref a) (d := .da (.list acc)) i (Rp.lst upd_same (rz.mono sm))
    have es : σ.set i (some (.ref a)) = σ := by
      apply List.ext_getElem?
      intro j
      by_cases hj : i = j
      · subst hj
        rw [List.getElem?_set_self (List.getElem?_eq_some_iff.mp O.at').1, O.at']
      · rw [List.getElem?_set_ne hj]
    rw [es] at e; exact e
  · by_cases hb : b = a
    · subst hb; rw [upd_same] at e; rw [hz]; exact e
    · rw [upd_ne hb] at e; exact O.on.ex b o e
  · obtain ⟨p, q, r⟩ := O.on.bag b l e
    have hb : b ≠ a := fun z => O.off l (z ▸ e)
    have hl : l ≠ a := fun z => by rw [z, O.no] at r; cases r
    exact ⟨by rw [upd_ne hb]; exact p, q, by rw [upd_ne hl]; exact r⟩
structure EnO where
  nx : List VD → Bag → List PyData → Prop
  fx : List VD → Bag → Prop
  rt : PyData → Bag → Prop
  bk : List VD → Bag → List PyData → Prop := fun _ _ _ => False
  ct : List VD → Bag → List PyData → Prop := fun _ _ _ => False
  ro : List PyData → Bag → Prop := fun _ _ => False
  fc : List VD → Bag → Prop := fun _ _ => False
structure GetsO (X : Cx) (i : Nat) (E : EnO) (g : Gh) (A0 A1 : Hp) (a : Addr) (S : Hp) (D : Ends) : Prop where
  nx : ∀ Γ B acc σ H0 H, E.nx Γ B acc → Own X.K i g A0 A1 a B Γ acc σ H0 H → Same S H0 → D.nx σ H
  fx : ∀ Γ B σ H0 H, E.fx Γ B → To g A0 A1 H0 H → EnvD X.K g H0 σ Γ → On X.K g B H0 H → D.nx σ H
  rt : ∀ r B v H0 H, E.rt r B → To g A0 A1 H0 H → On X.K g B H0 H → Rp X.K H0 v r → D.rt v H
  bk : ∀ Γ B acc σ H0 H, E.bk Γ B acc → Own X.K i g A0 A1 a B Γ acc σ H0 H → Same S H0 → D.bk σ H
  ct : ∀ Γ B acc σ H0 H, E.ct Γ B acc → Own X.K i g A0 A1 a B Γ acc σ H0 H → Same S H0 → D.ct σ H
  ro : ∀ Γ B acc σ H0 H, E.ro acc B → Own X.K i g A0 A1 a B Γ acc σ H0 H → Same S H0 → D.rt (.ref a) H
  fc : ∀ Γ B σ H0 H, E.fc Γ B → To g A0 A1 H0 H → EnvD X.K g H0 σ Γ → On X.K g B H0 H → D.ct σ H
theorem GetsO.on {X : Cx} {i : Nat} {E : EnO} {g : Gh} {A0 A1 : Hp} {a : Addr} {S S' : Hp} {D : Ends} (G : GetsO X i E g A0 A1 a S D) (e : Same S S') : GetsO X i E g A0 A1 a S' D :=
  ⟨fun Γ B acc σ H0 H q w m => G.nx Γ B acc σ H0 H q w (e.trans m), G.fx, G.rt, fun Γ B acc σ H0 H q w m => G.bk Γ B acc σ H0 H q w (e.trans m), fun Γ B acc σ H0 H q w m => G.ct Γ B acc σ H0 H q w (e.trans m), fun Γ B acc σ H0 H q w m => G.ro Γ B acc σ H0 H q w (e.trans m), G.fc⟩
def OwJ (X : Cx) (i : Nat) (Γ : List VD) (B : Bag) (acc : List PyData) (ss : List Stmt) (E : EnO) : Prop :=
  ∀ g σ A0 A1 a H0 H, Own X.K i g A0 A1 a B Γ acc σ H0 H → ∀ D : Ends, GetsO X i E g A0 A1 a H0 D → WS X ss D σ H
def FJ (X : Cx) (Γ : List VD) (B : Bag) (e : Expr) (ds : List PyData) (B' : Bag) : Prop :=
  ∀ g σ H0 H, EnvD X.K g H0 σ Γ → On X.K g B H0 H → ∀ Q : VK,
    (∀ a zs H0' H', To g H0 H H0' H' → On X.K g B' H0' H' → RpAll X.K H0' zs ds → H' a = none → Q (.ref a) (upd H' a (.lst zs))) → WE X e σ H Q
section
variable {X : Cx} {i : Nat} {Γ : List VD} {B B1 B2 B' : Bag} {acc ds : List PyData} {e a b c : Expr} {es : List Expr} {d da db : VD} {y : PyData} {pos p p1 p2 p3 pos' : Pos} {rest ss s1 s2 : List Stmt} {E : EnO}
theorem fj_lst (h : AJ X Γ B es (ds.map .da) B1) (hl : ds.length ≤ 1000) : FJ X Γ B (.List es pos) ds B1 := fun g σ H0 H E O Q q =>
  ⟨_, pe_lst (wa es), h g σ H0 H E O _ fun vs H1 H' t o rs => by
    have rs := RvAll.dat rs
    exact ⟨by rw [rs.length]; exact Nat.le_of_lt (small1000 hl), fun p n => q p vs H1 H' t o rs n⟩⟩
theorem fj_lstD (h : AD X Γ B es ds B1) (hl : ds.length ≤ 1000 := by decide) : FJ X Γ B (.List es pos) ds B1 := fj_lst h hl
theorem fj_rep {n : Nat} (ha : EJ X Γ B a (.da (.list ds)) B1) (hb : EJ X Γ B1 b (.da (.int n)) B2) (hn : n ≤ 100) (hl : ds.length ≤ 1000) : FJ X Γ B (.BinOp a .Mult b pos) (List.replicate n ds).flatten B2 := fun g σ H0 H Ev O Q q =>
  ⟨_, pe_op op_rep (we a) (we b), ha g σ H0 H Ev O _ fun v H1 H' t o r1 => hb g σ H1 H' (Ev.mono t.ex) o _ fun w H2 H'' t2 o2 r2 => by
    obtain ⟨p, xs, rfl, hx, rs⟩ := rvL r1
    refine ⟨p, (n : Int), xs, rfl, rvI r2, o2.ex _ _ (t2.ex _ _ hx), by omega, by omega, ?_, fun m hm => ?_⟩
    · rw [Int.toNat_natCast, rs.length]
      exact Nat.le_trans (Nat.mul_le_mul hl hn) (by decide)
    · rw [Int.toNat_natCast]
      exact q m _ H2 H'' (t.trans t2) o2 ((rs.mono t2.ex).rep n) hm⟩
theorem sj_own {x : Str} {Es : En} (i : Nat) (nd : X.N.Nodup) (h : FJ X Γ B e ds B1) (hΓ : i < Γ.length)
    (k : OwJ X i (Γ.set i .no) B1 ds rest { nx := fun Γ' B' acc => Es.nx (Γ'.set i (.da (.list acc))) B', fx := Es.nx, rt := Es.rt, bk := fun Γ' B' acc => Es.bk (Γ'.set i (.da (.list acc))) B', ct := fun Γ' B' acc => Es.ct (Γ'.set i (.da (.list acc))) B' })
    (hi : X.N[i]? = some x := by rfl) (hx : Loc X.env.scope x := by first | exact Or.inl rfl | exact Or.inr rfl) (hs : swapsWith e (some (.Name x pos')) pos.line X.env = pure false := by rfl)
    (hf : X.fn x = true ∨ X.env.scope.names.lookup x = some .local := by first | exact Or.inl rfl | exact Or.inr rfl) : SJ X Γ B (.Assign [.Name x pos'] e pos :: rest) Es := fun g σ H0 H Ev O D G =>
  ⟨_, pss_cons (ps_set nd hi hx (we e) hs hf) (ws rest), h g σ H0 H Ev O _ fun a zs H1 H' t o r n => by
    have n1 : H1 a = none := o.ex.free n
    have off : Off g a := fun l z => by
      obtain ⟨_, q, _⟩ := o.bag a l z
      rw [n] at q; cases q
    have on : On X.K g B1 H1 (upd H' a (.lst zs)) := ⟨fun b u q => by
      rw [upd_ne (ne_of_none q n1)]; exact o.ex b u q, fun b l q => by
      obtain ⟨p1, p2, p3⟩ := o.bag b l q
      exact ⟨p1, by rw [upd_ne (ne_of_none p2 n)]; exact p2, p3⟩⟩
    have hi' : i < σ.length := by rw [Ev.len]; exact hΓ
    have ev : EnvD X.K g H1 (σ.set i (some (.ref a))) (Γ.set i .no) := (Ev.mono t.ex).set i (show Rv X.K g H1 (.ref a) .no from trivial)
    refine k g _ H1 H' a H1 _ ⟨⟨Same.refl _, fun b u f h1 h2 => ⟨h1, by rw [upd_ne (ne_of_none h2 n)]; exact h2⟩⟩, n, off, ev, List.getElem?_set_self hi', n1, ⟨zs, upd_same, r⟩, on⟩ D ⟨?_, ?_, ?_, ?_, ?_, ?_, ?_⟩
    · intro Γ' B' acc σ' H2 H2' q w _
      obtain ⟨H3, t3, e3, o3⟩ := w.freeze
      exact G.nx _ _ _ _ _ q (t.trans t3) e3 o3
    · intro Γ' B' σ' H2 H2' q t2 e2 o2
      exact G.nx _ _ _ _ _ q (t.trans t2) e2 o2
    · intro r B' v H2 H2' q t2 o2 rv
      exact G.rt _ _ _ _ _ q (t.trans t2) o2 rv
    · intro Γ' B' acc σ' H2 H2' q w _
      obtain ⟨H3, t3, e3, o3⟩ := w.freeze
      exact G.bk _ _ _ _ _ q (t.trans t3) e3 o3
    · intro Γ' B' acc σ' H2 H2' q w _
      obtain ⟨H3, t3, e3, o3⟩ := w.freeze
      exact G.ct _ _ _ _ _ q (t.trans t3) e3 o3
    · intro _ _ _ _ _ _ q; exact q.elim
    · intro _ _ _ _ _ q; exact q.elim⟩
theorem ow_end (h : SJ X (Γ.set i (.da (.list acc))) B ss { nx := E.fx, rt := E.rt, ct := E.fc }) : OwJ X i Γ B acc ss E := fun g σ A0 A1 a H0 H w D G => by
  obtain ⟨H1, t, ev, o⟩ := w.freeze
  exact h g σ H1 H ev o D ⟨fun Γ' B' σ' H2 H2' q t2 e2 o2 => G.fx _ _ _ _ _ q (t.trans t2) e2 o2, fun r B' v H2 H2' q t2 o2 rv => G.rt _ _ _ _ _ q (t.trans t2) o2 rv, fun _ _ _ _ _ q => q.elim, fun Γ' B' σ' H2 H2' q t2 e2 o2 => G.fc _ _ _ _ _ q (t.trans t2) e2 o2⟩
theorem ow_nil (h : E.nx Γ B acc) : OwJ X i Γ B acc [] E := fun g σ A0 A1 a H0 H w D G => ⟨_, pss_nil, G.nx _ _ _ _ _ _ h w (Same.refl _)⟩
theorem Own.step {K : PySem.W.Frag} {g : Gh} {A0 A1 : Hp} {a : Addr} {σ : L2.St} {H0 H H0' H' : Hp} (w : Own K i g A0 A1 a B Γ acc σ H0 H) (t : To g H0 H H0' H') (o : On K g B1 H0' H') : Own K i g A0 A1 a B1 Γ acc σ H0' H' := by
  obtain ⟨zs, hz, rz⟩ := w.ls
  obtain ⟨p, q⟩ := t.un a _ w.off w.no hz
  exact ⟨w.to.trans t, w.fr, w.off, w.ev.mono t.ex, w.at', p, ⟨zs, q, rz.mono t.ex⟩, o⟩
theorem ow_set {x : Str} (j : Nat) (nd : X.N.Nodup) (hij : j ≠ i) (h : EJ X Γ B e d B1) (k : OwJ X i (Γ.set j d) B1 acc rest E) (hi : X.N[j]? = some x := by rfl)
    (hx : Loc X.env.scope x := by first | exact Or.inl rfl | exact Or.inr rfl) (hs : swapsWith e (some (.Name x pos')) pos.line X.env = pure false := by rfl)
    (hf : X.fn x = true ∨ X.env.scope.names.lookup x = some .local := by first | exact Or.inl rfl | exact Or.inr rfl) : OwJ X i Γ B acc (.Assign [.Name x pos'] e pos :: rest) E := fun g σ A0 A1 a H0 H w D G =>
  ⟨_, pss_cons (ps_set nd hi hx (we e) hs hf) (ws rest), h g σ H0 H w.ev w.on _ fun v H1 H' t o r => by
    have w2 := w.step t o
    exact k g _ A0 A1 a H1 H' ⟨w2.to, w2.fr, w2.off, w2.ev.set j r, by rw [List.getElem?_set_ne hij]; exact w2.at', w2.no, w2.ls, w2.on⟩ D (G.on t.ex)⟩
theorem ow_app {x : Str} (nd : X.N.Nodup) (h : EJ X Γ B e (.da y) B1) (hl : acc.length < 1000) (k : OwJ X i Γ B1 (acc ++ [y]) rest E) (hi : X.N[i]? = some x := by rfl)
    (hv : Vis X.env.scope x := by first | exact Or.inl rfl | exact Or.inr (Or.inl rfl) | exact Or.inr (Or.inr rfl))
    (h1 : (x == ("__debug__" : Str)) = false := by decide) (h2 : (x == ("__classdict__" : Str)) = false := by decide)
    (hbase : attributeBase (.Name x p1) "append" X.env (eval (.Name x p1) X.env) = eval (.Name x p1) X.env := by rfl)
    (hfew : ((backTo p3 (starEach [e] X.env)).all (fun x => !x.1) && (backToKw p3 (keywordEach [] X.env)).all (fun x => x.1.isSome)
      && decide ([e].length + ([] : List Keyword).length + (if ([] : List Keyword).isEmpty then 0 else 1) < 30)) = true := by rfl)
    (hline : (p2.endLine == p3.line) = true := by rfl) (hst : starEach [e] X.env = [(false, eval e X.env)] := by rfl)
    (hs : swapsWith (.Call (.Attribute (.Name x p1) "append" p2) [e] [] p3) none pos.line X.env = pure false := by rfl) :
    OwJ X i Γ B acc (.Expr (.Call (.Attribute (.Name x p1) "append" p2) [e] [] p3) pos :: rest) E := fun g σ A0 A1 a H0 H w D G =>
  ⟨_, pss_cons (ps_expr (pe_bm PySem.F.plainAttrs_list PySem.F.slot_list_append PySem.F.type_list_append mt_append (pe_var hi hv h1 h2) (wa [e]) hbase hfew hline hst rfl) hs) (ws rest), by
    obtain ⟨zs, hz, rz⟩ := w.ls
    refine ⟨_, w.at', .inl ⟨rfl, _, SqL.of hz⟩, ?_⟩
    refine (aj_cons (ds := []) h aj_nil hst) g σ H0 H w.ev w.on _ fun vs H1 H' t o rs => ?_
    obtain ⟨v, rfl, rv⟩ := rv1 rs
    have w2 := w.step t o
    obtain ⟨zs2, hz2, rz2⟩ := w2.ls
    refine ⟨a, zs2, v, rfl, rfl, hz2, by rw [rz2.length]; exact small1000 (Nat.le_of_lt hl), ?_⟩
    refine k g σ A0 A1 a H1 _ ⟨⟨w2.to.ex, fun b u f q1 q2 => ?_⟩, w2.fr, w2.off, w2.ev, w2.at', w2.no, ⟨zs2 ++ [v], upd_same, rz2.app (.cons rv .nil)⟩, ⟨fun b u q => ?_, fun b l q => ?_⟩⟩ D (G.on t.ex)
    · obtain ⟨p, q⟩ := w2.to.un b u f q1 q2
      exact ⟨p, by rw [upd_ne (ne_of_none q2 w2.fr)]; exact q⟩
    · rw [upd_ne (ne_of_none q w2.no)]; exact w2.on.ex b u q
    · obtain ⟨p1, p2, p3⟩ := w2.on.bag b l q
      exact ⟨p1, by rw [upd_ne fun z : b = a => w2.off l (z ▸ q)]; exact p2, p3⟩⟩
theorem ow_while (P : List VD → Bag → List PyData → Prop) (μ : List VD → Bag → List PyData → Nat) (h0 : P Γ B acc)
    (hs : ∀ Γ B acc, P Γ B acc → ∃ x, TJ X Γ B c x B ∧
      (x = true → OwJ X i Γ B acc s1 { nx := fun Γ' B' acc' => P Γ' B' acc' ∧ μ Γ' B' acc' < μ Γ B acc, fx := fun _ _ => False, ct := fun Γ' B' acc' => P Γ' B' acc' ∧ μ Γ' B' acc' < μ Γ B acc, rt := E.rt }) ∧
      (x = false → OwJ X i Γ B acc rest E))
    (hp : PassesOwn (model X.prog X.w) X.A X.env X.xe := by exact PassesOwn.never) : OwJ X i Γ B acc (.While c s1 [] pos :: rest) E := fun g σ A0 A1 a H0 H w D G =>
  ⟨_, pss_cons (ps_while hp (wt c) (ws s1)) (ws rest), by
    refine ⟨fun m σ' H' => ∃ Γ' B' acc' H1, P Γ' B' acc' ∧ μ Γ' B' acc' = m ∧ Own X.K i g A0 A1 a B' Γ' acc' σ' H1 H' ∧ Same H0 H1, ⟨_, Γ, B, acc, H0, h0, rfl, w, Same.refl _⟩, ?_⟩
    rintro m σ' H' ⟨Γ', B', acc', H1, hP, rfl, w1, sm⟩
    obtain ⟨x, ht, hb, hd⟩ := hs Γ' B' acc' hP
    refine ht g σ' H1 H' w1.ev w1.on _ fun H2 H'' t2 o2 => ?_
    have w2 := w1.step t2 o2
    cases x with
    | true =>
      refine iteT ⟨fun σ2 H3' => ∃ m', m' < μ Γ' B' acc' ∧ ∃ Γ2 B2 acc2 H3, P Γ2 B2 acc2 ∧ μ Γ2 B2 acc2 = m' ∧ Own X.K i g A0 A1 a B2 Γ2 acc2 σ2 H3 H3' ∧ Same H0 H3, fun _ _ z => z, ?_⟩
      refine hb rfl g σ' A0 A1 a H2 H'' w2 _ ⟨?_, ?_, ?_, ?_, ?_, ?_, ?_⟩
      · rintro Γ3 B3 acc3 σ3 H3 H3' ⟨q1, q2⟩ w3 m3
        exact ⟨_, q2, Γ3, B3, acc3, H3, q1, rfl, w3, (sm.trans t2.ex).trans m3⟩
      · intro _ _ _ _ _ q; exact q.elim
      · intro r B3 v H3 H3' q t3 o3 rv
        exact G.rt r B3 v H3 H3' q t3 o3 rv
      · intro _ _ _ _ _ _ q; exact q.elim
      · rintro Γ3 B3 acc3 σ3 H3 H3' ⟨q1, q2⟩ w3 m3
        exact ⟨_, q2, Γ3, B3, acc3, H3, q1, rfl, w3, (sm.trans t2.ex).trans m3⟩
      · intro _ _ _ _ _ _ q; exact q.elim
      · intro _ _ _ _ _ q; exact q.elim
    | false => exact iteF (hd rfl g σ' A0 A1 a H2 H'' w2 D (G.on (sm.trans t2.ex)))⟩
theorem ow_if {x : Bool} (M : List VD → Bag → List PyData → Prop) (h : TJ X Γ B c x B1) (h1 : x = true → OwJ X i Γ B1 acc s1 { E with nx := M, fx := fun _ _ => False }) (h2 : x = false → OwJ X i Γ B1 acc s2 { E with nx := M, fx := fun _ _ => False })
    (k : ∀ Γ' B' acc', M Γ' B' acc' → OwJ X i Γ' B' acc' rest E) : OwJ X i Γ B acc (.If c s1 s2 pos :: rest) E := fun g σ A0 A1 a H0 H w D G =>
  ⟨_, pss_cons (ps_if (wt c) (ws s1) (ws s2)) (ws rest), h g σ H0 H w.ev w.on _ fun H1 H' t o => by
    have w2 := w.step t o
    have G2 := G.on t.ex
    have G' : GetsO X i { E with nx := M, fx := fun _ _ => False } g A0 A1 a H1 { D with nx := WS X rest D } :=
      ⟨fun Γ2 B2 acc2 σ2 H2 H2' q w3 m => k _ _ _ q g σ2 A0 A1 a H2 H2' w3 D (G2.on m), fun _ _ _ _ _ q => q.elim, G2.rt, G2.bk, G2.ct, G2.ro, G2.fc⟩
    cases x with
    | true => exact iteT (h1 rfl g σ A0 A1 a H1 H' w2 _ G')
    | false => exact iteF (h2 rfl g σ A0 A1 a H1 H' w2 _ G')⟩
end
end Gd
namespace Gd
open PySem PySem.Spec PyProof.Rows L2
section
variable {X : Cx} {Γ : List VD} {B B1 B2 B' : Bag} {e a b c : Expr} {es : List Expr} {d da db dc : VD} {pos p p' pos' : Pos} {rest ss s1 s2 : List Stmt} {E : En}
theorem ej_max {i j : Int} (hc : X.calm = true) (hm : X.mg "max" = none) (ha : EJ X Γ B a (.da (.int i)) B1) (hb : EJ X Γ B1 b (.da (.int j)) B2) (hg : Gl X "max" := by rfl)
    (h1 : starEach [a, b] X.env = (false, eval a X.env) :: starEach [b] X.env := by rfl) (h2 : starEach [b] X.env = (false, eval b X.env) :: starEach [] X.env := by rfl)
    (hpl : (backTo pos (starEach [b] X.env)).any (·.1) = false := by rfl) : EJ X Γ B (.Call (.Name "max" p) [a, b] [] pos) (.da (.int (max i j))) B2 :=
  ej_callB (call_max2 hc) hm (aj_cons ha (aj_cons hb aj_nil h2) h1) (fun g vs H0 H O r Q q => by
    obtain ⟨v, w, rfl, h, h'⟩ := rv2 r
    refine ⟨i, j, by rw [rvI h, rvI h'], ?_⟩
    have e : (if j > i then j else i) = max i j := by split <;> omega
    rw [e]; exact q _ _ _ To.refl O (Rp.int _)) (hg := hg) (hpl := hpl) (he := h1)
theorem ej_min {i j : Int} (hc : X.calm = true) (hm : X.mg "min" = none) (ha : EJ X Γ B a (.da (.int i)) B1) (hb : EJ X Γ B1 b (.da (.int j)) B2) (hg : Gl X "min" := by rfl)
    (h1 : starEach [a, b] X.env = (false, eval a X.env) :: starEach [b] X.env := by rfl) (h2 : starEach [b] X.env = (false, eval b X.env) :: starEach [] X.env := by rfl)
    (hpl : (backTo pos (starEach [b] X.env)).any (·.1) = false := by rfl) : EJ X Γ B (.Call (.Name "min" p) [a, b] [] pos) (.da (.int (min i j))) B2 :=
  ej_callB (call_min2 hc) hm (aj_cons ha (aj_cons hb aj_nil h2) h1) (fun g vs H0 H O r Q q => by
    obtain ⟨v, w, rfl, h, h'⟩ := rv2 r
    refine ⟨i, j, by rw [rvI h, rvI h'], ?_⟩
    have e : (if j < i then j else i) = min i j := by split <;> omega
    rw [e]; exact q _ _ _ To.refl O (Rp.int _)) (hg := hg) (hpl := hpl) (he := h1)
theorem RpAll.bools_of {K : PySem.W.Frag} {H : Hp} : ∀ {xs : List V} {ns : List Bool}, RpAll K H xs (ns.map PyData.bool) → xs = ns.map V.bl
  | [], [], _ => rfl
  | _ :: _, n :: ns, .cons h r => by
    cases h
    rw [RpAll.bools_of r]; rfl
theorem ej_all {bs : List Bool} (hc : X.calm = true) (hm : X.mg "all" = none) (ha : EJ X Γ B a (.da (.list (bs.map .bool))) B1) (hs : starEach [a] X.env = [(false, eval a X.env)] := by rfl) (hg : Gl X "all" := by rfl) :
    EJ X Γ B (.Call (.Name "all" p) [a] [] pos) (.da (.bool (bs.all id))) B1 :=
  ej_callB (cr_all hc) hm (aj_cons ha aj_nil hs) (fun g vs H0 H O r Q q => by
    obtain ⟨v, rfl, h⟩ := rv1 r
    obtain ⟨p, xs, rfl, hx, rs⟩ := rvL h
    rw [RpAll.bools_of rs] at hx
    exact ⟨p, bs, rfl, SqL.of (O.ex _ _ hx), q _ _ _ To.refl O (Rp.bl _)⟩) (hg := hg) (he := hs)
theorem RpAll.strs {K : PySem.W.Frag} {H : Hp} : ∀ ns : List Str, RpAll K H (ns.map V.str) (ns.map PyData.str)
  | [] => .nil
  | n :: ns => .cons (.str n) (RpAll.strs ns)
theorem ej_sortedSet {xs out : List Str} (hc : X.calm = true) (hm : X.mg "sorted" = none) (hm' : X.mg "set" = none) (ha : EJ X Γ B a (.da (.list (xs.map .str))) B1) (hl : xs.length < 64)
    (ho : ∀ ns : List Str, ns.Nodup → (∀ k, k ∈ ns ↔ k ∈ xs) → sortedS ns = true → ns = out)
    (hs : starEach [a] X.env = [(false, eval a X.env)] := by rfl) (hg : Gl X "sorted" := by rfl) (hg' : Gl X "set" := by rfl)
    (hs' : starEach [.Call (.Name "set" p') [a] [] pos'] X.env = [(false, eval (.Call (.Name "set" p') [a] [] pos') X.env)] := by rfl) :
    EJ X Γ B (.Call (.Name "sorted" p) [.Call (.Name "set" p') [a] [] pos'] [] pos) (.da (.list (out.map .str))) B1 := fun g σ H0 H Ev O Q q =>
  ⟨_, pe_callB (cr_sortedT' hc) hg hm (by decide +kernel) (pa_cons (pe_callTy (cr_setT hc) hg' hm' (by decide +kernel) (wa [a]) (by decide) (by decide) hs rfl) pa_nil hs') (by decide) (by decide) hs' rfl,
   (aj_cons (ds := []) ha aj_nil hs) g σ H0 H Ev O _ fun vs H1 H' t o r => by
    obtain ⟨v, rfl, h⟩ := rv1 r
    obtain ⟨l, zs, rfl, hx, rs⟩ := rvL h
    rw [RpAll.strs_of rs] at hx
    refine ⟨l, xs, rfl, SqL.of (o.ex _ _ hx), hl, fun ys m e1 e2 hm1 => ?_⟩
    obtain ⟨t2, o2⟩ := laid (o := TxO X.w m ys) o hm1
    refine ⟨m, ys, rfl, upd_same, by rw [e1]; exact hl, fun ns m2 q1 q2 q3 hm2 => ?_⟩
    obtain ⟨t3, o3⟩ := laid (o := .lst (ns.map V.str)) o2 hm2
    obtain rfl := ho ns q1 (fun k => (q2 k).trans (e2 k)) q3
    exact q _ _ _ ((t.trans t2).trans t3) o3 (Rp.lst upd_same (RpAll.strs _))⟩
theorem sj_forRev (j : Nat) {x : Str} {ds : List PyData} {px pr pc : Pos} (nd : X.N.Nodup) (hc : X.calm = true) (hm : X.mg "reversed" = none) (P : Nat → List VD → Bag → Prop) (hi : EJ X Γ B e (.da (.list ds)) B1) (h0 : P 0 Γ B1)
    (hs : ∀ i y Γ' B', i < ds.length → ds[ds.length - 1 - i]? = some y → P i Γ' B' → SJ X (Γ'.set j (.da y)) B' s1 { nx := P (i + 1), ct := P (i + 1), bk := fun Γ' B' => SJ X Γ' B' rest E, rt := E.rt })
    (hd : ∀ Γ' B', P ds.length Γ' B' → SJ X Γ' B' rest E) (hN : X.N[j]? = some x := by rfl) (hx : Loc X.env.scope x := by first | exact Or.inl rfl | exact Or.inr rfl)
    (hf : X.fn x = true ∨ X.env.scope.names.lookup x = some .local := by first | exact Or.inl rfl | exact Or.inr rfl)
    (hp : PassesOwn (model X.prog X.w) X.A X.env X.xe := by exact PassesOwn.never) (hq : ∀ x, foldedSetIterable (.Call (.Name "reversed" pr) [e] [] pc) X.env x = pure x := by intro _; rfl)
    (hst : starEach [e] X.env = [(false, eval e X.env)] := by rfl) (hg : Gl X "reversed" := by rfl) :
    SJ X Γ B (.For (.Name x px) (.Call (.Name "reversed" pr) [e] [] pc) s1 [] pos :: rest) E := fun g σ H0 H Ev O D G =>
  ⟨_, pss_cons (ps_for hp hc (pi_reversed hg hm (wa [e]) hst) (pg_name nd hN hx hf) (ws s1) hq) (ws rest), (aj_cons (ds := []) hi aj_nil hst) g σ H0 H Ev O _ fun vs H1 H' t o r => by
    obtain ⟨v, rfl, h⟩ := rv1 r
    obtain ⟨l, xs, rfl, hxs, rs⟩ := rvL h
    refine ⟨l, xs, rfl, SqL.of (o.ex _ _ hxs), ?_⟩
    refine RT.for_Itv (xs := xs) (fun i σ' H'' => ∃ Γ' B' H2, P i Γ' B' ∧ To g H1 H' H2 H'' ∧ EnvD X.K g H2 σ' Γ' ∧ On X.K g B' H2 H'') ⟨Γ, B1, H1, h0, To.refl, Ev.mono t.ex, o⟩ ?_ ?_ ?_
    · rintro i σ' H'' ⟨Γ', B', H2, _, t2, _, o2⟩
      exact SqL.of (o2.ex _ _ (t2.ex _ _ hxs))
    · rintro i y σ' H'' hlt hy ⟨Γ', B', H2, hP, t2, e2, o2⟩
      rw [rs.length] at hlt hy
      obtain ⟨d, hdi, rd⟩ := rs.get hy
      refine hs i d Γ' B' hlt hdi hP g _ H2 H'' (e2.set j (Rp.mono t2.ex rd)) o2 _ ⟨?_, ?_, ?_, ?_⟩
      · exact fun Γ3 B3 σ3 H3 H3' q t3 e3 o3 => ⟨Γ3, B3, H3, q, t2.trans t3, e3, o3⟩
      · exact fun r B3 v H3 H3' q t3 o3 rv => (G.on (t.trans t2)).rt r B3 v H3 H3' q t3 o3 rv
      · exact fun Γ3 B3 σ3 H3 H3' q t3 e3 o3 => q g σ3 H3 H3' e3 o3 D (G.on ((t.trans t2).trans t3))
      · exact fun Γ3 B3 σ3 H3 H3' q t3 e3 o3 => ⟨Γ3, B3, H3, q, t2.trans t3, e3, o3⟩
    · rintro σ' H'' ⟨Γ', B', H2, hP, t2, e2, o2⟩
      rw [rs.length] at hP
      exact hd Γ' B' hP g σ' H2 H'' e2 o2 D (G.on (t.trans t2))⟩
theorem sj_forR (j : Nat) {x : Str} {n : Nat} {px pr pc : Pos} (nd : X.N.Nodup) (hc : X.calm = true) (hm : X.mg "range" = none) (P : Nat → List VD → Bag → Prop) (hi : EJ X Γ B e (.da (.int n)) B1) (hn : n ≤ 100000) (h0 : P 0 Γ B1)
    (hs : ∀ i Γ' B', i < n → P i Γ' B' → SJ X (Γ'.set j (.da (.int (i : Nat)))) B' s1 { nx := P (i + 1), ct := P (i + 1), bk := fun Γ' B' => SJ X Γ' B' rest E, rt := E.rt })
    (hd : ∀ Γ' B', P n Γ' B' → SJ X Γ' B' rest E) (hN : X.N[j]? = some x := by rfl) (hx : Loc X.env.scope x := by first | exact Or.inl rfl | exact Or.inr rfl)
    (hf : X.fn x = true ∨ X.env.scope.names.lookup x = some .local := by first | exact Or.inl rfl | exact Or.inr rfl)
    (hp : PassesOwn (model X.prog X.w) X.A X.env X.xe := by exact PassesOwn.never) (hq : ∀ x, foldedSetIterable (.Call (.Name "range" pr) [e] [] pc) X.env x = pure x := by intro _; rfl)
    (hst : starEach [e] X.env = [(false, eval e X.env)] := by rfl) (hg : Gl X "range" := by rfl) :
    SJ X Γ B (.For (.Name x px) (.Call (.Name "range" pr) [e] [] pc) s1 [] pos :: rest) E := fun g σ H0 H Ev O D G =>
  ⟨_, pss_cons (ps_for hp hc (pi_range1 hg hm (wa [e]) hst) (pg_name nd hN hx hf) (ws s1) hq) (ws rest), (aj_cons (ds := []) hi aj_nil hst) g σ H0 H Ev O _ fun vs H1 H' t o r => by
    obtain ⟨v, rfl, h⟩ := rv1 r
    refine ⟨(n : Int), by rw [rvI h], by omega, by omega, ?_⟩
    rw [Int.toNat_natCast]
    refine for_range (lo := 0) (n := n) (fun i σ' H'' => ∃ Γ' B' H2, P i Γ' B' ∧ To g H1 H' H2 H'' ∧ EnvD X.K g H2 σ' Γ' ∧ On X.K g B' H2 H'') ⟨Γ, B1, H1, h0, To.refl, Ev.mono t.ex, o⟩ ?_ ?_
    · rintro i σ' H'' hlt ⟨Γ', B', H2, hP, t2, e2, o2⟩
      rw [Int.zero_add]
      refine hs i Γ' B' hlt hP g _ H2 H'' (e2.set (d := .da (.int (i : Nat))) j (Rp.int _)) o2 _ ⟨?_, ?_, ?_, ?_⟩
      · exact fun Γ3 B3 σ3 H3 H3' q t3 e3 o3 => ⟨Γ3, B3, H3, q, t2.trans t3, e3, o3⟩
      · exact fun r B3 v H3 H3' q t3 o3 rv => (G.on (t.trans t2)).rt r B3 v H3 H3' q t3 o3 rv
      · exact fun Γ3 B3 σ3 H3 H3' q t3 e3 o3 => q g σ3 H3 H3' e3 o3 D (G.on ((t.trans t2).trans t3))
      · exact fun Γ3 B3 σ3 H3 H3' q t3 e3 o3 => ⟨Γ3, B3, H3, q, t2.trans t3, e3, o3⟩
    · rintro σ' H'' ⟨Γ', B', H2, hP, t2, e2, o2⟩
      exact hd Γ' B' hP g σ' H2 H'' e2 o2 D (G.on (t.trans t2))⟩
end
end Gd
namespace Gd
open PySem PySem.Spec PyProof.Rows L2
section
variable {X : Cx} {Γ : List VD} {B B1 B2 B' : Bag} {e a b c : Expr} {es : List Expr} {d da db dc : VD} {pos p p' pos' : Pos} {rest ss s1 s2 : List Stmt} {E : En}
theorem rv3 {K : PySem.W.Frag} {g : Gh} {H0 : Hp} {vs : List V} {d d' d'' : VD} (h : RvAll K g H0 vs [d, d', d'']) : ∃ v v' v'', vs = [v, v', v''] ∧ Rv K g H0 v d ∧ Rv K g H0 v' d' ∧ Rv K g H0 v'' d'' := by
  match vs, h with
  | [v, v', v''], h => exact ⟨v, v', v'', rfl, h.1, h.2.1, h.2.2.1⟩
theorem sj_par3 (i j l : Nat) {x y z : Str} {px py pz pt : Pos} {kt k2 pt2} {d1 d2 d3 : VD} (nd : X.N.Nodup) (hc : X.calm = true) (h : AJ X Γ B [a, b, c] [d1, d2, d3] B1) (k : SJ X (((Γ.set i d1).set j d2).set l d3) B1 rest E)
    (hij : i ≠ j) (hil : i ≠ l) (hjl : j ≠ l) (hw : swappedStores [.Tuple [.Name x px, .Name y py, .Name z pz] kt pt] (.Tuple [a, b, c] k2 pt2) X.env = pure (some [x, y, z])) (hi : X.N[i]? = some x := by rfl) (hj : X.N[j]? = some y := by rfl) (hl : X.N[l]? = some z := by rfl)
    (hx : X.env.scope.names.lookup x = some .local := by rfl) (hy : X.env.scope.names.lookup y = some .local := by rfl) (hz : X.env.scope.names.lookup z = some .local := by rfl)
    (hsw : swapsWithSole [.Tuple [.Name x px, .Name y py, .Name z pz] kt pt] (.Tuple [a, b, c] k2 pt2) pos.line X.env = pure false := by rfl) :
    SJ X Γ B (.Assign [.Tuple [.Name x px, .Name y py, .Name z pz] kt pt] (.Tuple [a, b, c] k2 pt2) pos :: rest) E := fun g σ H0 H Ev O D G =>
  ⟨_, pss_cons (ps_par3 hc nd hi hj hl hij hil hjl hx hy hz (wa [a, b, c]) hw hsw) (ws rest), h g σ H0 H Ev O _ fun vs H1 H' t o r => by
    obtain ⟨u, v, w, rfl, r1, r2, r3⟩ := rv3 r
    exact ⟨u, v, w, rfl, k g _ H1 H' ((((Ev.mono t.ex).set i r1).set j r2).set l r3) o D (G.on t)⟩⟩
theorem shaped_ii (a b : Int) : SeqAt.shaped (.tuple [.int a, .int b]) = true := by
  unfold SeqAt.shaped
  have h1 : (PyData.tuple [.int a, .int b]).canLay0 = true := by simp only [PyData.canLay0, PyData.canLayAll0, Bool.and_self]
  rw [h1]; rfl
theorem eqv_ii (a b c d : Int) : PyData.eqv (.tuple [.int a, .int b]) (.tuple [.int c, .int d]) = (decide (a = c) && decide (b = d)) := by
  simp only [PyData.eqv, PyData.eqvAll, Bool.and_true]
  rw [← eqv_int, ← eqv_int]
  simp only [PyData.eqv]
end
end Gd
namespace Gd
open PySem PySem.Spec PyProof.Rows L2
section
variable {X : Cx} {Γ : List VD} {B B1 B2 B' : Bag} {a b : Expr} {pos : Pos}
theorem ej_inT {x : Str} {ss : List Str} (ha : EJ X Γ B a (.da (.str x)) B1) (hb : EJ X Γ B1 b (.da (.tuple (ss.map .str))) B2) (hm : behindInMarks .In b = false := by rfl) :
    EJ X Γ B (.Compare a [.In] [b] pos) (.da (.bool (ss.any fun s => decide (s = x)))) B2 :=
  ej_bin ha hb (fun _ _ h1 h2 => pe_cmpR op_in_seq h1 h2 hm) fun g v w H0 H O r1 r2 Q q => by
    obtain ⟨p, xs, rfl, hx, rs⟩ := rvT r2
    rw [rvS r1]
    have e := rs.strs_of
    subst e
    refine ⟨p, _, rfl, .inr (seqT O.ex hx), rfl, ?_, ?_⟩
    · rw [List.all_map]; exact List.all_eq_true.mpr fun _ _ => rfl
    · rw [if_neg (by decide), inV_strs]; exact q _ _ _ To.refl O (Rp.bl _)
theorem tj_eqB {i j : Bool} (hu : X.A.units + 64 < cLine) (ha : EJ X Γ B a (.da (.bool i)) B1) (hb : EJ X Γ B1 b (.da (.bool j)) B2) : TJ X Γ B (.Compare a [.Eq] [b] pos) (decide (i = j)) B2 := by
  have h := tj_eq (pos := pos) hu ha hb rfl rfl
  have e : PyData.eqv (.bool i) (.bool j) = decide (i = j) := by simp only [PyData.eqv]; cases i <;> cases j <;> rfl
  rw [e] at h; exact h
end
end Gd
namespace Gd
open PySem PySem.Spec PyProof.Rows L2
theorem Cal.name {P : Program} {w : World} {K : PySem.W.Frag} {mg : Str → Option Value} {base : Heap} {x y : Str} {k : Nat} {R : Rel} {mg' : Str → Option Value} (e : mg x = mg y) (c : Cal P w K mg base x k R) : Cal P w K mg base y k R := by
  obtain ⟨f, fd, ps, F, hm, h⟩ := c
  exact ⟨f, fd, ps, F, e ▸ hm, h⟩
end Gd
namespace Lw
open PySem PySem.Spec PyProof.Rows L2 Gd Fr
open scoped Rat
structure Qz (n d : Nat) (q : Rat) : Prop where
  nu : Bd n q.num
  de : Bd d (q.den : Int)
theorem Qz.le {n d n' d' : Nat} {q : Rat} (h : Qz n d q) (e : n ≤ n') (f : d ≤ d') : Qz n' d' q := ⟨h.nu.le e, h.de.le f⟩
theorem bd_sum {a n : Nat} {i j : Int} (h : Bd a i) (k : Bd n j) (N : Nat) (h1 : a < N) (h2 : n < N) : Bd N (i + j) := by
  have := Int.natAbs_add_le i j
  have e1 : 2 ^ a ≤ 2 ^ (N - 1) := Nat.pow_le_pow_right (by decide) (by omega)
  have e2 : 2 ^ n ≤ 2 ^ (N - 1) := Nat.pow_le_pow_right (by decide) (by omega)
  have e3 : 2 ^ N = 2 ^ (N - 1) * 2 := by rw [← Nat.pow_succ]; congr 1; omega
  unfold Bd at *
  omega
theorem Qz.add {n d m c : Nat} {x y : Rat} (h : Qz n d x) (k : Qz m c y) (N : Nat) (h1 : n + c < N) (h2 : m + d < N) : Qz N (d + c) (x + y) := by
  rw [← add_div]
  have hne : (x.den : Int) * (y.den : Int) ≠ 0 := Int.mul_ne_zero (den_ne x) (den_ne y)
  have hb := bd_sum (h.nu.mul k.de) (k.nu.mul h.de) N h1 h2
  exact ⟨(divInt_bd hne hb (h.de.mul k.de)).1, (divInt_bd hne hb (h.de.mul k.de)).2⟩
theorem Qz.neg {n d : Nat} {x : Rat} (h : Qz n d x) : Qz n d (-x) := ⟨by rw [Rat.neg_num]; exact h.nu.neg, by rw [Rat.neg_den]; exact h.de⟩
theorem Qz.sub {n d m c : Nat} {x y : Rat} (h : Qz n d x) (k : Qz m c y) (N : Nat) (h1 : n + c < N) (h2 : m + d < N) : Qz N (d + c) (x - y) := by
  rw [Rat.sub_eq_add_neg]; exact h.add k.neg N h1 h2
theorem Qz.mul {n d m c : Nat} {x y : Rat} (h : Qz n d x) (k : Qz m c y) : Qz (n + m) (d + c) (x * y) := by
  rw [← mul_div]
  have hne : (x.den : Int) * (y.den : Int) ≠ 0 := Int.mul_ne_zero (den_ne x) (den_ne y)
  exact ⟨(divInt_bd hne (h.nu.mul k.nu) (h.de.mul k.de)).1, (divInt_bd hne (h.nu.mul k.nu) (h.de.mul k.de)).2⟩
theorem cmz {n m : Nat} {i j : Int} (h : Bd n i) (k : Bd m j) (e : n ≤ 100000 := by omega) (e' : m ≤ 100000 := by omega) : CMulW i j := cm h k (by omega)
theorem Qz.nat {a n : Nat} (h : a < 2 ^ n) : Qz n 1 (a : Rat) := ⟨by rw [Rat.num_natCast]; exact Bd.nat h, by rw [Rat.den_natCast]; unfold Bd; decide⟩
inductive R_reduced : Rel
  | mk (n d : Int) (B : Bag) (h : d ≠ 0) (hn : Bd 8900 d) : R_reduced [.da (.int n), .da (.int d)] B (fq (n /. d)) B
inductive R_two (f : Rat → Rat → Rat) : Rel
  | mk (n d m c : Nat) (x y : Rat) (B : Bag) (hx : Qz n d x) (hy : Qz m c y) (h1 : n ≤ 90000) (h2 : m ≤ 90000) (h3 : d + c ≤ 8900) : R_two f [.da (fq x), .da (fq y)] B (fq (f x y)) B
inductive R_below : Rel
  | mk (n d m c : Nat) (x y : Rat) (B : Bag) (hx : Qz n d x) (hy : Qz m c y) (h1 : n + d ≤ 90000) (h2 : m + c ≤ 90000) : R_below [.da (fq x), .da (fq y)] B (.bool (decide (x < y))) B
def absQ (x : Rat) : Rat := if x < 0 then -x else x
theorem num_neg_iff (x : Rat) : x.num < 0 ↔ x < 0 := by
  rw [Rat.lt_iff]
  show x.num < 0 ↔ x.num * 1 < 0 * _
  rw [Int.mul_one, Int.zero_mul]
theorem absQ_num (x : Rat) : (absQ x).num = (if x.num < 0 then -x.num else x.num) ∧ (absQ x).den = x.den := by
  unfold absQ
  by_cases h : x < 0
  · rw [if_pos h, if_pos ((num_neg_iff x).mpr h), Rat.neg_num, Rat.neg_den]; exact ⟨rfl, rfl⟩
  · rw [if_neg h, if_neg (fun z => h ((num_neg_iff x).mp z))]; exact ⟨rfl, rfl⟩
theorem Qz.abs {n d : Nat} {x : Rat} (h : Qz n d x) : Qz n d (absQ x) := by
  unfold absQ; split
  · exact h.neg
  · exact h
theorem absQ_nonneg (x : Rat) : 0 ≤ absQ x := by unfold absQ; split <;> grind
inductive R_one (v : Rat → PyData) : Rel
  | mk (x : Rat) (B : Bag) : R_one v [.da (fq x)] B (v x) B
def sgn (x : Rat) : Int := if x.num < 0 then 1 else 0
def pt (l m : Int) : Int := if l = 0 then 0 else if 2 * l < m then 1 else if 2 * l = m then 2 else 3
inductive R_part : Rel
  | mk (l m : Int) (B : Bag) (n : Nat) (hl : Bd n l) (hn : n ≤ 90000) : R_part [.da (.int l), .da (.int m)] B (.int (pt l m)) B
def outw (way : Str) (s c part : Int) : Bool :=
  if part = 0 ∨ way = "zero" then false
  else if way = "up" then decide (s = 0)
  else if way = "down" then decide (s = 1)
  else if part = 2 then (decide (way = "away") || decide (c % 2 = 1))
  else decide (part = 3)
inductive R_outw : Rel
  | mk (way : Str) (s c part : Int) (B : Bag) : R_outw [.da (.str way), .da (.int s), .da (.int c), .da (.int part)] B (.bool (outw way s c part)) B
def absI (i : Int) : Int := if i < 0 then -i else i
theorem bd_pow {b : Nat} (k : Nat) (h : b < 2 ^ 6) : Bd (6 * k + 1) (((b ^ k : Nat) : Int)) := by
  unfold Bd
  rw [Int.natAbs_natCast, Nat.pow_succ, Nat.pow_mul]
  have := Nat.pow_le_pow_left (Nat.le_of_lt h) k
  have p : 0 < (2 ^ 6) ^ k := Nat.pow_pos (by decide)
  omega
def intAt (Γ : List VD) (i : Nat) : Int := match Γ[i]? with
  | some (.da (.int m)) => m
  | _ => 0
theorem pow_sq (b k : Nat) : ((b ^ k : Nat) : Int) * ((b ^ k : Nat) : Int) = ((b ^ (k + k) : Nat) : Int) := by rw [← Int.natCast_mul, ← Nat.pow_add]
theorem pow_up (b j k : Nat) : ((b ^ j : Nat) : Int) * ((b ^ k : Nat) : Int) = ((b ^ (j + k) : Nat) : Int) := by rw [← Int.natCast_mul, ← Nat.pow_add]
theorem half (m : Nat) : (m : Int) / 2 = ((m / 2 : Nat) : Int) := by omega
theorem turn_odd {j k m e : Nat} (h : j + k * m = e) (h1 : m % 2 = 1) : (j + k) + (k + k) * (m / 2) = e := by
  have : m = 2 * (m / 2) + 1 := by omega
  rw [this] at h
  generalize m / 2 = t at *
  grind
theorem turn_even {j k m e : Nat} (h : j + k * m = e) (h1 : ¬ m % 2 = 1) : j + (k + k) * (m / 2) = e := by
  have : m = 2 * (m / 2) := by omega
  rw [this] at h
  generalize m / 2 = t at *
  grind
theorem k_le {j k m e : Nat} (h : j + k * m = e) (h1 : 0 < m) : k ≤ e ∧ j ≤ e := by
  have : k * 1 ≤ k * m := Nat.mul_le_mul_left k h1
  omega
theorem j_end {j k m e : Nat} (h : j + k * m = e) (h1 : ¬ 0 < m) : j = e := by
  have : m = 0 := by omega
  subst this; omega
inductive R_pow : Rel
  | mk (b e : Nat) (B : Bag) (hb : b < 2 ^ 6) (he : e ≤ 20000) : R_pow [.da (.int b), .da (.int e)] B (.int ((b ^ e : Nat) : Int)) B
def pw (b : Nat) (e : Int) : Rat := if e < 0 then ((b ^ (-e).toNat : Nat) : Rat)⁻¹ else ((b ^ e.toNat : Nat) : Rat)
theorem fq_nat (n : Nat) : fq (n : Rat) = .tuple [.int n, .int 1] := by unfold fq; rw [Rat.num_natCast, Rat.den_natCast]; rfl
theorem fq_inv {n : Nat} (h : 0 < n) : fq ((n : Rat)⁻¹) = .tuple [.int 1, .int n] := by
  unfold fq
  rw [Rat.num_inv, Rat.den_inv, Rat.num_natCast, Rat.den_natCast, if_neg (by omega), Int.sign_eq_one_of_pos (by omega)]
  rfl
inductive R_power_of : Rel
  | mk (b : Nat) (e : Int) (B : Bag) (h0 : 0 < b) (hb : b < 2 ^ 6) (h1 : -20000 ≤ e) (h2 : e ≤ 20000) : R_power_of [.da (.int b), .da (.int e)] B (fq (pw b e)) B
inductive R_bag : Rel
  | mk (ns : List Int) (B : Bag) (hl : ns.length ≤ 63) : R_bag [.scr ns] B (.list [.int 0, .int 1234567891, .int 0, .list (((ns.take 63).map absI).map .int)]) B
theorem cut_head (ns : List Int) (n : Nat) : cutP (ns.map PyData.int) none (some (n : Int)) = (ns.take n).map PyData.int := by
  unfold cutP
  rw [HT.sIx_none, HT.sIx_nat, List.drop_zero, List.length_map, Nat.sub_zero, ← List.map_take]
  congr 1
  by_cases h : n ≤ ns.length
  · rw [Nat.min_eq_left h]
  · rw [Nat.min_eq_right (by omega), List.take_length, List.take_of_length_le (by omega)]
def cell (B : Bag) : Int := ((B.cs.drop (HT.sIx B.cs.length 0 (some B.z))) ++ [0]).headD 0
def stir (B : Bag) : Bag :=
  if B.x = 0 then ⟨if 10 ^ 18 ≤ cell B then cell B else B.x, (B.y * 48271 + cell B % 2147483647 + 7919 * (B.z + 1)) % 2147483647, B.z + 1, B.cs⟩ else B
def low (B : Bag) : Int := (((B.y + 1) * 39373) % 1000000007 * (((B.y + 1) * 39373) % 1000000007) % 998244353 * 30011) % 998244353 / 7
def tkV (B : Bag) (m : Int) : Int := if 0 < (stir B).x then (stir B).x % m else low (stir B) % m
def tkB (B : Bag) (m : Int) : Bag := if 0 < (stir B).x then { stir B with x := (stir B).x / m } else stir B
theorem tkV_ge (B : Bag) {m : Int} (h : 0 < m) : 0 ≤ tkV B m := by
  unfold tkV; split <;> exact Int.emod_nonneg _ (Int.ne_of_gt h)
theorem tkV_lt (B : Bag) {m : Int} (h : 0 < m) : tkV B m < m := by
  unfold tkV; split <;> exact Int.emod_lt_of_pos _ h
def Bok (B : Bag) : Prop := B.cs.length ≤ 63
theorem stir_ok {B : Bag} (h : Bok B) : Bok (stir B) := by
  unfold stir; split <;> exact h
theorem tkB_ok {B : Bag} (h : Bok B) (m : Int) : Bok (tkB B m) := by
  unfold tkB; split <;> exact stir_ok h
inductive R_take : Rel
  | mk (B : Bag) (m : Int) (h : 0 < m) (hb : Bd 8000 m) (hc : Bok B) : R_take [.bag, .da (.int m)] B (.int (tkV B m)) (tkB B m)
theorem drop_cell (B : Bag) : atI (cutP (B.cs.map PyData.int) (some B.z) none ++ [PyData.int 0]) 0 = some (.int (cell B)) := by
  have e : cutP (B.cs.map PyData.int) (some B.z) none = (B.cs.drop (HT.sIx B.cs.length 0 (some B.z))).map PyData.int := by
    unfold cutP
    rw [HT.sIx_none, List.length_map, ← List.map_drop, List.take_of_length_le]
    rw [List.length_map, List.length_drop]; omega
  rw [e]
  unfold cell
  cases B.cs.drop (HT.sIx B.cs.length 0 (some B.z)) with
  | nil => rfl
  | cons c cs =>
    show atI (PyData.int c :: _) ((0 : Nat) : Int) = some (.int c)
    exact atI_nat rfl
def pick (ds : List PyData) (B : Bag) : PyData := ds.getD (tkV B ds.length).toNat .none
inductive R_some : Rel
  | mk (B : Bag) (ds : List PyData) (h : 0 < ds.length) (hl : ds.length ≤ 1000) (hc : Bok B) : R_some [.bag, .da (.list ds)] B (pick ds B) (tkB B ds.length)
theorem pick_at (ds : List PyData) (B : Bag) (h : 0 < ds.length) : atI ds (tkV B ds.length) = some (pick ds B) := by
  have h0 := tkV_ge B (m := ds.length) (by omega)
  have h1 := tkV_lt B (m := ds.length) (by omega)
  have e : tkV B ds.length = ((tkV B ds.length).toNat : Int) := by omega
  have hlt : (tkV B ds.length).toNat < ds.length := by omega
  conv => lhs; rw [e]
  refine atI_nat ?_
  unfold pick
  rw [List.getD_eq_getElem?_getD, List.getElem?_eq_getElem hlt]; rfl
inductive R_common : Rel
  | mk (n d : Int) (B : Bag) : R_common [.da (.int n), .da (.int d)] B (.int (Nat.gcd n.natAbs d.natAbs : Nat)) B
theorem absI_nat (n : Int) : (if n < 0 then -n else n) = (n.natAbs : Int) := by split <;> omega
theorem com_if {n d : Int} (h : d ≠ 0) : (bif decide (0 < d) then ((Nat.gcd n.natAbs d.natAbs : Nat) : Int) else -((Nat.gcd n.natAbs d.natAbs : Nat) : Int)) = com n d := by
  unfold com
  by_cases h1 : 0 < d
  · rw [decide_eq_true h1, if_neg (by omega)]; rfl
  · rw [decide_eq_false h1, if_pos (by omega)]; rfl
def wayList : List Str := ["even", "away", "up", "down", "zero"]
end Lw
namespace Lw
open PySem PySem.Spec PyProof.Rows L2 Gd Fr
open scoped Rat
theorem ltle {a b c : Rat} (h : a < b) (k : b ≤ c) : a < c := by grind
theorem lelt {a b c : Rat} (h : a ≤ b) (k : b < c) : a < c := by grind
theorem pw_eq (b : Nat) (e : Int) : pw b e = (b : Rat) ^ e := by
  unfold pw
  by_cases h : e < 0
  · rw [if_pos h]
    have e1 : e = -((-e).toNat : Int) := by omega
    conv => rhs; rw [e1]
    rw [Rat.zpow_neg, Rat.zpow_natCast, Rat.natCast_pow]
  · rw [if_neg h]
    have e1 : e = (e.toNat : Int) := by omega
    conv => rhs; rw [e1]
    rw [Rat.zpow_natCast, Rat.natCast_pow]
section
variable {b p : Nat} (h2 : 2 ≤ b)
include h2
theorem b_pos : (0 : Rat) < (b : Rat) := Rat.natCast_pos.mpr (by omega)
theorem pw_pos (e : Int) : 0 < pw b e := by rw [pw_eq]; exact Rat.zpow_pos (b_pos h2)
theorem pw_ne (e : Int) : pw b e ≠ 0 := fun z => by have := pw_pos h2 e; rw [z] at this; exact absurd this (by decide)
theorem pw_add (x y : Int) : pw b (x + y) = pw b x * pw b y := by
  rw [pw_eq, pw_eq, pw_eq]
  exact Rat.zpow_add (fun z => by have := b_pos h2; rw [z] at this; exact absurd this (by decide)) x y
omit h2 in
theorem pw_nat (n : Nat) : pw b (n : Int) = ((b ^ n : Nat) : Rat) := by
  unfold pw; rw [if_neg (by omega), Int.toNat_natCast]
omit h2 in
theorem pw_of {e : Int} (h : 0 ≤ e) : pw b e = ((b ^ e.toNat : Nat) : Rat) := by
  unfold pw; rw [if_neg (by omega)]
theorem pw_ge1 {e : Int} (h : 0 ≤ e) : 1 ≤ pw b e := by
  rw [pw_of h]
  have : 1 ≤ b ^ e.toNat := Nat.pow_pos (by omega)
  exact Rat.natCast_le_natCast.mpr this
theorem pw_mono {x y : Int} (h : x ≤ y) : pw b x ≤ pw b y := by
  have e : y = (y - x) + x := by omega
  rw [e, pw_add h2]
  have h1 := pw_ge1 h2 (e := y - x) (by omega)
  have := Rat.mul_le_mul_of_nonneg_right h1 (Rat.le_of_lt (pw_pos h2 x))
  rw [Rat.one_mul] at this; exact this
def IsE (b p : Nat) (low : Int) (q : Rat) (e : Int) : Prop := low ≤ e ∧ q < pw b (p + e) ∧ (e = low ∨ pw b (p + e - 1) ≤ q)
theorem isE_uniq {low e e' : Int} {q : Rat} (h : IsE b p low q e) (h' : IsE b p low q e') : e = e' := by
  have key : ∀ {e e' : Int}, IsE b p low q e → IsE b p low q e' → ¬ e < e' := by
    rintro e e' ⟨a1, a2, a3⟩ ⟨b1, b2, b3⟩ hlt
    rcases b3 with b3 | b3
    · omega
    · have := pw_mono h2 (x := p + e) (y := p + e' - 1) (by omega)
      exact absurd (ltle a2 (Rat.le_trans this b3)) (Rat.lt_irrefl)
  have k1 := key h h'
  have k2 := key h' h
  omega
end
def Nq (b : Nat) (e : Int) (q : Rat) : Int := q.num * ((b ^ (-e).toNat : Nat) : Int)
def Dq (b : Nat) (e : Int) (q : Rat) : Int := (q.den : Int) * ((b ^ e.toNat : Nat) : Int)
def cQ (b : Nat) (e : Int) (q : Rat) : Int := Nq b e q / Dq b e q
def rQ (b : Nat) (e : Int) (q : Rat) : Int := Nq b e q % Dq b e q
def tQ (b : Nat) (e : Int) (q : Rat) : Rat := (rQ b e q : Rat) / (Dq b e q : Rat)
section
variable {b p : Nat} (h2 : 2 ≤ b)
include h2
theorem Dq_pos (e : Int) (q : Rat) : 0 < Dq b e q := Int.mul_pos (den_pos q) (Int.natCast_pos.mpr (Nat.pow_pos (by omega)))
theorem Dq_ne (e : Int) (q : Rat) : ((Dq b e q : Int) : Rat) ≠ 0 := fun z => by
  have := Dq_pos h2 e q
  have e0 : Dq b e q = 0 := Rat.intCast_inj.mp (z.trans (by rfl))
  omega
theorem unit_ND (e : Int) : pw b e * ((b ^ (-e).toNat : Nat) : Rat) = ((b ^ e.toNat : Nat) : Rat) := by
  by_cases h : e < 0
  · have h1 : e.toNat = 0 := by omega
    rw [h1, Nat.pow_zero]
    unfold pw; rw [if_pos h]
    have : ((b ^ (-e).toNat : Nat) : Rat) ≠ 0 := fun z => by
      have h3 : 0 < b ^ (-e).toNat := Nat.pow_pos (by omega)
      have := Rat.natCast_pos.mpr h3
      rw [z] at this; exact absurd this (by decide)
    rw [Rat.mul_comm, Rat.mul_inv_cancel _ this]; rfl
  · have h1 : (-e).toNat = 0 := by omega
    rw [h1, Nat.pow_zero, pw_of (by omega)]
    exact Rat.mul_one _
omit h2 in
theorem num_den (q : Rat) : q * ((q.den : Int) : Rat) = (q.num : Rat) := by
  have h := Rat.num_divInt_den q
  rw [Rat.divInt_eq_div] at h
  have hd : ((q.den : Int) : Rat) ≠ 0 := fun z => by
    have e0 : (q.den : Int) = 0 := Rat.intCast_inj.mp (z.trans (by rfl))
    exact den_ne q e0
  conv => lhs; lhs; rw [← h]
  exact Rat.div_mul_cancel hd
theorem ND (e : Int) (q : Rat) : q * (Dq b e q : Rat) = (Nq b e q : Rat) * pw b e := by
  unfold Dq Nq
  rw [Rat.intCast_mul, Rat.intCast_mul, ← num_den q, Rat.intCast_natCast, Rat.intCast_natCast, Rat.intCast_natCast, ← unit_ND h2 e]
  grind
theorem q_val (e : Int) (q : Rat) : q = ((cQ b e q : Rat) + tQ b e q) * pw b e := by
  have hne := Dq_ne h2 e q
  have h := ND h2 e q
  have hd := Int.emod_add_mul_ediv (Nq b e q) (Dq b e q)
  have hd' : (Nq b e q : Rat) = (rQ b e q : Rat) + (Dq b e q : Rat) * (cQ b e q : Rat) := by
    rw [← Rat.intCast_mul, ← Rat.intCast_add]
    exact congrArg _ hd.symm
  have ht : tQ b e q * (Dq b e q : Rat) = (rQ b e q : Rat) := Rat.div_mul_cancel hne
  have : q * (Dq b e q : Rat) = (((cQ b e q : Rat) + tQ b e q) * pw b e) * (Dq b e q : Rat) := by
    rw [h, hd', ← ht]; grind
  have h3 := congrArg (· / (Dq b e q : Rat)) this
  simp only [Rat.mul_div_cancel hne] at h3
  exact h3
theorem r_ge (e : Int) (q : Rat) : 0 ≤ rQ b e q := Int.emod_nonneg _ (Int.ne_of_gt (Dq_pos h2 e q))
theorem r_lt (e : Int) (q : Rat) : rQ b e q < Dq b e q := Int.emod_lt_of_pos _ (Dq_pos h2 e q)
theorem Dq_posQ (e : Int) (q : Rat) : (0 : Rat) < (Dq b e q : Rat) := Rat.intCast_lt_intCast.mpr (Dq_pos h2 e q)
theorem t_mul (e : Int) (q : Rat) : tQ b e q * (Dq b e q : Rat) = (rQ b e q : Rat) := Rat.div_mul_cancel (Dq_ne h2 e q)
theorem t_lt_iff (e : Int) (q : Rat) (m : Int) (k : Nat) (hk : 0 < k) : (k : Rat) * tQ b e q < (m : Rat) ↔ k * rQ b e q < m * Dq b e q := by
  rw [← Rat.mul_lt_mul_right (Dq_posQ h2 e q), Rat.mul_assoc, t_mul h2, ← Rat.intCast_natCast, ← Rat.intCast_mul, ← Rat.intCast_mul, Rat.intCast_lt_intCast]
theorem t_eq_iff (e : Int) (q : Rat) (m : Int) (k : Nat) : (k : Rat) * tQ b e q = (m : Rat) ↔ k * rQ b e q = m * Dq b e q := by
  rw [← Rat.intCast_inj, Rat.intCast_mul, Rat.intCast_mul, ← t_mul h2, Rat.intCast_natCast, ← Rat.mul_assoc]
  constructor
  · intro h; rw [h]
  · intro h
    have h3 := congrArg (· / (Dq b e q : Rat)) h
    simp only [Rat.mul_div_cancel (Dq_ne h2 e q)] at h3
    exact h3
theorem t_ge (e : Int) (q : Rat) : 0 ≤ tQ b e q := by
  rw [← Rat.not_lt]
  intro h
  have := (t_lt_iff h2 e q 0 1 (by decide)).mp (by rw [show ((1 : Nat) : Rat) = 1 from rfl, Rat.one_mul]; exact h)
  have := r_ge h2 e q
  omega
theorem t_lt1 (e : Int) (q : Rat) : tQ b e q < 1 := by
  have := (t_lt_iff h2 e q 1 1 (by decide)).mpr (by have := r_lt h2 e q; omega)
  rw [show ((1 : Nat) : Rat) = 1 from rfl, Rat.one_mul] at this; exact this
theorem t_zero (e : Int) (q : Rat) : tQ b e q = 0 ↔ rQ b e q = 0 := by
  have := t_eq_iff h2 e q 0 1
  rw [show ((1 : Nat) : Rat) = 1 from rfl, Rat.one_mul] at this
  rw [show ((0 : Int) : Rat) = 0 from rfl] at this
  rw [this]; constructor <;> intro <;> omega
end
end Lw
namespace Lw
open PySem PySem.Spec PyProof.Rows L2 Gd Fr
open scoped Rat
theorem cast_lt {a c : Int} : (a : Rat) < (c : Rat) ↔ a < c := Rat.intCast_lt_intCast
theorem cast_le {a c : Int} : (a : Rat) ≤ (c : Rat) ↔ a ≤ c := Rat.intCast_le_intCast
theorem cast_s (a : Int) : ((a + 1 : Int) : Rat) = (a : Rat) + 1 := by rw [Rat.intCast_add]; rfl
section
variable {b p : Nat} (h2 : 2 ≤ b)
include h2
theorem c_uniq {e : Int} {q s : Rat} {C : Int} (h : q = ((C : Rat) + s) * pw b e) (h0 : 0 ≤ s) (h1 : s < 1) : cQ b e q = C ∧ tQ b e q = s := by
  have hv := q_val h2 e q
  have hu := pw_ne h2 e
  have t0 := t_ge h2 e q
  have t1 := t_lt1 h2 e q
  rw [h] at hv
  have e1 : (C : Rat) + s = (cQ b e q : Rat) + tQ b e q := by
    have := congrArg (· / pw b e) hv
    simp only [Rat.mul_div_cancel hu] at this
    rw [h]; exact this
  have a1 : (C : Rat) < ((cQ b e q + 1 : Int) : Rat) := by rw [cast_s]; grind
  have a2 : (cQ b e q : Rat) < ((C + 1 : Int) : Rat) := by rw [cast_s]; grind
  have a1 := cast_lt.mp a1
  have a2 := cast_lt.mp a2
  have e2 : cQ b e q = C := by omega
  rw [e2] at e1
  exact ⟨e2, by grind⟩
theorem c_ge {q : Rat} (h : 0 ≤ q) (e : Int) : 0 ≤ cQ b e q :=
  Int.ediv_nonneg (Int.mul_nonneg (Rat.num_nonneg.mpr h) (Int.natCast_nonneg _)) (Int.le_of_lt (Dq_pos h2 e q))
theorem c_le (e : Int) (q : Rat) : (cQ b e q : Rat) * pw b e ≤ q := by
  have hv := q_val h2 e q
  have := Rat.mul_le_mul_of_nonneg_right (show (cQ b e q : Rat) ≤ (cQ b e q : Rat) + tQ b e q by have := t_ge h2 e q; grind) (Rat.le_of_lt (pw_pos h2 e))
  rw [← hv] at this; exact this
theorem c_up (e : Int) (q : Rat) : q < ((cQ b e q : Rat) + 1) * pw b e := by
  have hv := q_val h2 e q
  have := Rat.mul_lt_mul_of_pos_right (show (cQ b e q : Rat) + tQ b e q < (cQ b e q : Rat) + 1 by have := t_lt1 h2 e q; grind) (pw_pos h2 e)
  rw [← hv] at this; exact this
theorem pw_p (n : Nat) (e : Int) : pw b (n + e) = (((b ^ n : Nat) : Int) : Rat) * pw b e := by rw [pw_add h2, pw_nat, Rat.intCast_natCast]
theorem c_lt {low e : Int} {q : Rat} (h : IsE b p low q e) : cQ b e q < ((b ^ p : Nat) : Int) := by
  have h1 := lelt (c_le h2 e q) h.2.1
  rw [pw_p h2, Rat.mul_lt_mul_right (pw_pos h2 e)] at h1
  exact cast_lt.mp h1
theorem c_big {low e : Int} {q : Rat} (hp : 1 ≤ p) (h : IsE b p low q e) : e = low ∨ ((b ^ (p - 1) : Nat) : Int) ≤ cQ b e q := by
  rcases h.2.2 with h | h
  · exact .inl h
  · refine .inr ?_
    have e1 : (p : Int) + e - 1 = ((p - 1 : Nat) : Int) + e := by omega
    rw [e1, pw_p h2] at h
    have h1 := lelt h (c_up h2 e q)
    rw [Rat.mul_lt_mul_right (pw_pos h2 e), ← cast_s] at h1
    have := cast_lt.mp h1
    omega
def Can (b p : Nat) (low C e : Int) : Prop := 0 ≤ C ∧ C < ((b ^ p : Nat) : Int) ∧ low ≤ e ∧ (e = low ∨ ((b ^ (p - 1) : Nat) : Int) ≤ C)
theorem can_isE {low C e : Int} (hp : 1 ≤ p) (h : Can b p low C e) : IsE b p low ((C : Rat) * pw b e) e := by
  obtain ⟨a1, a2, a3, a4⟩ := h
  refine ⟨a3, ?_, a4.imp id fun z => ?_⟩
  · rw [pw_p h2, Rat.mul_lt_mul_right (pw_pos h2 e)]; exact cast_lt.mpr a2
  · have e1 : (p : Int) + e - 1 = ((p - 1 : Nat) : Int) + e := by omega
    rw [e1, pw_p h2]
    exact Rat.mul_le_mul_of_nonneg_right (cast_le.mpr z) (Rat.le_of_lt (pw_pos h2 e))
theorem can_c (C e : Int) : cQ b e ((C : Rat) * pw b e) = C := (c_uniq h2 (s := 0) (by grind) (by grind) (by grind)).1
theorem spot_can {low e : Int} {q : Rat} (hp : 1 ≤ p) (h0 : 0 ≤ q) (h : IsE b p low q e) : Can b p low (cQ b e q) e := ⟨c_ge h2 h0 e, c_lt h2 h, h.1, c_big h2 hp h⟩
theorem isE_ex (low : Int) (q : Rat) : ∃ e, IsE b p low q e := by
  have step : ∀ n : Nat, q < pw b (p + (low + n)) → ∃ e, IsE b p low q e := by
    intro n
    induction n with
    | zero => intro h; exact ⟨low, Int.le_refl _, by rw [show (low + (0 : Nat) : Int) = low by omega] at h; exact h, .inl rfl⟩
    | succ n ih =>
      intro h
      by_cases h1 : q < pw b (p + (low + n))
      · exact ih h1
      · refine ⟨low + (n + 1 : Nat), by omega, h, .inr ?_⟩
        rw [show (p : Int) + (low + (n + 1 : Nat)) - 1 = p + (low + n) by omega]
        exact Rat.not_lt.mp h1
  refine step (q.num.natAbs + (-(p + low)).toNat) ?_
  have h1 : pw b (q.num.natAbs : Int) ≤ pw b (p + (low + (q.num.natAbs + (-(p + low)).toNat : Nat))) := pw_mono h2 (by omega)
  refine ltle ?_ h1
  rw [pw_nat]
  have h3 : q.num.natAbs < b ^ q.num.natAbs := Nat.lt_pow_self (by omega)
  by_cases hq : 0 ≤ q
  · have h4 : q ≤ (q.num : Rat) := by
      have hd := num_den q
      have h5 : (1 : Rat) ≤ ((q.den : Int) : Rat) := cast_le.mpr (show 1 ≤ (q.den : Int) by have := den_pos q; omega)
      have := Rat.mul_le_mul_of_nonneg_left h5 hq
      rw [hd, Rat.mul_one] at this; exact this
    refine lelt h4 ?_
    rw [← Rat.intCast_natCast]
    exact cast_lt.mpr (by omega)
  · rw [Rat.not_le] at hq
    have := Rat.natCast_pos.mpr (show 0 < b ^ q.num.natAbs by omega)
    exact ltle hq (Rat.le_of_lt this)
end
open Classical in
noncomputable def eQ (b p : Nat) (low : Int) (q : Rat) : Int := if h : ∃ e, IsE b p low q e then h.choose else low
theorem eQ_is {b p : Nat} (h2 : 2 ≤ b) (low : Int) (q : Rat) : IsE b p low q (eQ b p low q) := by
  have h := isE_ex (p := p) h2 low q
  unfold eQ; rw [dif_pos h]; exact h.choose_spec
theorem eQ_of {b p : Nat} (h2 : 2 ≤ b) {low e : Int} {q : Rat} (h : IsE b p low q e) : eQ b p low q = e := isE_uniq h2 (eQ_is h2 low q) h
def upN (b p : Nat) (c e : Int) : Int × Int := if c + 1 = ((b ^ p : Nat) : Int) then (((b ^ (p - 1) : Nat) : Int), e + 1) else (c + 1, e)
def nb (b p : Nat) (o : Bool) (c e : Int) : Int × Int := if o = true then upN b p c e else (c, e)
theorem nb_can {b p : Nat} {low c e : Int} {o : Bool} (h2 : 2 ≤ b) (hp : 2 ≤ p) (h : Can b p low c e) : Can b p low (nb b p o c e).1 (nb b p o c e).2 ∧ (((nb b p o c e).1 : Rat) * pw b (nb b p o c e).2 = (if o = true then (c : Rat) + 1 else (c : Rat)) * pw b e) := by
  obtain ⟨a1, a2, a3, a4⟩ := h
  have e1 : b ^ p = b ^ (p - 1) * b := by rw [← Nat.pow_succ]; congr 1; omega
  have p1 : 0 < b ^ (p - 1) := Nat.pow_pos (by omega)
  have p2 : b ^ (p - 1) * 2 ≤ b ^ (p - 1) * b := Nat.mul_le_mul_left _ h2
  unfold nb
  by_cases ho : o = true
  · rw [if_pos ho, if_pos ho]
    unfold upN
    by_cases hc : c + 1 = ((b ^ p : Nat) : Int)
    · rw [if_pos hc]
      refine ⟨⟨by omega, by omega, by omega, .inr (Int.le_refl _)⟩, ?_⟩
      rw [← cast_s, hc, ← pw_p h2 p e]
      have := pw_p h2 (p - 1) (e + 1)
      rw [← this]
      congr 1; omega
    · rw [if_neg hc]
      exact ⟨⟨by omega, by omega, a3, a4.imp id fun z => by omega⟩, by rw [cast_s]⟩
  · rw [if_neg ho, if_neg ho]
    exact ⟨⟨a1, a2, a3, a4⟩, rfl⟩
def words (l : List Str) : PyData := .tuple (l.map .str)
def nm (s c e : Int) : PyData := .tuple [.str "num", .int s, .int c, .int e]
def isInf (way : Str) (s : Int) : Bool := decide (way = "even" ∨ way = "away") || (decide (way = "up") && decide (s = 0)) || (decide (way = "down") && decide (s = 1))
def tooG (b p : Nat) (high : Int) (way : Str) (s : Int) : PyData := if isInf way s = true then .tuple [.str "inf", .int s] else nm s (((b ^ p : Nat) : Int) - 1) high
def outP (b p : Nat) (high : Int) (way : Str) (s e c part : Int) : PyData :=
  if high < (nb b p (outw way s c part) c e).2 then .tuple [tooG b p high way s, words ["inexact", "over"]]
  else .tuple [nm s (nb b p (outw way s c part) c e).1 (nb b p (outw way s c part) c e).2, if part = 0 then words [] else if c < ((b ^ (p - 1) : Nat) : Int) then words ["inexact", "tiny"] else words ["inexact"]]
noncomputable def rdP (b p : Nat) (low high : Int) (way : Str) (x : Rat) (s : Int) : PyData :=
  outP b p high way (if x = 0 then s else sgn x) (eQ b p low (absQ x)) (cQ b (eQ b p low (absQ x)) (absQ x)) (pt (rQ b (eQ b p low (absQ x)) (absQ x)) (Dq b (eQ b p low (absQ x)) (absQ x)))
end Lw
set_option exponentiation.threshold 4000
namespace Lw
open PySem PySem.Spec PyProof.Rows L2 Gd Fr
open scoped Rat
structure Fm (b p : Nat) (low high : Int) : Prop where
  b2 : 2 ≤ b
  b6 : b < 2 ^ 6
  p2 : 2 ≤ p
  p7 : p ≤ 120
  lo : -1200 ≤ low
  lh : low ≤ high
  hi : high ≤ 1200
  bp : b ^ p < 2 ^ 700
  bl : b ^ (-low).toNat < 2 ^ 2340
  bh : b ^ high.toNat < 2 ^ 2340
def fmP (b p : Nat) (low high : Int) : PyData := .tuple [.int b, .int p, .int low, .int high]
theorem ways {way : Str} (h : way ∈ wayList) : way = "even" ∨ way = "away" ∨ way = "up" ∨ way = "down" ∨ way = "zero" := by unfold wayList at h; simpa using h
theorem pw_bd {b : Nat} (h2 : 2 ≤ b) {e : Int} {n d : Nat} (hn : b ^ e.toNat < 2 ^ n) (hd : b ^ (-e).toNat < 2 ^ d) (h1 : 1 ≤ n) (h1' : 1 ≤ d) : Qz n d (pw b e) := by
  unfold pw
  by_cases h : e < 0
  · rw [if_pos h]
    have hp : 0 < b ^ (-e).toNat := Nat.pow_pos (by omega)
    refine ⟨?_, ?_⟩
    · rw [Rat.num_inv, Rat.num_natCast, Rat.den_natCast]
      have : (((b ^ (-e).toNat : Nat) : Int)).sign = 1 := Int.sign_eq_one_of_pos (by omega)
      rw [this]
      exact (show Bd 1 (1 * ((1 : Nat) : Int)) by unfold Bd; decide).le h1
    · rw [Rat.den_inv, Rat.num_natCast, if_neg (by omega), Int.natAbs_natCast]
      exact Bd.nat hd
  · rw [if_neg h]
    exact ⟨by rw [Rat.num_natCast]; exact Bd.nat hn, by rw [Rat.den_natCast]; exact (show Bd 1 ((1 : Nat) : Int) by unfold Bd; decide).le h1'⟩
section
variable {b p : Nat} {low high : Int} (F : Fm b p low high)
include F
theorem Fm.pow_lo {e : Int} (h : low ≤ e) : b ^ (-e).toNat < 2 ^ 2340 := Nat.lt_of_le_of_lt (Nat.pow_le_pow_right (by have := F.b2; omega) (by omega)) F.bl
theorem Fm.pow_hi {e : Int} (h : e ≤ high) : b ^ e.toNat < 2 ^ 2340 := Nat.lt_of_le_of_lt (Nat.pow_le_pow_right (by have := F.b2; omega) (by omega)) F.bh
theorem Fm.qz {e : Int} (h : low ≤ e) (h' : e ≤ high) : Qz 2340 2340 (pw b e) := pw_bd F.b2 (F.pow_hi h') (F.pow_lo h) (by decide) (by decide)
theorem Fm.e_bd {q : Rat} {e : Int} {n d : Nat} (hq : Qz n d q) (h0 : 0 ≤ q) (hE : IsE b p low q e) : (q.den * b ^ e.toNat < 2 ^ n ∧ 0 < e ∧ low < e) ∨ (e ≤ 0 ∨ e = low) := by
  by_cases h : 0 < e ∧ low < e
  · refine .inl ⟨?_, h⟩
    have h3 := hE.2.2
    have h4 : pw b (p + e - 1) ≤ q := by
      rcases h3 with z | z
      · omega
      · exact z
    have h5 : pw b (e : Int) ≤ q := Rat.le_trans (pw_mono F.b2 (by have := F.p2; omega)) h4
    have hd0 : (0 : Rat) ≤ ((q.den : Int) : Rat) := cast_le.mpr (Int.le_of_lt (den_pos q))
    have h6 := Rat.mul_le_mul_of_nonneg_right h5 hd0
    rw [num_den, pw_of (by omega), ← Rat.intCast_natCast, ← Rat.intCast_mul] at h6
    have h7 := cast_le.mp h6
    have h8 := hq.nu
    unfold Bd at h8
    have h9 : (q.den : Int) * ((b ^ e.toNat : Nat) : Int) ≤ q.num := by rw [Int.mul_comm]; exact h7
    have h10 : ((q.den * b ^ e.toNat : Nat) : Int) ≤ q.num := by rw [Int.natCast_mul]; exact h9
    omega
  · exact .inr (by have := hE.1; omega)
theorem Fm.D_bd {q : Rat} {e : Int} {n d : Nat} (hq : Qz n d q) (h0 : 0 ≤ q) (hE : IsE b p low q e) (hn : n ≤ 8900) (hd : d ≤ 6500) : Bd 8900 (Dq b e q) := by
  unfold Dq
  rw [← Int.natCast_mul]
  rcases F.e_bd hq h0 hE with ⟨h, _, _⟩ | h
  · exact (Bd.nat h).le hn
  · have h1 : b ^ e.toNat < 2 ^ 2340 := by
      rcases h with h | h
      · have : e.toNat = 0 := by omega
        rw [this, Nat.pow_zero]; exact Nat.one_lt_two_pow (by decide)
      · rw [h]; exact F.pow_hi F.lh
    rw [Int.natCast_mul]
    exact (hq.de.mul (Bd.nat h1)).le (by omega)
theorem Fm.u_bd {q : Rat} {e : Int} {n d : Nat} (hq : Qz n d q) (h0 : 0 ≤ q) (hE : IsE b p low q e) : Qz (max n 2340) 2340 (pw b e) := by
  have hd1 : 1 ≤ q.den := q.den_pos
  have hlo : b ^ (-e).toNat < 2 ^ 2340 := F.pow_lo hE.1
  rcases F.e_bd hq h0 hE with ⟨h, _, _⟩ | h
  · have h1 : b ^ e.toNat < 2 ^ n := Nat.lt_of_le_of_lt (Nat.le_mul_of_pos_left _ hd1) h
    exact pw_bd F.b2 (Nat.lt_of_lt_of_le h1 (Nat.pow_le_pow_right (by decide) (by omega))) hlo (by omega) (by decide)
  · have h1 : b ^ e.toNat < 2 ^ 2340 := by
      rcases h with h | h
      · have : e.toNat = 0 := by omega
        rw [this, Nat.pow_zero]; exact Nat.one_lt_two_pow (by decide)
      · rw [h]; exact F.pow_hi F.lh
    exact pw_bd F.b2 (Nat.lt_of_lt_of_le h1 (Nat.pow_le_pow_right (by decide) (by omega))) hlo (by omega) (by decide)
theorem Fm.e_hi {q : Rat} {e : Int} {n d : Nat} (hq : Qz n d q) (h0 : 0 ≤ q) (hE : IsE b p low q e) (hn : n ≤ 8900) : e ≤ 9000 := by
  rcases F.e_bd hq h0 hE with ⟨h, _, _⟩ | h
  · have hd1 : 1 ≤ q.den := q.den_pos
    have h1 : b ^ e.toNat < 2 ^ n := Nat.lt_of_le_of_lt (Nat.le_mul_of_pos_left _ hd1) h
    have h2 : 2 ^ e.toNat ≤ b ^ e.toNat := Nat.pow_le_pow_left F.b2 _
    have h3 : e.toNat < n := (Nat.pow_lt_pow_iff_right (by decide)).mp (Nat.lt_of_le_of_lt h2 h1)
    omega
  · have := F.hi; have := F.lh
    rcases h with h | h <;> omega
end
section
variable {b p : Nat} (h2 : 2 ≤ b)
include h2
theorem mul_lt_u {x y : Rat} (e : Int) : x * pw b e < y * pw b e ↔ x < y := Rat.mul_lt_mul_right (pw_pos h2 e)
theorem mul_eq_u {x y : Rat} (e : Int) : x * pw b e = y * pw b e ↔ x = y := by
  constructor
  · intro h
    have := congrArg (· / pw b e) h
    simp only [Rat.mul_div_cancel (pw_ne h2 e)] at this
    exact this
  · intro h; rw [h]
def loQ (b : Nat) (e : Int) (q : Rat) : Rat := (cQ b e q : Rat) * pw b e
def upQ (b : Nat) (e : Int) (q : Rat) : Rat := if rQ b e q = 0 then loQ b e q else ((cQ b e q + 1 : Int) : Rat) * pw b e
theorem lo_eq (e : Int) (q : Rat) : loQ b e q = q ↔ rQ b e q = 0 := by
  rw [← t_zero h2 e q]
  conv => lhs; rhs; rw [q_val h2 e q]
  unfold loQ
  rw [mul_eq_u h2]
  constructor <;> intro h <;> grind
theorem below_lo (e : Int) (q : Rat) : q - loQ b e q = tQ b e q * pw b e := by
  unfold loQ
  conv => lhs; lhs; rw [q_val h2 e q]
  grind
theorem above_up (e : Int) (q : Rat) (hr : rQ b e q ≠ 0) : upQ b e q - q = (1 - tQ b e q) * pw b e := by
  unfold upQ; rw [if_neg hr, cast_s]
  conv => lhs; rhs; rw [q_val h2 e q]
  grind
theorem half_eq (e : Int) (q : Rat) (hr : rQ b e q ≠ 0) : q - loQ b e q = upQ b e q - q ↔ 2 * rQ b e q = Dq b e q := by
  rw [below_lo h2, above_up h2 e q hr, mul_eq_u h2]
  have := t_eq_iff h2 e q 1 2
  rw [show ((2 : Nat) : Rat) = 2 from rfl, show ((1 : Int) : Rat) = 1 from rfl, Int.one_mul] at this
  rw [show (2 : Int) * rQ b e q = ((2 : Nat) : Int) * rQ b e q from rfl, ← this]
  constructor <;> intro h <;> grind
theorem half_lt (e : Int) (q : Rat) (hr : rQ b e q ≠ 0) : q - loQ b e q < upQ b e q - q ↔ 2 * rQ b e q < Dq b e q := by
  rw [below_lo h2, above_up h2 e q hr, mul_lt_u h2]
  have := t_lt_iff h2 e q 1 2 (by decide)
  rw [show ((2 : Nat) : Rat) = 2 from rfl, show ((1 : Int) : Rat) = 1 from rfl, Int.one_mul] at this
  rw [show (2 : Int) * rQ b e q = ((2 : Nat) : Int) * rQ b e q from rfl, ← this]
  constructor <;> intro h <;> grind
end
def nearQ (its : Str) (q lo up : Rat) (c : Int) : Rat :=
  if its = "zero" ∨ its = "lower" then lo else if its = "upper" then up
  else if q - lo = up - q then (if its = "even" ∧ c % 2 = 0 then lo else up) else if q - lo < up - q then lo else up
def itsOf (way : Str) (s : Int) : Str := if way = "up" ∨ way = "down" then (if decide (way = "up") = decide (s = 0) then "upper" else "lower") else way
theorem outw_even {s c k : Int} (hk : k ≠ 0) : outw "even" s c k = if k = 2 then decide (c % 2 = 1) else decide (k = 3) := by
  unfold outw
  rw [if_neg (show ¬ (k = 0 ∨ ("even" : Str) = "zero") from fun z => z.elim hk fun y => absurd y (by decide)), if_neg (show ¬ ("even" : Str) = "up" by decide), if_neg (show ¬ ("even" : Str) = "down" by decide),
    show decide (("even" : Str) = "away") = false by decide, Bool.false_or]
theorem outw_away {s c k : Int} (hk : k ≠ 0) : outw "away" s c k = if k = 2 then true else decide (k = 3) := by
  unfold outw
  rw [if_neg (show ¬ (k = 0 ∨ ("away" : Str) = "zero") from fun z => z.elim hk fun y => absurd y (by decide)), if_neg (show ¬ ("away" : Str) = "up" by decide), if_neg (show ¬ ("away" : Str) = "down" by decide),
    show decide (("away" : Str) = "away") = true by decide, Bool.true_or]
theorem outw_up {s c k : Int} (hk : k ≠ 0) : outw "up" s c k = decide (s = 0) := by
  unfold outw
  rw [if_neg (show ¬ (k = 0 ∨ ("up" : Str) = "zero") from fun z => z.elim hk fun y => absurd y (by decide)), if_pos (show ("up" : Str) = "up" by decide)]
theorem outw_down {s c k : Int} (hk : k ≠ 0) : outw "down" s c k = decide (s = 1) := by
  unfold outw
  rw [if_neg (show ¬ (k = 0 ∨ ("down" : Str) = "zero") from fun z => z.elim hk fun y => absurd y (by decide)), if_neg (show ¬ ("down" : Str) = "up" by decide), if_pos (show ("down" : Str) = "down" by decide)]
theorem outw_zero {s c k : Int} : outw "zero" s c k = false := by
  unfold outw
  rw [if_pos (show k = 0 ∨ ("zero" : Str) = "zero" from .inr rfl)]
theorem nearQ_lo {its : Str} {q lo up : Rat} {c : Int} (h : its = "zero" ∨ its = "lower") : nearQ its q lo up c = lo := by unfold nearQ; rw [if_pos h]
theorem nearQ_up {q lo up : Rat} {c : Int} : nearQ "upper" q lo up c = up := by
  unfold nearQ; rw [if_neg (show ¬ (("upper" : Str) = "zero" ∨ ("upper" : Str) = "lower") by decide), if_pos (show ("upper" : Str) = "upper" by decide)]
theorem nearQ_even {q lo up : Rat} {c : Int} : nearQ "even" q lo up c = if q - lo = up - q then (if c % 2 = 0 then lo else up) else if q - lo < up - q then lo else up := by
  unfold nearQ
  rw [if_neg (show ¬ (("even" : Str) = "zero" ∨ ("even" : Str) = "lower") by decide), if_neg (show ¬ ("even" : Str) = "upper" by decide)]
  simp only [true_and]
theorem nearQ_away {q lo up : Rat} {c : Int} : nearQ "away" q lo up c = if q - lo = up - q then up else if q - lo < up - q then lo else up := by
  unfold nearQ
  rw [if_neg (show ¬ (("away" : Str) = "zero" ∨ ("away" : Str) = "lower") by decide), if_neg (show ¬ ("away" : Str) = "upper" by decide)]
  have e : ¬ (("away" : Str) = "even" ∧ c % 2 = 0) := fun z => absurd z.1 (by decide)
  rw [if_neg e]
theorem pt_cases {r D : Int} (hr : r ≠ 0) : (2 * r = D ∧ pt r D = 2) ∨ (2 * r < D ∧ ¬ 2 * r = D ∧ pt r D = 1) ∨ (¬ 2 * r < D ∧ ¬ 2 * r = D ∧ pt r D = 3) := by
  unfold pt; rw [if_neg hr]
  by_cases h : 2 * r < D
  · exact .inr (.inl ⟨h, by omega, if_pos h⟩)
  · by_cases h' : 2 * r = D
    · exact .inl ⟨h', by rw [if_neg h, if_pos h']⟩
    · exact .inr (.inr ⟨h, h', by rw [if_neg h, if_neg h']⟩)
theorem near_ok {b : Nat} (h2 : 2 ≤ b) {way : Str} {s : Int} (hw : way ∈ wayList) (hs : s = 0 ∨ s = 1) (e : Int) (q : Rat) :
    nearQ (itsOf way s) q (loQ b e q) (upQ b e q) (cQ b e q) = (if outw way s (cQ b e q) (pt (rQ b e q) (Dq b e q)) = true then (cQ b e q : Rat) + 1 else (cQ b e q : Rat)) * pw b e := by
  by_cases hr : rQ b e q = 0
  · have hu : upQ b e q = loQ b e q := by unfold upQ; rw [if_pos hr]
    have ho : outw way s (cQ b e q) (pt (rQ b e q) (Dq b e q)) = false := by
      unfold outw pt; rw [if_pos hr, if_pos (.inl rfl)]
    rw [hu, ho]
    unfold nearQ
    simp only [ite_self, Bool.false_eq_true, if_false]
    rfl
  · have hup : upQ b e q = ((cQ b e q : Rat) + 1) * pw b e := by unfold upQ; rw [if_neg hr, cast_s]
    have hlo : loQ b e q = (cQ b e q : Rat) * pw b e := rfl
    have k1 := half_eq h2 e q hr
    have k2 := half_lt h2 e q hr
    have c01 : cQ b e q % 2 = 0 ∨ cQ b e q % 2 = 1 := by omega
    have p0 : pt (rQ b e q) (Dq b e q) ≠ 0 := by rcases pt_cases (D := Dq b e q) hr with ⟨_, z⟩ | ⟨_, _, z⟩ | ⟨_, _, z⟩ <;> rw [z] <;> decide
    rcases ways hw with rfl | rfl | rfl | rfl | rfl
    · rw [show itsOf "even" s = "even" by unfold itsOf; rw [if_neg (by decide)], nearQ_even, outw_even p0]
      rcases pt_cases (D := Dq b e q) hr with ⟨x, z⟩ | ⟨x, y, z⟩ | ⟨x, y, z⟩
      · rw [if_pos (k1.mpr x), z, if_pos rfl]
        rcases c01 with c | c
        · rw [if_pos c, c]; exact hlo
        · rw [if_neg (by omega), c]; exact hup
      · rw [if_neg (fun w => y (k1.mp w)), if_pos (k2.mpr x), z]; exact hlo
      · rw [if_neg (fun w => y (k1.mp w)), if_neg (fun w => x (k2.mp w)), z]; exact hup
    · rw [show itsOf "away" s = "away" by unfold itsOf; rw [if_neg (by decide)], nearQ_away, outw_away p0]
      rcases pt_cases (D := Dq b e q) hr with ⟨x, z⟩ | ⟨x, y, z⟩ | ⟨x, y, z⟩
      · rw [if_pos (k1.mpr x), z, if_pos rfl]; exact hup
      · rw [if_neg (fun w => y (k1.mp w)), if_pos (k2.mpr x), z]; exact hlo
      · rw [if_neg (fun w => y (k1.mp w)), if_neg (fun w => x (k2.mp w)), z]; exact hup
    · rw [outw_up p0]
      rcases hs with rfl | rfl
      · rw [show itsOf "up" 0 = "upper" by decide, nearQ_up]; exact hup
      · rw [show itsOf "up" 1 = "lower" by decide, nearQ_lo (.inr rfl)]; exact hlo
    · rw [outw_down p0]
      rcases hs with rfl | rfl
      · rw [show itsOf "down" 0 = "lower" by decide, nearQ_lo (.inr rfl)]; exact hlo
      · rw [show itsOf "down" 1 = "upper" by decide, nearQ_up]; exact hup
    · rw [show itsOf "zero" s = "zero" by unfold itsOf; rw [if_neg (by decide)], nearQ_lo (.inl rfl), outw_zero]; exact hlo
end Lw
set_option exponentiation.threshold 4000
namespace Lw
open PySem PySem.Spec PyProof.Rows L2 Gd Fr
open scoped Rat
section
variable {b p : Nat} {low e : Int} {q : Rat} (h2 : 2 ≤ b) (hp : 2 ≤ p)
include h2
theorem pick_eq {o : Bool} (ho : rQ b e q = 0 → o = false) : (if o = true then (cQ b e q : Rat) + 1 else (cQ b e q : Rat)) * pw b e = q ↔ rQ b e q = 0 := by
  by_cases hr : rQ b e q = 0
  · rw [ho hr, if_neg (by decide)]
    exact ⟨fun _ => hr, fun _ => (lo_eq h2 e q).mpr hr⟩
  · refine ⟨fun h => ?_, fun h => absurd h hr⟩
    cases o with
    | false => rw [if_neg (by decide)] at h; exact (lo_eq h2 e q).mp h
    | true =>
      rw [if_pos rfl] at h
      have := c_up h2 e q
      rw [h] at this
      exact absurd this Rat.lt_irrefl
omit h2 in
theorem outw_r {way : Str} {s c : Int} (hr : rQ b e q = 0) : outw way s c (pt (rQ b e q) (Dq b e q)) = false := by
  unfold outw pt; rw [if_pos hr, if_pos (.inl rfl)]
omit h2 in
theorem pt_zero : pt (rQ b e q) (Dq b e q) = 0 ↔ rQ b e q = 0 := by
  unfold pt
  constructor
  · intro h
    by_cases hr : rQ b e q = 0
    · exact hr
    · rw [if_neg hr] at h
      split at h
      · exact absurd h (by decide)
      · split at h <;> exact absurd h (by decide)
  · intro h; rw [if_pos h]
include hp
theorem tiny_iff (h0 : 0 ≤ q) (hE : IsE b p low q e) : q < pw b (low + p - 1) ↔ cQ b e q < ((b ^ (p - 1) : Nat) : Int) := by
  have e1 : low + p - 1 = ((p - 1 : Nat) : Int) + low := by omega
  rw [e1]
  constructor
  · intro h
    rw [Int.lt_iff_add_one_le]
    refine Decidable.byContradiction fun hc => ?_
    have hc : ((b ^ (p - 1) : Nat) : Int) ≤ cQ b e q := by omega
    have h1 := Rat.mul_le_mul_of_nonneg_right (cast_le.mpr hc) (Rat.le_of_lt (pw_pos h2 e))
    rw [← pw_p h2] at h1
    have h3 : pw b (((p - 1 : Nat) : Int) + low) ≤ pw b (((p - 1 : Nat) : Int) + e) := pw_mono h2 (by have := hE.1; omega)
    exact absurd (ltle h (Rat.le_trans h3 (Rat.le_trans h1 (c_le h2 e q)))) Rat.lt_irrefl
  · intro h
    rcases c_big h2 (by omega) hE with z | z
    · subst z
      refine ltle (c_up h2 e q) ?_
      rw [pw_p h2, ← cast_s]
      exact Rat.mul_le_mul_of_nonneg_right (cast_le.mpr (by omega)) (Rat.le_of_lt (pw_pos h2 e))
    · omega
theorem over_iff {high C E : Int} (hl : low ≤ high) (hC : Can b p low C E) : (((((b ^ p : Nat) : Int) - 1 : Int) : Rat) * pw b high < (C : Rat) * pw b E) ↔ high < E := by
  obtain ⟨a1, a2, a3, a4⟩ := hC
  have e1 : b ^ p = b ^ (p - 1) * b := by rw [← Nat.pow_succ]; congr 1; omega
  constructor
  · intro h
    refine Decidable.byContradiction fun hn => ?_
    have hn : E ≤ high := by omega
    have h1 : (C : Rat) * pw b E ≤ ((((b ^ p : Nat) : Int) - 1 : Int) : Rat) * pw b E := Rat.mul_le_mul_of_nonneg_right (cast_le.mpr (by omega)) (Rat.le_of_lt (pw_pos h2 E))
    have e0 : 0 < b ^ p := Nat.pow_pos (by omega)
    have h3 : (0 : Rat) ≤ ((((b ^ p : Nat) : Int) - 1 : Int) : Rat) := cast_le.mpr (show (0 : Int) ≤ ((b ^ p : Nat) : Int) - 1 by omega)
    have h4 := Rat.mul_le_mul_of_nonneg_left (pw_mono h2 hn) h3
    exact absurd (ltle h (Rat.le_trans h1 h4)) Rat.lt_irrefl
  · intro h
    have z : ((b ^ (p - 1) : Nat) : Int) ≤ C := by rcases a4 with z | z <;> omega
    have h1 : pw b (p + high) ≤ (C : Rat) * pw b E := by
      have h3 := Rat.mul_le_mul_of_nonneg_right (cast_le.mpr z) (Rat.le_of_lt (pw_pos h2 E))
      rw [← pw_p h2] at h3
      exact Rat.le_trans (pw_mono h2 (by omega)) h3
    refine ltle ?_ h1
    rw [pw_p h2, Rat.mul_lt_mul_right (pw_pos h2 high)]
    exact cast_lt.mpr (by omega)
omit h2 in
theorem over_big {high c : Int} {o : Bool} (hb : 2 ≤ b) (hl : low ≤ high) (hC : Can b p low c e) (h : high < (nb b p o c e).2) : ¬ c < ((b ^ (p - 1) : Nat) : Int) := by
  obtain ⟨a1, a2, a3, a4⟩ := hC
  have e1 : b ^ p = b ^ (p - 1) * b := by rw [← Nat.pow_succ]; congr 1; omega
  have p1 : 0 < b ^ (p - 1) := Nat.pow_pos (by omega)
  have p2 : b ^ (p - 1) * 2 ≤ b ^ (p - 1) * b := Nat.mul_le_mul_left _ hb
  unfold nb at h
  split at h
  · unfold upN at h
    split at h
    · omega
    · rcases a4 with z | z <;> simp only at h <;> omega
  · rcases a4 with z | z <;> simp only at h <;> omega
end
end Lw
set_option exponentiation.threshold 20000
namespace Lw
open PySem PySem.Spec PyProof.Rows L2 Gd Fr
open scoped Rat
theorem pow_uniq {b k j w : Nat} (h2 : 2 ≤ b) (h1 : b ^ k ≤ w) (h3 : w < b ^ (k + 1)) (h1' : b ^ j ≤ w) (h3' : w < b ^ (j + 1)) : k = j := by
  have a := (Nat.pow_lt_pow_iff_right (by omega : 1 < b)).mp (Nat.lt_of_le_of_lt h1 h3')
  have c := (Nat.pow_lt_pow_iff_right (by omega : 1 < b)).mp (Nat.lt_of_le_of_lt h1' h3)
  omega
inductive R_within : Rel
  | mk (b w k : Nat) (B : Bag) (h2 : 2 ≤ b) (hw : w < 2 ^ 8900) (h1 : b ^ k ≤ w) (h3 : w < b ^ (k + 1)) : R_within [.da (.int b), .da (.int w)] B (.int k) B
def sqs (b j : Nat) : List PyData := (List.range j).map fun i => .int ((b ^ 2 ^ i : Nat) : Int)
theorem sqs_len (b j : Nat) : (sqs b j).length = j := by unfold sqs; rw [List.length_map, List.length_range]
theorem sqs_succ (b j : Nat) : sqs b j ++ [.int ((b ^ 2 ^ j : Nat) : Int)] = sqs b (j + 1) := by
  unfold sqs; rw [List.range_succ, List.map_append]; rfl
theorem sqs_at {b j i : Nat} {y : PyData} (h : (sqs b j)[i]? = some y) : y = .int ((b ^ 2 ^ i : Nat) : Int) := by
  unfold sqs at h
  rw [List.getElem?_map] at h
  obtain ⟨k, hk, rfl⟩ := Option.map_eq_some_iff.mp h
  have := (List.getElem?_range (by
    have := (List.getElem?_eq_some_iff.mp hk).1
    rwa [List.length_range] at this) : (List.range j)[i]? = some i)
  rw [this] at hk; cases hk; rfl
theorem sq_next (b j : Nat) : ((b ^ 2 ^ j : Nat) : Int) * ((b ^ 2 ^ j : Nat) : Int) = ((b ^ 2 ^ (j + 1) : Nat) : Int) := by
  rw [← Int.natCast_mul, ← Nat.pow_add, Nat.pow_succ, Nat.mul_two]
theorem few_sq {b j w : Nat} (h2 : 2 ≤ b) (hw : w < 2 ^ 8900) (h : ∀ i, i < j → b ^ 2 ^ i ≤ w) : j ≤ 14 := by
  refine Decidable.byContradiction fun hn => ?_
  have h1 := h 14 (by omega)
  have h3 : 2 ^ 2 ^ 14 ≤ b ^ 2 ^ 14 := Nat.pow_le_pow_left h2 _
  have h4 := (Nat.pow_lt_pow_iff_right (by decide : 1 < 2)).mp (Nat.lt_of_le_of_lt (Nat.le_trans h3 h1) hw)
  exact absurd h4 (by decide)
theorem step_yes {b w k m l : Nat} (h2 : 2 ≤ b) (hl : l = w / b ^ (k * 2 ^ (m + 1))) (hlt : l < b ^ 2 ^ (m + 1)) (h1 : 1 ≤ l) (hs : b ^ 2 ^ m ≤ l) :
    l / b ^ 2 ^ m = w / b ^ ((2 * k + 1) * 2 ^ m) ∧ l / b ^ 2 ^ m < b ^ 2 ^ m ∧ 1 ≤ l / b ^ 2 ^ m := by
  have hp : 0 < b ^ 2 ^ m := Nat.pow_pos (by omega)
  refine ⟨?_, ?_, (Nat.one_le_div_iff hp).mpr hs⟩
  · rw [hl, Nat.div_div_eq_div_mul, ← Nat.pow_add]
    congr 2
    rw [Nat.pow_succ]; grind
  · rw [Nat.div_lt_iff_lt_mul hp, ← Nat.pow_add, ← Nat.mul_two, ← Nat.pow_succ]; exact hlt
theorem step_no {b w k m l : Nat} (hl : l = w / b ^ (k * 2 ^ (m + 1))) (hs : ¬ b ^ 2 ^ m ≤ l) : l = w / b ^ ((2 * k) * 2 ^ m) ∧ l < b ^ 2 ^ m := by
  refine ⟨?_, by omega⟩
  rw [hl]; congr 2
  rw [Nat.pow_succ]; grind
theorem log_end {b w k l : Nat} (h2 : 2 ≤ b) (hl : l = w / b ^ (k * 2 ^ 0)) (hlt : l < b ^ 2 ^ 0) (h1 : 1 ≤ l) : b ^ k ≤ w ∧ w < b ^ (k + 1) := by
  rw [Nat.pow_zero, Nat.mul_one] at hl
  rw [Nat.pow_zero, Nat.pow_one] at hlt
  have hp : 0 < b ^ k := Nat.pow_pos (by omega)
  rw [hl] at hlt h1
  refine ⟨(Nat.one_le_div_iff hp).mp h1, ?_⟩
  rw [Nat.div_lt_iff_lt_mul hp] at hlt
  rw [Nat.pow_succ, Nat.mul_comm]; exact hlt
section
variable {b : Nat} (h2 : 2 ≤ b)
include h2
theorem pw_sub (i j : Nat) : pw b ((j : Int) - i) * ((b ^ i : Nat) : Rat) = ((b ^ j : Nat) : Rat) := by
  rw [← pw_nat, ← pw_add h2, ← pw_nat]; congr 1; omega
theorem lt_pw_iff (q : Rat) (i j : Nat) : q < pw b ((j : Int) - i) ↔ q.num * ((b ^ i : Nat) : Int) < (q.den : Int) * ((b ^ j : Nat) : Int) := by
  have hd : (0 : Rat) < ((q.den : Int) : Rat) := cast_lt.mpr (den_pos q)
  have hi : (0 : Rat) < ((b ^ i : Nat) : Rat) := Rat.natCast_pos.mpr (Nat.pow_pos (by omega))
  rw [← Rat.mul_lt_mul_right hi, ← Rat.mul_lt_mul_right hd, pw_sub h2, ← cast_lt, Rat.intCast_mul, Rat.intCast_mul, ← num_den q, Rat.intCast_natCast, Rat.intCast_natCast, Rat.intCast_natCast]
  constructor <;> intro h <;> grind
theorem pw_le_iff (q : Rat) (i j : Nat) : pw b ((j : Int) - i) ≤ q ↔ (q.den : Int) * ((b ^ j : Nat) : Int) ≤ q.num * ((b ^ i : Nat) : Int) := by
  rw [← Rat.not_lt, lt_pw_iff h2, Int.not_lt]
end
inductive R_pbelow : Rel
  | mk (b : Nat) (q : Rat) (k : Int) (n d : Nat) (B : Bag) (h2 : 2 ≤ b) (h0 : 0 < q) (hq : Qz n d q) (hn : n ≤ 8900) (hd : d ≤ 8900) (h1 : pw b k ≤ q) (h3 : q < pw b (k + 1)) : R_pbelow [.da (.int b), .da (fq q)] B (.int k) B
theorem pw_num (b : Nat) (h2 : 2 ≤ b) (e : Int) : (pw b e).num = ((b ^ e.toNat : Nat) : Int) ∧ ((pw b e).den : Int) = ((b ^ (-e).toNat : Nat) : Int) := by
  unfold pw
  by_cases h : e < 0
  · rw [if_pos h, Rat.num_inv, Rat.den_inv, Rat.num_natCast, Rat.den_natCast]
    have hp : 0 < b ^ (-e).toNat := Nat.pow_pos (by omega)
    have e1 : e.toNat = 0 := by omega
    rw [if_neg (by omega), Int.sign_eq_one_of_pos (by omega), e1, Nat.pow_zero, Int.natAbs_natCast]
    exact ⟨rfl, rfl⟩
  · rw [if_neg h, Rat.num_natCast, Rat.den_natCast]
    have e1 : (-e).toNat = 0 := by omega
    rw [e1, Nat.pow_zero]
    exact ⟨rfl, rfl⟩
theorem fq_pw {b : Nat} (h2 : 2 ≤ b) (e : Int) : fq (pw b e) = .tuple [.int ((b ^ e.toNat : Nat) : Int), .int ((b ^ (-e).toNat : Nat) : Int)] := by
  unfold fq; rw [(pw_num b h2 e).1, (pw_num b h2 e).2]
theorem fq_int (n : Int) : fq (n : Rat) = .tuple [.int n, .int 1] := by unfold fq; rw [Rat.num_intCast, Rat.den_intCast]; rfl
inductive R_spot : Rel
  | mk (b p : Nat) (low high : Int) (q : Rat) (n d : Nat) (B : Bag) (F : Fm b p low high) (h0 : 0 < q) (hq : Qz n d q) (hn : n ≤ 8900) (hd : d ≤ 6500) :
      R_spot [.da (fmP b p low high), .da (fq q)] B (.tuple [.int (eQ b p low q), .int (cQ b (eQ b p low q) q), .int (pt (rQ b (eQ b p low q) q) (Dq b (eQ b p low q) q))]) B
inductive R_nearest : Rel
  | mk (b p : Nat) (low high : Int) (way : Str) (s e c part : Int) (B : Bag) (F : Fm b p low high) :
      R_nearest [.da (fmP b p low high), .da (.str way), .da (.int s), .da (.tuple [.int e, .int c, .int part])] B (nm s (nb b p (outw way s c part) c e).1 (nb b p (outw way s c part) c e).2) B
inductive R_outcome : Rel
  | mk (b p : Nat) (low high : Int) (way : Str) (s e c part : Int) (B : Bag) (F : Fm b p low high) :
      R_outcome [.da (fmP b p low high), .da (.str way), .da (.int s), .da (.tuple [.int e, .int c, .int part])] B (outP b p high way s e c part) B
inductive R_toog : Rel
  | mk (b p : Nat) (low high : Int) (way : Str) (s : Int) (B : Bag) (F : Fm b p low high) : R_toog [.da (fmP b p low high), .da (.str way), .da (.int s)] B (tooG b p high way s) B
inductive R_rounded : Rel
  | mk (b p : Nat) (low high : Int) (way : Str) (x : Rat) (s : Int) (n d : Nat) (B : Bag) (F : Fm b p low high) (hw : way ∈ wayList) (hs : s = 0 ∨ s = 1) (hx : Qz n d x) (hn : n ≤ 8900) (hd : d ≤ 6500) :
      R_rounded [.da (fmP b p low high), .da (.str way), .da (fq x), .da (.int s)] B (rdP b p low high way x s) B
inductive Va where
  | nan
  | inf (s : Int)
  | num (s c e : Int)
def Va.tag : Va → Str
  | .nan => "nan"
  | .inf _ => "inf"
  | .num _ _ _ => "num"
def Va.l : Va → List PyData
  | .nan => [.str "nan"]
  | .inf s => [.str "inf", .int s]
  | .num s c e => [.str "num", .int s, .int c, .int e]
def Va.d (v : Va) : PyData := .tuple v.l
theorem Va.at0 (v : Va) : atI v.l 0 = some (.str v.tag) := by cases v <;> rfl
def Va.isNan : Va → Bool
  | .nan => true
  | _ => false
def Va.isInf : Va → Bool
  | .inf _ => true
  | _ => false
def Va.sg : Va → Int
  | .nan => 0
  | .inf s => s
  | .num s _ _ => s
def Va.opp : Va → Va
  | .nan => .nan
  | .inf s => .inf (1 - s)
  | .num s c e => .num (1 - s) c e
def Va.wQ (b : Nat) : Va → Rat
  | .num s c e => ((if s = 1 then -c else c : Int) : Rat) * pw b e
  | _ => 0
theorem tag_inf (v : Va) : decide (v.tag = "inf") = v.isInf := by
  cases v
  · exact decide_eq_false (show ¬ ("nan" : Str) = "inf" by decide)
  · rfl
  · exact decide_eq_false (show ¬ ("num" : Str) = "inf" by decide)
def Vok (b p : Nat) (low high : Int) : Va → Prop
  | .nan => True
  | .inf s => s = 0 ∨ s = 1
  | .num s c e => (s = 0 ∨ s = 1) ∧ 0 ≤ c ∧ c < ((b ^ p : Nat) : Int) ∧ low ≤ e ∧ e ≤ high
theorem Vok.opp {b p : Nat} {low high : Int} {v : Va} (h : Vok b p low high v) : Vok b p low high v.opp := by
  cases v with
  | nan => trivial
  | inf s => show (1 - s = 0 ∨ 1 - s = 1); have h : s = 0 ∨ s = 1 := h; omega
  | num s c e => obtain ⟨h1, h3⟩ := h; exact ⟨by omega, h3⟩
theorem Fm.wz {b p : Nat} {low high : Int} (F : Fm b p low high) {v : Va} (h : Vok b p low high v) : Qz 3040 2341 (v.wQ b) := by
  have z : Qz 3040 2341 0 := ⟨by unfold Bd; exact Nat.pow_pos (by decide), (show Bd 1 (((0 : Rat).den : Nat) : Int) by unfold Bd; decide).le (by decide)⟩
  cases v with
  | nan => exact z
  | inf s => exact z
  | num s c e =>
    obtain ⟨h1, h3, h4, h5, h6⟩ := h
    have hc : Qz 700 1 (((if s = 1 then -c else c : Int)) : Rat) := by
      refine ⟨?_, by rw [Rat.den_intCast]; unfold Bd; decide⟩
      rw [Rat.num_intCast]
      have := F.bp
      unfold Bd
      split <;> omega
    exact hc.mul (F.qz h5 h6)
inductive R_worth : Rel
  | mk (b p : Nat) (low high : Int) (s c e : Int) (B : Bag) (F : Fm b p low high) (h : Vok b p low high (.num s c e)) : R_worth [.da (fmP b p low high), .da (Va.d (.num s c e))] B (fq (Va.wQ b (.num s c e))) B
inductive R_val (f : Va → PyData) (ok : Va → Prop) : Rel
  | mk (v : Va) (B : Bag) (h : ok v) : R_val f ok [.da v.d] B (f v) B
end Lw
set_option exponentiation.threshold 20000
namespace Lw
open PySem PySem.Spec PyProof.Rows L2 Gd Fr
open scoped Rat
theorem isE_zero {b p : Nat} (h2 : 2 ≤ b) (low : Int) : IsE b p low 0 low := ⟨Int.le_refl _, pw_pos h2 _, .inl rfl⟩
theorem cQ_zero (b : Nat) (e : Int) : cQ b e 0 = 0 ∧ rQ b e 0 = 0 := by
  unfold cQ rQ Nq
  rw [show ((0 : Rat).num) = 0 from rfl, Int.zero_mul, Int.zero_ediv, Int.zero_emod]
  exact ⟨rfl, rfl⟩
theorem rdP_zero {b p : Nat} {low high : Int} (h2 : 2 ≤ b) (hl : low ≤ high) (way : Str) (s : Int) : rdP b p low high way 0 s = .tuple [nm s 0 low, .tuple []] := by
  have ha : absQ 0 = 0 := by unfold absQ; rw [if_neg (by decide)]
  unfold rdP
  rw [ha, if_pos rfl, eQ_of h2 (isE_zero (p := p) h2 low), (cQ_zero b low).1]
  have hp : pt (rQ b low 0) (Dq b low 0) = 0 := pt_zero.mpr (cQ_zero b low).2
  rw [hp]
  unfold outP
  have ho : outw way s 0 0 = false := by unfold outw; rw [if_pos (.inl rfl)]
  rw [ho]
  show (if high < low then _ else _) = _
  rw [if_neg (by omega), if_pos rfl]; rfl
theorem rdP_pos {b p : Nat} {low high : Int} {way : Str} {x : Rat} {s : Int} (h : x ≠ 0) :
    rdP b p low high way x s = outP b p high way (sgn x) (eQ b p low (absQ x)) (cQ b (eQ b p low (absQ x)) (absQ x)) (pt (rQ b (eQ b p low (absQ x)) (absQ x)) (Dq b (eQ b p low (absQ x)) (absQ x))) := by
  unfold rdP; rw [if_neg h]
theorem absQ_pos {x : Rat} (h : x ≠ 0) : 0 < absQ x := by unfold absQ; split <;> grind
inductive R_zero : Rel
  | mk (b p : Nat) (low high : Int) (s : Int) (B : Bag) : R_zero [.da (fmP b p low high), .da (.int s)] B (nm s 0 low) B
theorem cut2 (ds : List PyData) (n : Nat) : cutP ds (some (n : Int)) none = ds.drop n := by
  unfold cutP
  rw [HT.sIx_none, HT.sIx_nat]
  by_cases h : n ≤ ds.length
  · rw [Nat.min_eq_left h, List.take_of_length_le (by rw [List.length_drop]; omega)]
  · rw [Nat.min_eq_right (by omega), List.drop_length, List.take_nil, List.drop_of_length_le (by omega)]
theorem opp_d {v : Va} (h : v.isNan = false) : v.opp.d = .tuple ([.str v.tag, .int (1 - v.sg)] ++ v.l.drop 2) := by cases v <;> first | rfl | cases h
theorem at1 {v : Va} (h : v.isNan = false) : atI v.l 1 = some (.int v.sg) := by cases v <;> first | rfl | cases h
theorem e_of_log {b p : Nat} (h2 : 2 ≤ b) {low k : Int} {q : Rat} (h1 : pw b k ≤ q) (h3 : q < pw b (k + 1)) : max low (k - p + 1) = eQ b p low q := by
  refine (eQ_of h2 ⟨by omega, ltle h3 (pw_mono h2 (by omega)), ?_⟩).symm
  by_cases h : k - p + 1 ≤ low
  · exact .inl (by omega)
  · refine .inr ?_
    have e : (p : Int) + max low (k - p + 1) - 1 = k := by omega
    rw [e]; exact h1
theorem log_ex {b : Nat} (h2 : 2 ≤ b) {q : Rat} (h0 : 0 < q) : ∃ k, pw b k ≤ q ∧ q < pw b (k + 1) := by
  -- one digit, from an e far below on
  obtain ⟨m, hm⟩ : ∃ m : Nat, pw b (-(m : Int)) ≤ q := by
    refine ⟨q.den, ?_⟩
    have := (pw_le_iff h2 q q.den 0).mpr (by
      rw [Nat.pow_zero]
      have h1 : q.den < b ^ q.den := Nat.lt_pow_self (by omega)
      have hn : 1 ≤ q.num := by
        have : ¬ q.num ≤ 0 := fun z => by
          have h3 : ¬ 0 < q := fun z2 => by
            have := (Rat.lt_iff 0 q).mp z2
            rw [show (0 : Rat).num = 0 from rfl, Int.zero_mul, show ((0 : Rat).den : Int) = 1 from rfl] at this
            omega
          exact h3 h0
        omega
      have h4 : ((b ^ q.den : Nat) : Int) * 1 ≤ ((b ^ q.den : Nat) : Int) * q.num := Int.mul_le_mul_of_nonneg_left hn (Int.natCast_nonneg _)
      rw [Int.mul_comm q.num]
      show (q.den : Int) * 1 ≤ _
      omega)
    rw [show ((0 : Nat) : Int) - (q.den : Nat) = -(q.den : Int) by omega] at this
    exact this
  obtain ⟨e, h1, h3, h4⟩ := isE_ex (p := 1) h2 (-(m : Int) - 1) q
  refine ⟨(1 : Nat) + e - 1, ?_, ?_⟩
  · rcases h4 with z | z
    · refine Rat.le_trans (pw_mono h2 (by omega)) hm
    · exact z
  · rw [show ((1 : Nat) : Int) + e - 1 + 1 = (1 : Nat) + e by omega]; exact h3
end Lw
namespace Lw
open PySem PySem.Spec PyProof.Rows L2 Gd Fr
theorem in2 (way : Str) : (["even", "away"] : List Str).any (fun s => decide (s = way)) = decide (way = "even" ∨ way = "away") := by
  show (decide (("even" : Str) = way) || (decide (("away" : Str) = way) || false)) = _
  rw [Bool.or_false, Bool.decide_or]
  congr 1 <;> exact decide_eq_decide.mpr ⟨Eq.symm, Eq.symm⟩
theorem isInf_or (way : Str) (s : Int) : ((["even", "away"] : List Str).any (fun s => decide (s = way)) || ((decide (way = "up") && decide (s = 0)) || (decide (way = "down") && decide (s = 1)))) = isInf way s := by
  rw [in2]; unfold isInf; rw [Bool.or_assoc]
end Lw
namespace Lw
open PySem PySem.Spec PyProof.Rows L2 Gd Fr
theorem inf_eqv (s t : Int) : PyData.eqv (.tuple [.str "inf", .int s]) (.tuple [.str "inf", .int t]) = decide (s = t) := by
  simp only [PyData.eqv, PyData.eqvAll]
  by_cases h : s = t
  · subst h; simp
  · simp [h]
end Lw
namespace Lw
open PySem PySem.Spec PyProof.Rows L2 Gd Fr
theorem nice_word {x : Str} (h : (x.cps.all fun c => c < 0x110000) = true) : nice (.str x) = true := by
  simp only [nice]; exact h
end Lw
set_option exponentiation.threshold 20000
namespace Lw
open PySem PySem.Spec PyProof.Rows L2 Gd Fr
open scoped Rat
theorem shaped_fq (x : Rat) : SeqAt.shaped (fq x) = true := shaped_ii _ _
theorem eqv_fq (x y : Rat) : PyData.eqv (fq x) (fq y) = decide (x = y) := by
  unfold fq
  rw [eqv_ii]
  by_cases h : x = y
  · subst h; simp
  · rw [decide_eq_false h, Bool.and_eq_false_iff]
    by_cases h1 : x.num = y.num
    · refine .inr (decide_eq_false fun h3 => h ?_)
      exact Rat.ext h1 (by omega)
    · exact .inl (decide_eq_false h1)
def pickI (ns : List Int) (B : Bag) : Int := ns.getD (tkV B ns.length).toNat 0
theorem pick_int (ns : List Int) (B : Bag) (h : 0 < ns.length) : pick (ns.map .int) B = .int (pickI ns B) := by
  have h0 := tkV_ge B (m := ns.length) (by omega)
  have h1 := tkV_lt B (m := ns.length) (by omega)
  have hlt : (tkV B ns.length).toNat < ns.length := by omega
  unfold pick pickI
  rw [List.length_map, List.getD_eq_getElem?_getD, List.getD_eq_getElem?_getD, List.getElem?_map, List.getElem?_eq_getElem hlt]; rfl
theorem pickI_mem (ns : List Int) (B : Bag) (h : 0 < ns.length) : pickI ns B ∈ ns := by
  have h0 := tkV_ge B (m := ns.length) (by omega)
  have h1 := tkV_lt B (m := ns.length) (by omega)
  have hlt : (tkV B ns.length).toNat < ns.length := by omega
  unfold pickI
  rw [List.getD_eq_getElem?_getD, List.getElem?_eq_getElem hlt]
  exact List.getElem_mem hlt
theorem some_int {X : Cx} {Γ : List VD} {B B1 : Bag} {a b : Expr} {p pos : Pos} {k : Nat} (ns : List Int) (G : Gx k X) (h2 : 5 ≤ k) (c : Cal X.prog X.w X.K X.mg X.base "_law_some" 5 R_some)
    (ha : AJ X Γ B [a, b] [.bag, .da (.list (ns.map .int))] B1) (h : 0 < ns.length) (hl : ns.length ≤ 1000) (hc : Bok B1) (hg : Gl X "_law_some" := by rfl)
    (he : starEach [a, b] X.env = (false, eval a X.env) :: starEach [b] X.env := by rfl) (hpl : (backTo pos (starEach [b] X.env)).any (·.1) = false := by rfl) :
    EJ X Γ B (.Call (.Name "_law_some" p) [a, b] [] pos) (.da (.int (pickI ns B1))) (tkB B1 ns.length) := by
  have r := R_some.mk B1 (ns.map .int) (by rw [List.length_map]; exact h) (by rw [List.length_map]; exact hl) hc
  rw [pick_int ns B1 h, List.length_map] at r
  exact ej_call c (G.le h2) ha r hg (by decide) he hpl
def pickV (vs : List Va) (B : Bag) : Va := vs.getD (tkV B vs.length).toNat .nan
theorem pick_va (vs : List Va) (B : Bag) (h : 0 < vs.length) : pick (vs.map Va.d) B = (pickV vs B).d := by
  have h0 := tkV_ge B (m := vs.length) (by omega)
  have h1 := tkV_lt B (m := vs.length) (by omega)
  have hlt : (tkV B vs.length).toNat < vs.length := by omega
  unfold pick pickV
  rw [List.length_map, List.getD_eq_getElem?_getD, List.getD_eq_getElem?_getD, List.getElem?_map, List.getElem?_eq_getElem hlt]; rfl
theorem pickV_mem (vs : List Va) (B : Bag) (h : 0 < vs.length) : pickV vs B ∈ vs := by
  have h0 := tkV_ge B (m := vs.length) (by omega)
  have h1 := tkV_lt B (m := vs.length) (by omega)
  have hlt : (tkV B vs.length).toNat < vs.length := by omega
  unfold pickV
  rw [List.getD_eq_getElem?_getD, List.getElem?_eq_getElem hlt]
  exact List.getElem_mem hlt
abbrev F4 := Nat × Nat × Int × Int
def F4.d (t : F4) : PyData := fmP t.1 t.2.1 t.2.2.1 t.2.2.2
def F4.ok (t : F4) : Prop := Fm t.1 t.2.1 t.2.2.1 t.2.2.2
def fmB (t : F4) : Bool :=
  decide (2 ≤ t.1) && decide (t.1 < 2 ^ 6) && decide (2 ≤ t.2.1) && decide (t.2.1 ≤ 120) && decide (-1200 ≤ t.2.2.1) && decide (t.2.2.1 ≤ t.2.2.2) && decide (t.2.2.2 ≤ 1200) &&
    decide (t.1 ^ t.2.1 < 2 ^ 700) && decide (t.1 ^ (-t.2.2.1).toNat < 2 ^ 2340) && decide (t.1 ^ t.2.2.2.toNat < 2 ^ 2340)
theorem fm_of {t : F4} (h : fmB t = true) : t.ok := by
  unfold fmB at h
  simp only [Bool.and_eq_true, decide_eq_true_eq] at h
  obtain ⟨⟨⟨⟨⟨⟨⟨⟨⟨a1, a2⟩, a3⟩, a4⟩, a5⟩, a6⟩, a7⟩, a8⟩, a9⟩, a10⟩ := h
  exact ⟨a1, a2, a3, a4, a5, a6, a7, a8, a9, a10⟩
def pickF (ts : List F4) (B : Bag) : F4 := ts.getD (tkV B ts.length).toNat (2, 2, 0, 0)
theorem pick_fm (ts : List F4) (B : Bag) (h : 0 < ts.length) : pick (ts.map F4.d) B = (pickF ts B).d := by
  have h0 := tkV_ge B (m := ts.length) (by omega)
  have h1 := tkV_lt B (m := ts.length) (by omega)
  have hlt : (tkV B ts.length).toNat < ts.length := by omega
  unfold pick pickF
  rw [List.length_map, List.getD_eq_getElem?_getD, List.getD_eq_getElem?_getD, List.getElem?_map, List.getElem?_eq_getElem hlt]; rfl
def smallF : List F4 := [(2, 2, 0, 0), (2, 2, -3, 2), (2, 3, -4, 3), (4, 2, -2, 1), (10, 2, -2, 1), (6, 2, -1, 2), (2, 4, -2, 2)] ++ [(4, 2, 1, 3), (2, 3, 2, 5), (10, 2, -6, -5)]
inductive R_fmt (f : Bag → F4) (g : Bag → Bag) : Rel
  | mk (B : Bag) (hc : Bok B) : R_fmt f g [.bag] B (f B).d (g B)
def smallV (B : Bag) : F4 := pickF smallF B
def smallB (B : Bag) : Bag := tkB B 10
theorem smallB_ok {B : Bag} (h : Bok B) : Bok (smallB B) := tkB_ok h _
def edgesV (b p : Nat) (low high : Int) : List Va :=
  [.num 0 0 low, .num 0 1 low, .num 0 ((b ^ (p - 1) : Nat) - 1) low, .num 0 (b ^ (p - 1) : Nat) low, .num 0 ((b ^ (p - 1) : Nat) + 1) low, .num 0 ((b ^ p : Nat) - 1) low, .num 0 (b ^ (p - 1) : Nat) high, .num 0 ((b ^ p : Nat) - 1) high,
    .num 0 ((b ^ p : Nat) - 1 - 1) high, .num 0 ((b ^ (p - 1) : Nat) + (b ^ (p - 1) : Nat) / 2) high]
structure Pows (b p : Nat) : Prop where
  l2 : 2 ≤ b ^ (p - 1)
  eq : b ^ p = b ^ (p - 1) * b
  ge : b ^ (p - 1) * 2 ≤ b ^ p
theorem Fm.pows {b p : Nat} {low high : Int} (F : Fm b p low high) : Pows b p := by
  have h2 := F.b2; have hp := F.p2
  have e1 : b ^ p = b ^ (p - 1) * b := by rw [← Nat.pow_succ]; congr 1; omega
  refine ⟨?_, e1, by rw [e1]; exact Nat.mul_le_mul_left _ h2⟩
  have h1 : b ^ 1 ≤ b ^ (p - 1) := Nat.pow_le_pow_right (by omega) (by omega)
  rw [Nat.pow_one] at h1; omega
theorem edges_ok {b p : Nat} {low high : Int} (F : Fm b p low high) : ∀ v ∈ edgesV b p low high, ∃ c e, v = .num 0 c e ∧ Vok b p low high (.num 0 c e) := by
  have P := F.pows; have l2 := P.l2; have ge := P.ge; have lh := F.lh
  intro v hv
  unfold edgesV at hv
  simp only [List.mem_cons, List.not_mem_nil, or_false] at hv
  rcases hv with rfl | rfl | rfl | rfl | rfl | rfl | rfl | rfl | rfl | rfl <;> exact ⟨_, _, rfl, .inl rfl, by omega, by omega, by omega, by omega⟩
inductive R_edges : Rel
  | mk (b p : Nat) (low high : Int) (B : Bag) (F : Fm b p low high) : R_edges [.da (fmP b p low high)] B (.list ((edgesV b p low high).map Va.d)) B
def Va.c : Va → Int
  | .num _ c _ => c
  | _ => 0
def Va.e : Va → Int
  | .num _ _ e => e
  | _ => 0
section
variable (b p : Nat) (low high : Int)
def lead : Int := (b ^ (p - 1) : Nat)
def full : Int := (b ^ p : Nat)
def numE (B : Bag) : Int := pickI [low, high, low + tkV B (high - low + 1), min high (max low (-((p : Int) / 2)))] (tkB B (high - low + 1))
def numEB (B : Bag) : Bag := tkB (tkB B (high - low + 1)) 4
def numC (w : Int) (B : Bag) : Int := if w = 2 then pickI [lead b p, lead b p * (b - 1), lead b p + 1, full b p - 1] (tkB B (full b p - lead b p)) else lead b p + tkV B (full b p - lead b p)
def numCB (w : Int) (B : Bag) : Bag := if w = 2 then tkB (tkB B (full b p - lead b p)) 4 else tkB B (full b p - lead b p)
def numC2 (w e c : Int) (B : Bag) : Int := if e = low ∧ w = 3 then tkV B (lead b p) else c
def numC2B (w e : Int) (B : Bag) : Bag := if e = low ∧ w = 3 then tkB B (lead b p) else B
def numB2 (B : Bag) : Bag := tkB (tkB B 6) 2
def numV (B : Bag) : Va :=
  if tkV B 6 < 2 then .num (tkV (tkB B 6) 2) (pickV (edgesV b p low high) (numB2 B)).c (pickV (edgesV b p low high) (numB2 B)).e
  else .num (tkV (tkB B 6) 2) (numC2 b p low (tkV B 6) (numE p low high (numB2 B)) (numC b p (tkV B 6) (numEB low high (numB2 B))) (numCB b p (tkV B 6) (numEB low high (numB2 B)))) (numE p low high (numB2 B))
def numB (B : Bag) : Bag :=
  if tkV B 6 < 2 then tkB (numB2 B) 10 else numC2B b p low (tkV B 6) (numE p low high (numB2 B)) (numCB b p (tkV B 6) (numEB low high (numB2 B)))
end
theorem tkV_2 (B : Bag) : tkV B 2 = 0 ∨ tkV B 2 = 1 := by
  have h0 := tkV_ge B (m := 2) (by decide)
  have h1 := tkV_lt B (m := 2) (by decide)
  omega
section
variable {b p : Nat} {low high : Int} (F : Fm b p low high)
include F
theorem numE_ok (B : Bag) : low ≤ numE p low high B ∧ numE p low high B ≤ high := by
  have lh := F.lh
  have h := pickI_mem [low, high, low + tkV B (high - low + 1), min high (max low (-((p : Int) / 2)))] (tkB B (high - low + 1)) (by show 0 < 4; decide)
  have h0 := tkV_ge B (m := high - low + 1) (by omega)
  have h1 := tkV_lt B (m := high - low + 1) (by omega)
  unfold numE
  generalize pickI [low, high, low + tkV B (high - low + 1), min high (max low (-((p : Int) / 2)))] (tkB B (high - low + 1)) = z at *
  simp only [List.mem_cons, List.not_mem_nil, or_false] at h
  rcases h with rfl | rfl | rfl | rfl <;> omega
theorem lf : 2 ≤ lead b p ∧ lead b p * 2 ≤ full b p ∧ lead b p * (b - 1) = full b p - lead b p := by
  have P := F.pows; have l2 := P.l2; have ge := P.ge
  unfold lead full
  refine ⟨by omega, by omega, ?_⟩
  rw [P.eq, Int.mul_sub, Int.mul_one, Int.natCast_mul]
theorem numC_ok (w : Int) (B : Bag) : 0 ≤ numC b p w B ∧ numC b p w B < full b p := by
  obtain ⟨l2, ge, e1⟩ := lf F
  unfold numC
  split
  · have h := pickI_mem [lead b p, lead b p * (b - 1), lead b p + 1, full b p - 1] (tkB B (full b p - lead b p)) (by show 0 < 4; decide)
    generalize pickI [lead b p, lead b p * (b - 1), lead b p + 1, full b p - 1] (tkB B (full b p - lead b p)) = z at *
    rw [e1] at h
    simp only [List.mem_cons, List.not_mem_nil, or_false] at h
    rcases h with rfl | rfl | rfl | rfl <;> omega
  · have h0 := tkV_ge B (m := full b p - lead b p) (by omega)
    have h1 := tkV_lt B (m := full b p - lead b p) (by omega)
    omega
theorem numC2_ok (w e c : Int) (B : Bag) (h : 0 ≤ c ∧ c < full b p) : 0 ≤ numC2 b p low w e c B ∧ numC2 b p low w e c B < full b p := by
  obtain ⟨l2, ge, e1⟩ := lf F
  unfold numC2
  split
  · have h0 := tkV_ge B (m := lead b p) (by omega)
    have h1 := tkV_lt B (m := lead b p) (by omega)
    omega
  · exact h
theorem numV_ok (B : Bag) : Vok b p low high (numV b p low high B) := by
  unfold numV
  split
  · obtain ⟨c, e, h1, h3, h4⟩ := edges_ok F _ (pickV_mem (edgesV b p low high) (numB2 B) (by show 0 < 10; decide))
    rw [h1]
    exact ⟨tkV_2 _, h4⟩
  · have h1 := numC2_ok F (tkV B 6) (numE p low high (numB2 B)) (numC b p (tkV B 6) (numEB low high (numB2 B))) (numCB b p (tkV B 6) (numEB low high (numB2 B))) (numC_ok F _ _)
    exact ⟨tkV_2 _, h1.1, h1.2, numE_ok F _⟩
end
theorem numC2B_ok {b p : Nat} {low w e : Int} {B : Bag} (h : Bok B) : Bok (numC2B b p low w e B) := by
  unfold numC2B; split
  · exact tkB_ok h _
  · exact h
theorem numCB_ok {b p : Nat} {w : Int} {B : Bag} (h : Bok B) : Bok (numCB b p w B) := by
  unfold numCB; split
  · exact tkB_ok (tkB_ok h _) _
  · exact tkB_ok h _
theorem numB2_ok {B : Bag} (h : Bok B) : Bok (numB2 B) := tkB_ok (tkB_ok h _) _
theorem numEB_ok {low high : Int} {B : Bag} (h : Bok B) : Bok (numEB low high B) := tkB_ok (tkB_ok h _) _
theorem numB_ok {b p : Nat} {low high : Int} {B : Bag} (h : Bok B) : Bok (numB b p low high B) := by
  unfold numB; split
  · exact tkB_ok (numB2_ok h) _
  · exact numC2B_ok (numCB_ok (numEB_ok (numB2_ok h)))
inductive R_draw (f : Nat → Nat → Int → Int → Bag → Va) (g : Nat → Nat → Int → Int → Bag → Bag) : Rel
  | mk (b p : Nat) (low high : Int) (B : Bag) (F : Fm b p low high) (hc : Bok B) : R_draw f g [.bag, .da (fmP b p low high)] B (f b p low high B).d (g b p low high B)
end Lw
set_option exponentiation.threshold 20000
namespace Lw
open PySem PySem.Spec PyProof.Rows L2 Gd Fr
open scoped Rat
theorem two_words {u v : Str} (huv : u ≠ v) (hgt : sortedS [v, u] = false) {xs ns : List Str} (hx : ∀ k, k ∈ xs ↔ k = u ∨ k = v) (h1 : ns.Nodup) (h3 : ∀ k, k ∈ ns ↔ k ∈ xs) (h4 : sortedS ns = true) : ns = [u, v] := by
  have hm : ∀ k, k ∈ ns ↔ k = u ∨ k = v := fun k => (h3 k).trans (hx k)
  match ns, h1, hm, h4 with
  | [], _, hm, _ => exact absurd ((hm u).mpr (.inl rfl)) (by simp)
  | [x], _, hm, _ =>
    have a := (hm u).mpr (.inl rfl)
    have c := (hm v).mpr (.inr rfl)
    simp only [List.mem_singleton] at a c
    exact absurd (a.trans c.symm) huv
  | [x, y], h1, hm, h4 =>
    have a := (hm x).mp (by simp)
    have c := (hm y).mp (by simp)
    have hxy : x ≠ y := fun z => by rw [z] at h1; simp at h1
    rcases a with rfl | rfl <;> rcases c with rfl | rfl
    · exact absurd rfl hxy
    · rfl
    · rw [hgt] at h4; cases h4
    · exact absurd rfl hxy
  | x :: y :: z :: r, h1, hm, _ =>
    have a := (hm x).mp (by simp)
    have c := (hm y).mp (by simp)
    have d := (hm z).mp (by simp)
    simp only [List.nodup_cons, List.mem_cons, not_or] at h1
    obtain ⟨⟨n1, n2, _⟩, ⟨n3, _⟩, _⟩ := h1
    rcases a with rfl | rfl <;> rcases c with rfl | rfl <;> rcases d with rfl | rfl <;> first | exact absurd rfl n1 | exact absurd rfl n2 | exact absurd rfl n3
def flagsL (r c l : Int) : List Str := if r = 0 then [] else if c < l then ["inexact", "tiny"] else ["inexact"]
theorem over_words {r c l : Int} (h : ¬ c < l) : ∀ ns : List Str, ns.Nodup → (∀ k, k ∈ ns ↔ k ∈ flagsL r c l ++ (["inexact", "over"] : List Str)) → sortedS ns = true → ns = (["inexact", "over"] : List Str) := by
  intro ns h1 h3 h4
  refine two_words (u := "inexact") (v := "over") (by decide) (by decide +kernel) (fun k => ?_) h1 h3 h4
  unfold flagsL
  split
  · simp
  · simp
inductive R_grid : Rel
  | mk (b p : Nat) (low high : Int) (q : Rat) (n d : Nat) (B : Bag) (F : Fm b p low high) (h0 : 0 ≤ q) (hq : Qz n d q) (hn : n ≤ 8900) (hd : d ≤ 6500) :
      R_grid [.da (fmP b p low high), .da (fq q)] B (.tuple [.int (cQ b (eQ b p low q) q), .int (eQ b p low q)]) B
inductive R_neigh : Rel
  | mk (b p : Nat) (low high : Int) (q : Rat) (n d : Nat) (B : Bag) (F : Fm b p low high) (h0 : 0 ≤ q) (hq : Qz n d q) (hn : n ≤ 8900) (hd : d ≤ 6500) :
      R_neigh [.da (fmP b p low high), .da (fq q)] B (.tuple [fq (loQ b (eQ b p low q) q), fq (upQ b (eQ b p low q) q), .int (cQ b (eQ b p low q) q), .int (if rQ b (eQ b p low q) q = 0 then cQ b (eQ b p low q) q else cQ b (eQ b p low q) q + 1)]) B
end Lw
namespace Lw
open PySem PySem.Spec PyProof.Rows L2 Gd Fr
open scoped Rat
noncomputable def grQ (b p : Nat) (high : Int) : Rat := ((((b ^ p : Nat) : Int) - 1 : Int) : Rat) * pw b high
inductive R_great : Rel
  | mk (b p : Nat) (low high : Int) (B : Bag) (F : Fm b p low high) : R_great [.da (fmP b p low high)] B (fq (grQ b p high)) B
inductive R_normal : Rel
  | mk (b p : Nat) (low high : Int) (B : Bag) (F : Fm b p low high) : R_normal [.da (fmP b p low high)] B (fq (pw b (low + p - 1))) B
inductive R_nearer : Rel
  | mk (its : Str) (q lo up : Rat) (c : Int) (n d m k : Nat) (B : Bag) (hq : Qz n d q) (hl : Qz m k lo) (hu : Qz m k up) (h1 : n ≤ 9000) (h2 : m ≤ 12000) (h3 : d + k ≤ 8900) :
      R_nearer [.da (.str its), .da (fq q), .da (fq lo), .da (fq up), .da (.int c)] B (fq (nearQ its q lo up c)) B
inductive R_formof : Rel
  | mk (b p : Nat) (low high s C E : Int) (q : Rat) (n d : Nat) (B : Bag) (F : Fm b p low high) (hC : Can b p low C E) (he : q = (C : Rat) * pw b E) (hE : E ≤ high) :
      R_formof [.da (fmP b p low high), .da (.int s), .da (fq q)] B (nm s C E) B
theorem can_e {b p : Nat} (h2 : 2 ≤ b) (hp : 1 ≤ p) {low C E : Int} (h : Can b p low C E) : eQ b p low ((C : Rat) * pw b E) = E ∧ cQ b E ((C : Rat) * pw b E) = C := ⟨eQ_of h2 (can_isE h2 hp h), can_c h2 C E⟩
theorem can_qz {b p : Nat} {low high C E : Int} (F : Fm b p low high) (h : Can b p low C E) (hE : E ≤ high) : Qz 3040 2341 ((C : Rat) * pw b E) ∧ 0 ≤ (C : Rat) * pw b E := by
  obtain ⟨a1, a2, a3, _⟩ := h
  have := F.bp
  have hc : Qz 700 1 (C : Rat) := ⟨by rw [Rat.num_intCast]; unfold Bd; omega, by rw [Rat.den_intCast]; unfold Bd; decide⟩
  refine ⟨hc.mul (F.qz a3 hE), ?_⟩
  have h1 : (0 : Rat) ≤ (C : Rat) := cast_le.mpr a1
  have := Rat.mul_le_mul_of_nonneg_right h1 (Rat.le_of_lt (pw_pos F.b2 E))
  rw [Rat.zero_mul] at this; exact this
theorem great_can {b p : Nat} {low high : Int} (F : Fm b p low high) : Can b p low (((b ^ p : Nat) : Int) - 1) high := by
  have P := F.pows; have l2 := P.l2; have ge := P.ge; have lh := F.lh
  exact ⟨by omega, by omega, lh, .inr (by omega)⟩
end Lw
namespace Lw
open PySem PySem.Spec PyProof.Rows L2 Gd Fr
open scoped Rat
theorem in2' (u v way : Str) : ([u, v] : List Str).any (fun s => decide (s = way)) = decide (way = u ∨ way = v) := by
  show (decide (u = way) || (decide (v = way) || false)) = _
  rw [Bool.or_false, Bool.decide_or]
  congr 1 <;> exact decide_eq_decide.mpr ⟨Eq.symm, Eq.symm⟩
theorem rep_one {n : Nat} (h : n = 0 ∨ n = 1) (x : PyData) : (List.replicate n [x]).flatten = if n = 0 then [] else [x] := by
  rcases h with rfl | rfl <;> rfl
theorem sgn_01 (x : Rat) : sgn x = 0 ∨ sgn x = 1 := by unfold sgn; split <;> simp
end Lw
namespace Lw
open PySem PySem.Spec PyProof.Rows L2 Gd Fr
open scoped Rat
section
variable {b p : Nat} {low high : Int} (F : Fm b p low high)
include F
theorem Fm.pphi {k : Nat} (h : k ≤ p + high.toNat) : b ^ k < 2 ^ 3040 := by
  have h1 := F.bh; have h3 := F.bp
  have h5 : b ^ p * b ^ high.toNat < 2 ^ 700 * 2 ^ 2340 := Nat.mul_lt_mul'' h3 h1
  have h7 : 2 ^ 700 * 2 ^ 2340 = 2 ^ 3040 := by rw [← Nat.pow_add]
  rw [h7, ← Nat.pow_add] at h5
  exact Nat.lt_of_le_of_lt (Nat.pow_le_pow_right (by have := F.b2; omega) h) h5
theorem Fm.nz : Qz 3040 2340 (pw b (low + p - 1)) := by
  have lh := F.lh
  exact pw_bd F.b2 (F.pphi (by omega)) (F.pow_lo (by have := F.p2; omega)) (by decide) (by decide)
theorem Fm.pick_qz {q : Rat} {e : Int} {n d : Nat} (hq : Qz n d q) (h0 : 0 ≤ q) (hE : IsE b p low q e) (o : Bool) : Qz (701 + max n 2340) 2341 ((if o = true then (cQ b e q : Rat) + 1 else (cQ b e q : Rat)) * pw b e) := by
  have hu := F.u_bd hq h0 hE
  have hc0 := c_ge F.b2 h0 e
  have hc1 := c_lt F.b2 hE
  have bp := F.bp
  have hc : Qz 701 1 (if o = true then (cQ b e q : Rat) + 1 else (cQ b e q : Rat)) := by
    split
    · rw [← cast_s]; exact ⟨by rw [Rat.num_intCast]; unfold Bd; omega, by rw [Rat.den_intCast]; unfold Bd; decide⟩
    · exact ⟨by rw [Rat.num_intCast]; unfold Bd; omega, by rw [Rat.den_intCast]; unfold Bd; decide⟩
  exact (hc.mul hu).le (Nat.le_refl _) (by decide)
theorem Fm.lo_qz {q : Rat} {e : Int} {n d : Nat} (hq : Qz n d q) (h0 : 0 ≤ q) (hE : IsE b p low q e) : Qz (701 + max n 2340) 2341 (loQ b e q) := by
  have := F.pick_qz hq h0 hE false
  rw [if_neg (by decide)] at this; exact this
theorem Fm.up_qz {q : Rat} {e : Int} {n d : Nat} (hq : Qz n d q) (h0 : 0 ≤ q) (hE : IsE b p low q e) : Qz (701 + max n 2340) 2341 (upQ b e q) := by
  unfold upQ; split
  · exact F.lo_qz hq h0 hE
  · have := F.pick_qz hq h0 hE true
    rw [if_pos rfl, ← cast_s] at this; exact this
end
theorem its_in {way : Str} {s : Int} (h : way = "up" ∨ way = "down") : itsOf way s = if decide (way = "up") = decide (s = 0) then ("upper" : Str) else ("lower" : Str) := by unfold itsOf; rw [if_pos h]
theorem its_out {way : Str} {s : Int} (h : ¬ (way = "up" ∨ way = "down")) : itsOf way s = way := by unfold itsOf; rw [if_neg h]
end Lw
set_option exponentiation.threshold 20000
namespace Lw
open PySem PySem.Spec PyProof.Rows L2 Gd Fr
open scoped Rat
structure Nd (D W : Nat) (d : PyData) : Prop where
  ni : nice d = true
  dp : d.depth ≤ D
  bk : d.bulk ≤ W
structure NdA (D W : Nat) (ds : List PyData) : Prop where
  ni : niceAll ds = true
  dp : PyData.depthAll ds ≤ D
  bk : PyData.bulkAll ds ≤ W
theorem NdA.nil {D W : Nat} : NdA D W [] := ⟨niceAll_nil, by simp only [PyData.depthAll]; omega, by simp only [PyData.bulkAll]; omega⟩
theorem NdA.cons {D W W' : Nat} {d : PyData} {ds : List PyData} (h : Nd D W d) (r : NdA D W' ds) : NdA D (W + 1 + W') (d :: ds) :=
  ⟨niceAll_cons h.ni r.ni, by have := h.dp; have := r.dp; simp only [PyData.depthAll]; omega, by have := h.bk; have := r.bk; simp only [PyData.bulkAll]; omega⟩
theorem NdA.le {D W D' W' : Nat} {ds : List PyData} (h : NdA D W ds) (e : D ≤ D') (f : W ≤ W') : NdA D' W' ds := ⟨h.ni, Nat.le_trans h.dp e, Nat.le_trans h.bk f⟩
theorem Nd.le {D W D' W' : Nat} {d : PyData} (h : Nd D W d) (e : D ≤ D') (f : W ≤ W') : Nd D' W' d := ⟨h.ni, Nat.le_trans h.dp e, Nat.le_trans h.bk f⟩
theorem Nd.list {D W : Nat} {ds : List PyData} (h : NdA D W ds) : Nd (D + 1) W (.list ds) := ⟨nice_list h.ni, by have := h.dp; simp only [PyData.depth]; omega, by have := h.bk; simp only [PyData.bulk]; omega⟩
theorem Nd.tuple {D W : Nat} {ds : List PyData} (h : NdA D W ds) : Nd (D + 1) W (.tuple ds) := ⟨nice_tuple h.ni, by have := h.dp; simp only [PyData.depth]; omega, by have := h.bk; simp only [PyData.bulk]; omega⟩
theorem Nd.int {n : Nat} {i : Int} (h : Bd n i) (e : n ≤ 1920 := by decide) : Nd 1 0 (.int i) := ⟨nice_int h e, by simp only [PyData.depth]; omega, by simp only [PyData.bulk]; omega⟩
theorem Nd.str {x : Str} (h : (x.cps.all fun c => c < 0x110000) = true) (h2 : x.cps.size ≤ 20) : Nd 1 20 (.str x) := ⟨nice_word h, by simp only [PyData.depth]; omega, by simp only [PyData.bulk]; exact h2⟩
theorem Nd.bool {x : Bool} : Nd 1 0 (.bool x) := ⟨by simp only [nice], by simp only [PyData.depth]; omega, by simp only [PyData.bulk]; omega⟩
theorem Nd.none : Nd 1 0 .none := ⟨by simp only [nice], by simp only [PyData.depth]; omega, by simp only [PyData.bulk]; omega⟩
theorem Nd.okd {D W : Nat} {d : PyData} (h : Nd D W d) (e : D ≤ 60 := by decide) (f : W ≤ 5000 := by decide) : Okd d := ⟨h.ni, Nat.le_trans h.dp e, Nat.le_trans h.bk f⟩
section
variable {b p : Nat} {low high : Int} (F : Fm b p low high)
include F
theorem nm_nd {s c e : Int} (hs : s = 0 ∨ s = 1) (h0 : 0 ≤ c) (h1 : c < ((b ^ p : Nat) : Int)) (h3 : low ≤ e) (h4 : e ≤ high) : Nd 2 40 (nm s c e) := by
  have lo := F.lo; have hi := F.hi; have bp := F.bp
  exact (Nd.tuple (NdA.cons (Nd.str (by decide +kernel) (by decide +kernel)) (NdA.cons (Nd.int (n := 2) (by unfold Bd; omega)) (NdA.cons (Nd.int (n := 700) (by unfold Bd; omega)) (NdA.cons (Nd.int (n := 12) (by unfold Bd; omega)) (NdA.nil (W := 0))))))).le (Nat.le_refl _) (by decide)
theorem va_nd {v : Va} (h : Vok b p low high v) : Nd 2 40 v.d := by
  cases v with
  | nan => exact (Nd.tuple (NdA.cons (Nd.str (by decide +kernel) (by decide +kernel)) (NdA.nil (W := 0)))).le (Nat.le_refl _) (by decide)
  | inf s =>
    have h : s = 0 ∨ s = 1 := h
    exact (Nd.tuple (NdA.cons (Nd.str (by decide +kernel) (by decide +kernel)) (NdA.cons (Nd.int (n := 2) (by unfold Bd; omega)) (NdA.nil (W := 0))))).le (Nat.le_refl _) (by decide)
  | num s c e => obtain ⟨h1, h3, h4, h5, h6⟩ := h; exact nm_nd F h1 h3 h4 h5 h6
end
def Va.isNum : Va → Bool
  | .num _ _ _ => true
  | _ => false
section
variable (b p : Nat) (low high : Int)
end
end Lw
set_option exponentiation.threshold 20000
namespace Lw
open PySem PySem.Spec PyProof.Rows L2 Gd Fr
open scoped Rat
def Va.isZ : Va → Bool
  | .num _ c _ => decide (c = 0)
  | _ => false
section
variable {b p : Nat} {low high : Int} (F : Fm b p low high)
include F
end
def outV (b p : Nat) (high : Int) (way : Str) (s e c part : Int) : Va :=
  if high < (nb b p (outw way s c part) c e).2 then (if isInf way s = true then .inf s else .num s (((b ^ p : Nat) : Int) - 1) high)
  else .num s (nb b p (outw way s c part) c e).1 (nb b p (outw way s c part) c e).2
def outF (b p : Nat) (high : Int) (way : Str) (s e c part : Int) : List Str :=
  if high < (nb b p (outw way s c part) c e).2 then ["inexact", "over"] else if part = 0 then [] else if c < ((b ^ (p - 1) : Nat) : Int) then ["inexact", "tiny"] else ["inexact"]
theorem outP_eq (b p : Nat) (high : Int) (way : Str) (s e c part : Int) : outP b p high way s e c part = .tuple [(outV b p high way s e c part).d, words (outF b p high way s e c part)] := by
  unfold outP outV outF
  split
  · unfold tooG; split <;> rfl
  · split
    · rfl
    · split <;> rfl
noncomputable def rdV (b p : Nat) (low high : Int) (way : Str) (x : Rat) (s : Int) : Va :=
  outV b p high way (if x = 0 then s else sgn x) (eQ b p low (absQ x)) (cQ b (eQ b p low (absQ x)) (absQ x)) (pt (rQ b (eQ b p low (absQ x)) (absQ x)) (Dq b (eQ b p low (absQ x)) (absQ x)))
noncomputable def rdF (b p : Nat) (low high : Int) (way : Str) (x : Rat) (s : Int) : List Str :=
  outF b p high way (if x = 0 then s else sgn x) (eQ b p low (absQ x)) (cQ b (eQ b p low (absQ x)) (absQ x)) (pt (rQ b (eQ b p low (absQ x)) (absQ x)) (Dq b (eQ b p low (absQ x)) (absQ x)))
theorem rdP_eq (b p : Nat) (low high : Int) (way : Str) (x : Rat) (s : Int) : rdP b p low high way x s = .tuple [(rdV b p low high way x s).d, words (rdF b p low high way x s)] := outP_eq _ _ _ _ _ _ _ _
section
variable (b p : Nat) (low high : Int)
end
section
variable {b p : Nat} {low high : Int} (F : Fm b p low high)
include F
end
end Lw
namespace Lw
open PySem PySem.Spec PyProof.Rows L2 Gd Fr
end Lw
set_option exponentiation.threshold 20000
namespace Lw
open PySem PySem.Spec PyProof.Rows L2 Gd Fr
open scoped Rat
theorem den_le {q : Rat} {m : Int} {N : Nat} (hN : 0 < N) (h : q * (N : Rat) = (m : Rat)) : q.den ≤ N := by
  have hne : ((N : Int) : Rat) ≠ 0 := fun z => by
    have e0 : (N : Int) = 0 := Rat.intCast_inj.mp (z.trans (by rfl))
    omega
  have e : q = m /. (N : Int) := by
    rw [Rat.divInt_eq_div, ← h, ← Rat.intCast_natCast]
    exact (Rat.mul_div_cancel hne).symm
  rw [e, Rat.den_divInt, if_neg (by omega), Int.natAbs_natCast]
  exact Nat.div_le_self _ _
section
variable (b p : Nat) (low high : Int)
end
end Lw
namespace Gd
open PySem PySem.Spec PyProof.Rows L2
section
variable {X : Cx} {i : Nat} {Γ : List VD} {B B1 B2 B' : Bag} {acc ds : List PyData} {e a b c : Expr} {es : List Expr} {d da db : VD} {y : PyData} {pos p p1 p2 p3 pos' : Pos} {rest ss s1 s2 : List Stmt} {E : EnO} {Es : En}
theorem Own.set {K : PySem.W.Frag} {g : Gh} {A0 A1 : Hp} {a : Addr} {σ : L2.St} {H0 H : Hp} (w : Own K i g A0 A1 a B Γ acc σ H0 H) (j : Nat) (hij : j ≠ i) {v : V} (r : Rv K g H0 v d) : Own K i g A0 A1 a B (Γ.set j d) acc (σ.set j (some v)) H0 H :=
  ⟨w.to, w.fr, w.off, w.ev.set j r, by rw [List.getElem?_set_ne hij]; exact w.at', w.no, w.ls, w.on⟩
theorem ow_forL (j : Nat) {x : Str} {px : Pos} (nd : X.N.Nodup) (hc : X.calm = true) (hij : j ≠ i) (P : Nat → List VD → Bag → List PyData → Prop) (hi : EJ X Γ B e (.da (.list ds)) B1) (h0 : P 0 Γ B1 acc)
    (hs : ∀ k y Γ' B' acc', ds[k]? = some y → P k Γ' B' acc' → OwJ X i (Γ'.set j (.da y)) B' acc' s1 { nx := P (k + 1), fx := fun _ _ => False, ct := P (k + 1), rt := E.rt })
    (hd : ∀ Γ' B' acc', P ds.length Γ' B' acc' → OwJ X i Γ' B' acc' rest E) (hN : X.N[j]? = some x := by rfl) (hx : Loc X.env.scope x := by first | exact Or.inl rfl | exact Or.inr rfl)
    (hf : X.fn x = true ∨ X.env.scope.names.lookup x = some .local := by first | exact Or.inl rfl | exact Or.inr rfl)
    (hp : PassesOwn (model X.prog X.w) X.A X.env X.xe := by exact PassesOwn.never) (hq : ∀ x, foldedSetIterable e X.env x = pure x := by intro _; rfl) :
    OwJ X i Γ B acc (.For (.Name x px) e s1 [] pos :: rest) E := fun g σ A0 A1 a H0 H w D G =>
  ⟨_, pss_cons (ps_for hp hc (pi_list (we e)) (pg_name nd hN hx hf) (ws s1) hq) (ws rest), hi g σ H0 H w.ev w.on _ fun v H1 H' t o r => by
    obtain ⟨q, xs, rfl, hxs, rs⟩ := rvL r
    have w1 := w.step t o
    refine ⟨q, rfl, ⟨xs, SqL.of (o.ex _ _ hxs)⟩, ?_⟩
    refine for_list (xs := xs) (fun k σ' H'' => ∃ Γ' B' acc' H2, P k Γ' B' acc' ∧ Same H1 H2 ∧ Own X.K i g A0 A1 a B' Γ' acc' σ' H2 H'') ⟨Γ, B1, acc, H1, h0, Same.refl _, w1⟩ ?_ ?_ ?_
    · rintro k σ' H'' _ ⟨Γ', B', acc', H2, _, sm, w2⟩
      exact SqL.of (w2.on.ex _ _ (sm _ _ hxs))
    · rintro k y σ' H'' hy ⟨Γ', B', acc', H2, hP, sm, w2⟩
      obtain ⟨d, hdi, rd⟩ := rs.get hy
      exact hs k d Γ' B' acc' hdi hP g _ A0 A1 a H2 H'' (w2.set j hij (Rp.mono sm rd)) _ ⟨fun Γ3 B3 acc3 σ3 H3 H3' q w3 m => ⟨Γ3, B3, acc3, H3, q, sm.trans m, w3⟩, fun _ _ _ _ _ q => q.elim, fun r B3 v H3 H3' q t3 o3 rv => G.rt r B3 v H3 H3' q t3 o3 rv,
        fun _ _ _ _ _ _ q => q.elim, fun Γ3 B3 acc3 σ3 H3 H3' q w3 m => ⟨Γ3, B3, acc3, H3, q, sm.trans m, w3⟩, fun _ _ _ _ _ _ q => q.elim, fun _ _ _ _ _ q => q.elim⟩
    · rintro σ' H'' ⟨Γ', B', acc', H2, hP, sm, w2⟩
      rw [rs.length] at hP
      exact hd Γ' B' acc' hP g σ' A0 A1 a H2 H'' w2 D (G.on (t.ex.trans sm))⟩
theorem ow_forT (j : Nat) {x : Str} {px : Pos} (nd : X.N.Nodup) (hc : X.calm = true) (hij : j ≠ i) (P : Nat → List VD → Bag → List PyData → Prop) (hi : EJ X Γ B e (.da (.tuple ds)) B1) (h0 : P 0 Γ B1 acc)
    (hs : ∀ k y Γ' B' acc', ds[k]? = some y → P k Γ' B' acc' → OwJ X i (Γ'.set j (.da y)) B' acc' s1 { nx := P (k + 1), fx := fun _ _ => False, ct := P (k + 1), rt := E.rt })
    (hd : ∀ Γ' B' acc', P ds.length Γ' B' acc' → OwJ X i Γ' B' acc' rest E) (hN : X.N[j]? = some x := by rfl) (hx : Loc X.env.scope x := by first | exact Or.inl rfl | exact Or.inr rfl)
    (hf : X.fn x = true ∨ X.env.scope.names.lookup x = some .local := by first | exact Or.inl rfl | exact Or.inr rfl)
    (hp : PassesOwn (model X.prog X.w) X.A X.env X.xe := by exact PassesOwn.never) (hq : ∀ x, foldedSetIterable e X.env x = pure x := by intro _; rfl) :
    OwJ X i Γ B acc (.For (.Name x px) e s1 [] pos :: rest) E := fun g σ A0 A1 a H0 H w D G =>
  ⟨_, pss_cons (ps_for hp hc (pi_tup (we e)) (pg_name nd hN hx hf) (ws s1) hq) (ws rest), hi g σ H0 H w.ev w.on _ fun v H1 H' t o r => by
    obtain ⟨q, xs, rfl, hxs, rs⟩ := rvT r
    have w1 := w.step t o
    refine ⟨q, rfl, ⟨xs, seqT o.ex hxs⟩, ?_⟩
    refine for_tup (xs := xs) (fun k σ' H'' => ∃ Γ' B' acc' H2, P k Γ' B' acc' ∧ Same H1 H2 ∧ Own X.K i g A0 A1 a B' Γ' acc' σ' H2 H'') ⟨Γ, B1, acc, H1, h0, Same.refl _, w1⟩ ?_ ?_ ?_
    · rintro k σ' H'' _ ⟨Γ', B', acc', H2, _, sm, w2⟩
      exact seqT w2.on.ex (seqT sm hxs)
    · rintro k y σ' H'' hy ⟨Γ', B', acc', H2, hP, sm, w2⟩
      obtain ⟨d, hdi, rd⟩ := rs.get hy
      exact hs k d Γ' B' acc' hdi hP g _ A0 A1 a H2 H'' (w2.set j hij (Rp.mono sm rd)) _ ⟨fun Γ3 B3 acc3 σ3 H3 H3' q w3 m => ⟨Γ3, B3, acc3, H3, q, sm.trans m, w3⟩, fun _ _ _ _ _ q => q.elim, fun r B3 v H3 H3' q t3 o3 rv => G.rt r B3 v H3 H3' q t3 o3 rv,
        fun _ _ _ _ _ _ q => q.elim, fun Γ3 B3 acc3 σ3 H3 H3' q w3 m => ⟨Γ3, B3, acc3, H3, q, sm.trans m, w3⟩, fun _ _ _ _ _ _ q => q.elim, fun _ _ _ _ _ q => q.elim⟩
    · rintro σ' H'' ⟨Γ', B', acc', H2, hP, sm, w2⟩
      rw [rs.length] at hP
      exact hd Γ' B' acc' hP g σ' A0 A1 a H2 H'' w2 D (G.on (t.ex.trans sm))⟩
end
end Gd
namespace Gd
open PySem PySem.Spec PyProof.Rows L2
section
variable {X : Cx} {i : Nat} {Γ : List VD} {B B1 B2 B3 : Bag} {e0 e2 e3 : Expr} {d0 d2 d3 : PyData} {pos pl pt2 : Pos} {rest : List Stmt} {Es : En}
end
end Gd
set_option exponentiation.threshold 20000
namespace Lw
open PySem PySem.Spec PyProof.Rows L2 Gd Fr
open scoped Rat
theorem NdA.all {D W : Nat} : ∀ {ds : List PyData}, (∀ d ∈ ds, Nd D W d) → NdA D ((W + 1) * ds.length) ds
  | [], _ => NdA.nil
  | d :: ds, h => by
    have := NdA.cons (h d List.mem_cons_self) (NdA.all fun e he => h e (List.mem_cons_of_mem _ he))
    exact this.le (Nat.le_refl _) (by rw [List.length_cons, Nat.mul_succ]; omega)
theorem _root_.Gd.pgN {X : Cx} {x : Str} {pos : Pos} (i : Nat) (nd : X.N.Nodup) (hi : X.N[i]? = some x := by rfl) (hx : Loc X.env.scope x := by first | exact Or.inl rfl | exact Or.inr rfl)
    (hf : X.fn x = true ∨ X.env.scope.names.lookup x = some .local := by first | exact .inl rfl | exact .inr rfl) : PG X (.Name x pos) (gName i) := pg_name nd hi hx hf
theorem cutN (ds : List PyData) (n : Nat) (h : n ≤ ds.length) : cutP ds none (some (n : Int)) = ds.take n := by
  unfold cutP
  rw [HT.sIx_none, HT.sIx_nat, List.drop_zero, Nat.sub_zero, Nat.min_eq_left h]
end Lw
namespace Gd
open PySem PySem.Spec PyProof.Rows L2
section
variable {X : Cx} {i : Nat} {Γ : List VD} {B B1 B2 B' : Bag} {acc ds ys : List PyData} {e a b c : Expr} {es : List Expr} {d da db : VD} {y : PyData} {pos p p1 p2 p3 pos' : Pos} {rest ss s1 s2 : List Stmt} {E : EnO} {Es : En}
section
variable {elt : Expr} {scope : Scope} {j : Nat} {x : Str} {px : Pos}
end
end
end Gd
set_option exponentiation.threshold 20000
namespace Lw
open PySem PySem.Spec PyProof.Rows L2 Gd Fr
open scoped Rat
end Lw
set_option exponentiation.threshold 20000
namespace Lw
open PySem PySem.Spec PyProof.Rows L2 Gd Fr
open scoped Rat
theorem gap_mul (x : Rat) (f : Int) : (x - (f : Rat)) * ((x.den : Int) : Rat) = ((x.num - f * (x.den : Int) : Int) : Rat) := by
  have h := num_den x
  rw [Rat.intCast_sub, Rat.intCast_mul, ← h]; grind
theorem denQ_pos (x : Rat) : (0 : Rat) < ((x.den : Int) : Rat) := Rat.intCast_pos.mpr (den_pos x)
theorem fl (x : Rat) : ∃ g : Rat, x = ((x.num / (x.den : Int) : Int) : Rat) + g ∧ 0 ≤ g ∧ g < 1 ∧ x - ((x.num / (x.den : Int) : Int) : Rat) = g := by
  refine ⟨x - ((x.num / (x.den : Int) : Int) : Rat), by grind, ?_, ?_, rfl⟩
  · have h := gap_mul x (x.num / (x.den : Int))
    have h1 := Int.emod_add_mul_ediv x.num (x.den : Int)
    have h2 := Int.emod_nonneg x.num (Int.ne_of_gt (den_pos x))
    have h3 : (0 : Rat) ≤ (x - ((x.num / (x.den : Int) : Int) : Rat)) * ((x.den : Int) : Rat) := by
      rw [h]; exact Rat.intCast_nonneg.mpr (by rw [Int.mul_comm]; omega)
    refine Rat.not_lt.mp fun z => ?_
    have := (Rat.mul_lt_mul_right (denQ_pos x)).mpr z
    rw [Rat.zero_mul] at this
    exact absurd (ltle this h3) Rat.lt_irrefl
  · have h := gap_mul x (x.num / (x.den : Int))
    have h1 := Int.emod_add_mul_ediv x.num (x.den : Int)
    have h2 := Int.emod_lt_of_pos x.num (den_pos x)
    refine (Rat.mul_lt_mul_right (denQ_pos x)).mp ?_
    rw [h, Rat.one_mul]
    exact cast_lt.mpr (by rw [Int.mul_comm]; omega)
end Lw
set_option exponentiation.threshold 20000
namespace Lw
open PySem PySem.Spec PyProof.Rows L2 Gd Fr
open scoped Rat
theorem absQ_neg (x : Rat) : absQ (-x) = absQ x := by unfold absQ; split <;> split <;> grind
theorem absQ_mul_pos (x : Rat) {y : Rat} (h : 0 < y) : absQ (x * y) = absQ x * y := by
  have k := Rat.mul_lt_mul_right (a := x) (b := 0) h
  rw [Rat.zero_mul] at k
  unfold absQ
  by_cases hx : x < 0
  · rw [if_pos hx, if_pos (k.mpr hx)]; grind
  · rw [if_neg hx, if_neg (fun z => hx (k.mp z))]
theorem absQ_cast (k : Int) : absQ (k : Rat) = ((k.natAbs : Int) : Rat) := by
  unfold absQ
  by_cases h : (k : Rat) < 0
  · have : k < 0 := cast_lt.mp (show (k : Rat) < ((0 : Int) : Rat) from h)
    rw [if_pos h, ← Rat.intCast_neg]; congr 1; omega
  · have : ¬ k < 0 := fun z => h (show (k : Rat) < ((0 : Int) : Rat) from cast_lt.mpr z)
    rw [if_neg h]; congr 1; omega
end Lw
set_option exponentiation.threshold 20000
namespace Lw
open PySem PySem.Spec PyProof.Rows L2 Gd Fr
open scoped Rat
theorem wQ_mult {b : Nat} (h2 : 2 ≤ b) {s c e m : Int} (hm : m ≤ e) : (Va.num s c e).wQ b = (((if s = 1 then -c else c) * ((b ^ (e - m).toNat : Nat) : Int) : Int) : Rat) * pw b m := by
  show ((if s = 1 then -c else c : Int) : Rat) * pw b e = _
  rw [Rat.intCast_mul, Rat.mul_assoc, Rat.intCast_natCast, ← pw_of (b := b) (e := e - m) (by omega), ← pw_add h2, show e - m + m = e by omega]
theorem absQ_w {b : Nat} (h2 : 2 ≤ b) {s c e : Int} (h0 : 0 ≤ c) : absQ ((Va.num s c e).wQ b) = (c : Rat) * pw b e := by
  show absQ (((if s = 1 then -c else c : Int) : Rat) * pw b e) = _
  rw [absQ_mul_pos _ (pw_pos h2 e), absQ_cast]
  congr 2
  split <;> omega
theorem sgn_eq (x : Rat) : sgn x = if x < 0 then 1 else 0 := by
  unfold sgn
  by_cases h : x < 0
  · rw [if_pos h, if_pos ((num_neg_iff x).mpr h)]
  · rw [if_neg h, if_neg (fun z => h ((num_neg_iff x).mp z))]
section
variable (b p : Nat) (low high : Int)
end
end Lw
set_option exponentiation.threshold 20000
namespace Lw
open PySem PySem.Spec PyProof.Rows L2 Gd Fr
open scoped Rat
section
variable (b p : Nat) (low high : Int)
end
section
variable {b p : Nat} {low high : Int} (F : Fm b p low high)
include F
end
end Lw
namespace Gd
open PySem PySem.Spec PyProof.Rows L2
section
variable {X : Cx} {i : Nat} {Γ : List VD} {B B1 B2 B' : Bag} {acc ds ys : List PyData} {e a b c : Expr} {es : List Expr} {d da db : VD} {y : PyData} {pos p p1 p2 p3 pos' : Pos} {rest ss s1 s2 : List Stmt} {E : EnO} {Es : En}
def isNone : PyData → Bool
  | .none => true
  | _ => false
theorem rv_non {K : PySem.W.Frag} {H : Hp} {v : V} {y : PyData} (h : Rp K H v y) : decide (v = V.non) = isNone y := by
  cases h with
  | non => rfl
  | bl b => rfl
  | int i => rfl
  | str x => rfl
  | lst _ _ => rfl
  | tup _ _ => rfl
  | dct _ => rfl
  | dctT _ _ => rfl
theorem tj_isN {j} (ha : EJ X Γ B a (.da y) B1) : TJ X Γ B (.Compare a [.Is] [.Constant .none j pos'] pos) (isNone y) B1 :=
  tj_cmp ha ej_non op_isN (nomark _) fun g v w H0 H O r1 r2 Q q => by
    have r2 : Rp X.K H0 w .none := r2
    cases r2
    refine ⟨rfl, ?_⟩
    rw [rv_non (show Rp X.K H0 v y from r1)]; exact q _ _ To.refl O
theorem call_reprN : CallR X (.builtin "repr") (fun xs H Q => xs = [.non] ∧ Q (.str "None") H) := by
  intro pins s σ H xs us Q I r h
  obtain ⟨rfl, q⟩ := h
  obtain ⟨u, rfl, rfl⟩ := vals1 r
  exact PySem.P.repr_of_none ⟨.str _, H, I.tok _, ⟨_, rfl⟩, q⟩
theorem ej_reprN (hm : X.mg "repr" = none) (ha : EJ X Γ B a (.da .none) B1) (hs : starEach [a] X.env = [(false, eval a X.env)] := by rfl) (hg : Gl X "repr" := by rfl) :
    EJ X Γ B (.Call (.Name "repr" p) [a] [] pos) (.da (.str "None")) B1 :=
  ej_callB call_reprN hm (aj_cons ha aj_nil hs) (fun gh vs H0 H O r Q q => by
    obtain ⟨v, rfl, h⟩ := rv1 r
    have h : Rp X.K H0 v .none := h
    cases h
    exact ⟨rfl, q _ _ _ To.refl O (Rp.str _)⟩) (hg := hg) (he := hs)
end
end Gd
namespace Gd
open PySem PySem.Spec PyProof.Rows L2
mutual
def niceB : PyData → Bool
  | .none => true
  | .bool _ => true
  | .int i => decide (Nat.log2 i.natAbs < 12900)
  | .str x => x.cps.all fun c => c < 0x110000
  | .list xs => niceBAll xs
  | .tuple xs => niceBAll xs
  | .dict _ => false
def niceBAll : List PyData → Bool
  | [] => true
  | x :: xs => niceB x && niceBAll xs
end
theorem big_lt {i : Int} (h : Nat.log2 i.natAbs < 12900) : i.natAbs < 10 ^ 4300 := Nat.lt_of_lt_of_le (lt_of_log2 h) pow_lo
section
variable {prog : Program} {w : World} {A : Around} {E : Value → Shared → Prop} {s : Shared} {h₀ : Heap}
end
mutual
theorem niceB_lay : ∀ d : PyData, niceB d = true → d.canLay0 = true ∧ d.leavesShort 4301 = true
  | .none, _ => ⟨by simp only [PyData.canLay0], by simp only [PyData.leavesShort]⟩
  | .bool _, _ => ⟨by simp only [PyData.canLay0], by simp only [PyData.leavesShort]⟩
  | .int i, h => ⟨by simp only [PyData.canLay0], by
    simp only [niceB, decide_eq_true_eq] at h
    simp only [PyData.leavesShort, decide_eq_true_eq, PyData.shown_int]; rw [PySem.ofString_length]
    exact int_text_length_le10 (k := 4300) (by decide) (big_lt h)⟩
  | .str x, h => by
    simp only [niceB] at h
    refine ⟨by simp only [PyData.canLay0]; exact h, ?_⟩
    simp only [PyData.leavesShort, List.all_eq_true, decide_eq_true_eq]; intro c hc
    have h3 : c < 0x110000 := of_decide_eq_true (Array.all_eq_true'.mp h c (by simpa using hc))
    omega
  | .list xs, h => by simp only [niceB] at h; simp only [PyData.canLay0, PyData.leavesShort]; exact niceB_layA xs h
  | .tuple xs, h => by simp only [niceB] at h; simp only [PyData.canLay0, PyData.leavesShort]; exact niceB_layA xs h
  | .dict _, h => by simp only [niceB] at h; cases h
theorem niceB_layA : ∀ ds : List PyData, niceBAll ds = true → PyData.canLayAll0 ds = true ∧ PyData.leavesShortAll 4301 ds = true
  | [], _ => ⟨by simp only [PyData.canLayAll0], by simp only [PyData.leavesShortAll]⟩
  | x :: xs, h => by
    simp only [niceBAll, Bool.and_eq_true] at h
    have a := niceB_lay x h.1
    have c := niceB_layA xs h.2
    simp only [PyData.canLayAll0, PyData.leavesShortAll, Bool.and_eq_true]; exact ⟨⟨a.1, c.1⟩, a.2, c.2⟩
end
structure OkB (d : PyData) : Prop where
  nice : niceB d = true
  dp : d.depth ≤ 60
  bulk : d.bulk ≤ 2000
theorem OkB.shaped {d : PyData} (h : OkB d) : SeqAt.shaped d = true := by
  unfold SeqAt.shaped
  rw [(niceB_lay d h.nice).1, Bool.true_and, decide_eq_true_eq]; have := h.dp; omega
theorem OkB.len {d : PyData} (h : OkB d) : d.shown.length ≤ sizeLine := by
  have h1 := PyData.shown_le_bulk 4301 (by decide) d (niceB_lay d h.nice).2
  have h2 := h.bulk
  rw [show sizeLine = 16777216 from by decide]; omega
section
variable {X : Cx} {i : Nat} {Γ : List VD} {B B1 B2 B' : Bag} {e a b c : Expr} {es : List Expr} {y : PyData} {pos p : Pos}
end
end Gd
set_option exponentiation.threshold 20000
namespace Lw
open PySem PySem.Spec PyProof.Rows L2 Gd Fr
open scoped Rat
mutual
theorem niceB_of : ∀ d : PyData, nice d = true → niceB d = true
  | .none, _ => by simp only [niceB]
  | .bool _, _ => by simp only [niceB]
  | .int i, h => by
    simp only [nice, decide_eq_true_eq] at h
    simp only [niceB, decide_eq_true_eq]
    omega
  | .str _, h => by simp only [nice] at h; simp only [niceB]; exact h
  | .list xs, h => by simp only [nice] at h; simp only [niceB]; exact niceB_ofA xs h
  | .tuple xs, h => by simp only [nice] at h; simp only [niceB]; exact niceB_ofA xs h
  | .dict _, h => by simp only [nice] at h; cases h
theorem niceB_ofA : ∀ ds : List PyData, niceAll ds = true → niceBAll ds = true
  | [], _ => by simp only [niceBAll]
  | x :: xs, h => by
    simp only [niceAll, Bool.and_eq_true] at h
    simp only [niceBAll, Bool.and_eq_true]
    exact ⟨niceB_of x h.1, niceB_ofA xs h.2⟩
end
structure NdB (D W : Nat) (d : PyData) : Prop where
  ni : niceB d = true
  dp : d.depth ≤ D
  bk : d.bulk ≤ W
structure NdBA (D W : Nat) (ds : List PyData) : Prop where
  ni : niceBAll ds = true
  dp : PyData.depthAll ds ≤ D
  bk : PyData.bulkAll ds ≤ W
theorem Nd.b {D W : Nat} {d : PyData} (h : Nd D W d) : NdB D W d := ⟨niceB_of d h.ni, h.dp, h.bk⟩
theorem NdBA.nil {D W : Nat} : NdBA D W [] := ⟨by simp only [niceBAll], by simp only [PyData.depthAll]; omega, by simp only [PyData.bulkAll]; omega⟩
theorem NdBA.cons {D W W' : Nat} {d : PyData} {ds : List PyData} (h : NdB D W d) (r : NdBA D W' ds) : NdBA D (W + 1 + W') (d :: ds) :=
  ⟨by simp only [niceBAll, h.ni, r.ni, Bool.and_self], by have := h.dp; have := r.dp; simp only [PyData.depthAll]; omega, by have := h.bk; have := r.bk; simp only [PyData.bulkAll]; omega⟩
theorem NdB.le {D W D' W' : Nat} {d : PyData} (h : NdB D W d) (e : D ≤ D') (f : W ≤ W') : NdB D' W' d := ⟨h.ni, Nat.le_trans h.dp e, Nat.le_trans h.bk f⟩
theorem NdB.list {D W : Nat} {ds : List PyData} (h : NdBA D W ds) : NdB (D + 1) W (.list ds) := ⟨by simp only [niceB]; exact h.ni, by have := h.dp; simp only [PyData.depth]; omega, by have := h.bk; simp only [PyData.bulk]; omega⟩
theorem NdB.tuple {D W : Nat} {ds : List PyData} (h : NdBA D W ds) : NdB (D + 1) W (.tuple ds) := ⟨by simp only [niceB]; exact h.ni, by have := h.dp; simp only [PyData.depth]; omega, by have := h.bk; simp only [PyData.bulk]; omega⟩
theorem NdB.int {n : Nat} {i : Int} (h : Bd n i) (e : n ≤ 12900 := by decide) : NdB 1 0 (.int i) := ⟨by
  simp only [niceB, decide_eq_true_eq]
  by_cases h0 : 0 < n
  · exact Nat.lt_of_lt_of_le (PySem.Flt.log2_lt_of h0 h) e
  · have : n = 0 := by omega
    subst this
    have : i.natAbs = 0 := by unfold Bd at h; omega
    rw [this]; decide, by simp only [PyData.depth]; omega, by simp only [PyData.bulk]; omega⟩
def Vcan (b p : Nat) (low high : Int) : Va → Prop
  | .num s c e => (s = 0 ∨ s = 1) ∧ Can b p low c e ∧ e ≤ high
  | .inf s => s = 0 ∨ s = 1
  | .nan => True
theorem Vcan.ok {b p : Nat} {low high : Int} {v : Va} (h : Vcan b p low high v) : Vok b p low high v := by
  cases v with
  | nan => trivial
  | inf s => exact h
  | num s c e => exact ⟨h.1, h.2.1.1, h.2.1.2.1, h.2.1.2.2.1, h.2.2⟩
theorem Vcan.opp {b p : Nat} {low high : Int} {v : Va} (h : Vcan b p low high v) : Vcan b p low high v.opp := by
  cases v with
  | nan => trivial
  | inf s => show (1 - s = 0 ∨ 1 - s = 1); have h : s = 0 ∨ s = 1 := h; omega
  | num s c e => exact ⟨by have := h.1; omega, h.2⟩
theorem edges_can {b p : Nat} {low high : Int} (F : Fm b p low high) : ∀ v ∈ edgesV b p low high, ∃ c e, v = .num 0 c e ∧ Can b p low c e ∧ e ≤ high := by
  have P := F.pows; have l2 := P.l2; have ge := P.ge; have lh := F.lh
  intro v hv
  unfold edgesV at hv
  simp only [List.mem_cons, List.not_mem_nil, or_false] at hv
  rcases hv with rfl | rfl | rfl | rfl | rfl | rfl | rfl | rfl | rfl | rfl <;> refine ⟨_, _, rfl, ⟨by omega, by omega, by omega, ?_⟩, by omega⟩ <;> first | exact .inl rfl | (right; omega)
theorem numC_lead {b p : Nat} {low high : Int} (F : Fm b p low high) (w : Int) (B : Bag) : lead b p ≤ numC b p w B := by
  obtain ⟨l2, ge, e1⟩ := lf F
  have b2 := F.b2
  unfold numC
  split
  · have h := pickI_mem [lead b p, lead b p * (b - 1), lead b p + 1, full b p - 1] (tkB B (full b p - lead b p)) (by show 0 < 4; decide)
    generalize pickI [lead b p, lead b p * (b - 1), lead b p + 1, full b p - 1] (tkB B (full b p - lead b p)) = z at *
    rw [e1] at h
    simp only [List.mem_cons, List.not_mem_nil, or_false] at h
    rcases h with rfl | rfl | rfl | rfl <;> omega
  · have h0 := tkV_ge B (m := full b p - lead b p) (by omega)
    omega
theorem numV_can {b p : Nat} {low high : Int} (F : Fm b p low high) (B : Bag) : Vcan b p low high (numV b p low high B) := by
  unfold numV
  split
  · obtain ⟨c, e, h1, h3, h4⟩ := edges_can F _ (pickV_mem (edgesV b p low high) (numB2 B) (by show 0 < 10; decide))
    rw [h1]
    exact ⟨tkV_2 _, h3, h4⟩
  · have h1 := numC2_ok F (tkV B 6) (numE p low high (numB2 B)) (numC b p (tkV B 6) (numEB low high (numB2 B))) (numCB b p (tkV B 6) (numEB low high (numB2 B))) (numC_ok F _ _)
    have hE := numE_ok F (numB2 B)
    refine ⟨tkV_2 _, ⟨h1.1, h1.2, hE.1, ?_⟩, hE.2⟩
    unfold numC2
    split
    · next h => exact .inl h.1
    · exact .inr (numC_lead F _ _)
end Lw
set_option exponentiation.threshold 20000
namespace Lw
open PySem PySem.Spec PyProof.Rows L2 Gd Fr
open scoped Rat
def ptQ (t : Rat) : Int := if t = 0 then 0 else if t < 1 / 2 then 1 else if t = 1 / 2 then 2 else 3
theorem pt_t {b : Nat} (h2 : 2 ≤ b) (e : Int) (q : Rat) : pt (rQ b e q) (Dq b e q) = ptQ (tQ b e q) := by
  have a0 := t_zero h2 e q
  have a1 := t_lt_iff h2 e q 1 2 (by decide)
  have a2 := t_eq_iff h2 e q 1 2
  rw [show ((2 : Nat) : Rat) = 2 from rfl, show ((1 : Int) : Rat) = 1 from rfl, Int.one_mul, show ((2 : Nat) : Int) = 2 from rfl] at a1 a2
  unfold pt ptQ
  have b1 : tQ b e q < 1 / 2 ↔ 2 * tQ b e q < 1 := by constructor <;> intro h <;> grind
  have b2 : tQ b e q = 1 / 2 ↔ 2 * tQ b e q = 1 := by constructor <;> intro h <;> grind
  by_cases h0 : rQ b e q = 0
  · rw [if_pos h0, if_pos (a0.mpr h0)]
  · rw [if_neg h0, if_neg (fun z => h0 (a0.mp z))]
    by_cases h1 : 2 * rQ b e q < Dq b e q
    · rw [if_pos h1, if_pos (b1.mpr (a1.mpr h1))]
    · rw [if_neg h1, if_neg (fun z => h1 (a1.mp (b1.mp z)))]
      by_cases h3 : 2 * rQ b e q = Dq b e q
      · rw [if_pos h3, if_pos (b2.mpr (a2.mpr h3))]
      · rw [if_neg h3, if_neg (fun z => h3 (a2.mp (b2.mp z)))]
noncomputable def pkQ (b p : Nat) (low : Int) (way : Str) (s : Int) (q : Rat) : Rat :=
  (if outw way s (cQ b (eQ b p low q) q) (ptQ (tQ b (eQ b p low q) q)) = true then (cQ b (eQ b p low q) q : Rat) + 1 else (cQ b (eQ b p low q) q : Rat)) * pw b (eQ b p low q)
section
variable {b p : Nat} {low high : Int} (F : Fm b p low high)
include F
theorem nb_pk {way : Str} {s : Int} {q : Rat} (h0 : 0 ≤ q) : (((nb b p (outw way s (cQ b (eQ b p low q) q) (pt (rQ b (eQ b p low q) q) (Dq b (eQ b p low q) q))) (cQ b (eQ b p low q) q) (eQ b p low q)).1 : Int) : Rat) * pw b (nb b p (outw way s (cQ b (eQ b p low q) q) (pt (rQ b (eQ b p low q) q) (Dq b (eQ b p low q) q))) (cQ b (eQ b p low q) q) (eQ b p low q)).2 = pkQ b p low way s q := by
  have h2 := F.b2
  have Cq := spot_can h2 (by have := F.p2; omega) h0 (eQ_is (p := p) h2 low q)
  have hn := nb_can (o := outw way s (cQ b (eQ b p low q) q) (pt (rQ b (eQ b p low q) q) (Dq b (eQ b p low q) q))) h2 F.p2 Cq
  rw [hn.2]
  unfold pkQ
  rw [pt_t h2]
def errQ (b : Nat) (way : Str) (e : Int) : Rat := if way = "even" ∨ way = "away" then pw b e * (1 / 2) else pw b e
theorem pk_err {way : Str} (hw : way ∈ wayList) {s : Int} {q : Rat} (h0 : 0 ≤ q) : absQ (pkQ b p low way s q - q) ≤ errQ b way (eQ b p low q) := by
  have h2 := F.b2
  generalize he : eQ b p low q = e
  have pe := pw_pos h2 e
  have vq := q_val h2 e q
  have t0 := t_ge h2 e q
  have t1 := t_lt1 h2 e q
  have ed : pkQ b p low way s q - q = ((if outw way s (cQ b e q) (ptQ (tQ b e q)) = true then (1 : Rat) else 0) - tQ b e q) * pw b e := by
    unfold pkQ
    rw [he]
    generalize tQ b e q = t at *
    generalize cQ b e q = c at *
    generalize pw b e = u at *
    split <;> (rw [vq]; grind)
  rw [ed, absQ_mul_pos _ pe]
  generalize tQ b e q = t at *
  unfold errQ
  by_cases hea : way = "even" ∨ way = "away"
  · rw [if_pos hea, Rat.mul_comm (pw b e)]
    refine Rat.mul_le_mul_of_nonneg_right ?_ (Rat.le_of_lt pe)
    have key : (outw way s (cQ b e q) (ptQ t) = true → 1 / 2 ≤ t) ∧ (¬ outw way s (cQ b e q) (ptQ t) = true → t ≤ 1 / 2) := by
      have dc : (t = 0 ∧ ptQ t = 0) ∨ (t ≠ 0 ∧ t < 1 / 2 ∧ ptQ t = 1) ∨ (t = 1 / 2 ∧ ptQ t = 2) ∨ (1 / 2 < t ∧ ptQ t = 3) := by
        unfold ptQ
        by_cases a : t = 0
        · exact .inl ⟨a, by rw [if_pos a]⟩
        · by_cases d : t < 1 / 2
          · exact .inr (.inl ⟨a, d, by rw [if_neg a, if_pos d]⟩)
          · by_cases f : t = 1 / 2
            · exact .inr (.inr (.inl ⟨f, by rw [if_neg a, if_neg d, if_pos f]⟩))
            · exact .inr (.inr (.inr ⟨by grind, by rw [if_neg a, if_neg d, if_neg f]⟩))
      rcases dc with ⟨a, z⟩ | ⟨a, d, z⟩ | ⟨a, z⟩ | ⟨a, z⟩
      · rw [z]
        have : outw way s (cQ b e q) 0 = false := by unfold outw; rw [if_pos (.inl rfl)]
        rw [this]
        exact ⟨fun y => Bool.noConfusion y, fun _ => by grind⟩
      · rw [z]
        have : outw way s (cQ b e q) 1 = false := by
          rcases hea with rfl | rfl
          · rw [outw_even (by decide), if_neg (by decide)]; rfl
          · rw [outw_away (by decide), if_neg (by decide)]; rfl
        rw [this]
        exact ⟨fun y => Bool.noConfusion y, fun _ => by grind⟩
      · exact ⟨fun _ => by grind, fun _ => by grind⟩
      · rw [z]
        have : outw way s (cQ b e q) 3 = true := by
          rcases hea with rfl | rfl
          · rw [outw_even (by decide), if_neg (by decide)]; rfl
          · rw [outw_away (by decide), if_neg (by decide)]; rfl
        rw [this]
        exact ⟨fun _ => by grind, fun y => absurd rfl y⟩
    by_cases ho : outw way s (cQ b e q) (ptQ t) = true
    · rw [if_pos ho]
      have := key.1 ho
      unfold absQ; split <;> grind
    · rw [if_neg ho]
      have := key.2 ho
      unfold absQ; split <;> grind
  · rw [if_neg hea]
    have h1 : absQ ((if outw way s (cQ b e q) (ptQ t) = true then (1 : Rat) else 0) - t) ≤ 1 := by
      unfold absQ
      split <;> split <;> grind
    have := Rat.mul_le_mul_of_nonneg_right h1 (Rat.le_of_lt pe)
    rw [Rat.one_mul] at this; exact this
end
theorem pk_zero {b p : Nat} {low high : Int} (F : Fm b p low high) (way : Str) (s : Int) : pkQ b p low way s 0 = 0 := by
  have e2 : eQ b p low 0 = low := eQ_of F.b2 (isE_zero F.b2 low)
  unfold pkQ
  rw [e2, (cQ_zero b low).1, (t_zero F.b2 low 0).mpr (cQ_zero b low).2]
  have : outw way s 0 (ptQ 0) = false := by unfold outw ptQ; rw [if_pos rfl, if_pos (.inl rfl)]
  rw [this, if_neg (by decide)]
  exact Rat.zero_mul _
end Lw
namespace Gd
open PySem PySem.Spec PyProof.Rows L2
section
variable {X : Cx} {Γ : List VD} {B B1 B2 : Bag} {e c elt : Expr} {scope : Scope} {acc : List PyData} {pos pos' : Pos} {rest : List Stmt} {E : En} {d : VD}
theorem wipe2 {σ : L2.St} {j1 j2 : Nat} {v1 v2 : Option V} (h : j1 ≠ j2) : ((wipe σ [j1, j2]).set j1 v1).set j2 v2 = (σ.set j1 v1).set j2 v2 := by
  show ((((σ.set j2 none).set j1 none).set j1 v1).set j2 v2) = _
  rw [List.set_set, List.set_comm none v1 (Ne.symm h), List.set_set]
theorem wipe2w {σ : L2.St} {j1 j2 : Nat} {v1 v2 : Option V} (h : j1 ≠ j2) : wipe ((σ.set j1 v1).set j2 v2) [j1, j2] = wipe σ [j1, j2] := by
  show ((((σ.set j1 v1).set j2 v2).set j2 none).set j1 none) = (σ.set j2 none).set j1 none
  rw [List.set_set, List.set_comm v1 none h, List.set_set]
end
end Gd
set_option exponentiation.threshold 20000
namespace Lw
open PySem PySem.Spec PyProof.Rows L2 Gd Fr
open scoped Rat
theorem atI_head {α : Type} {xs : List α} {l : α} (h : xs.head? = some l) : atI xs 0 = some l := by
  cases xs with
  | nil => cases h
  | cons a xs =>
    cases h
    unfold atI ixN
    simp only [List.length_cons]
    rw [if_pos (by decide), if_pos (by omega)]
    rfl
noncomputable def unN (b p : Nat) (low : Int) (way : Str) (s : Int) (q : Rat) : Int × Int := nb b p (outw way s (cQ b (eQ b p low q) q) (pt (rQ b (eQ b p low q) q) (Dq b (eQ b p low q) q))) (cQ b (eQ b p low q) q) (eQ b p low q)
section
variable {b p : Nat} {low high : Int} (F : Fm b p low high)
include F
theorem unN_can {way : Str} {s : Int} {q : Rat} (h0 : 0 ≤ q) : Can b p low (unN b p low way s q).1 (unN b p low way s q).2 :=
  (nb_can F.b2 F.p2 (spot_can F.b2 (by have := F.p2; omega) h0 (eQ_is (p := p) F.b2 low q))).1
end
end Lw
namespace Gd
open PySem PySem.Spec PyProof.Rows L2
section
variable {X : Cx} {Γ : List VD} {B B1 B2 : Bag} {e c elt a b : Expr} {scope : Scope} {acc : List PyData} {pos pos' : Pos} {rest : List Stmt} {E : En} {d : VD}
end
end Gd
set_option exponentiation.threshold 20000
namespace Lw
open PySem PySem.Spec PyProof.Rows L2 Gd Fr
open scoped Rat
section
variable {b p : Nat} {low high : Int} (F : Fm b p low high)
include F
end
end Lw
namespace Gd
open PySem PySem.Spec PyProof.Rows L2
section
variable {P : Program} {w : World} {A : Around} {s : Shared} {E : Value → Shared → Prop}
end
section
variable {X : Cx}
end
end Gd
namespace Gd
open PySem PySem.Spec PyProof.Rows L2
section
variable {X : Cx} {Γ : List VD} {B B1 B2 : Bag} {e c elt a b : Expr} {scope : Scope} {acc : List PyData} {pos pos' p p' : Pos} {rest : List Stmt} {E : En} {d : VD}
end
end Gd
set_option exponentiation.threshold 20000
namespace Lw
open PySem PySem.Spec PyProof.Rows L2 Gd Fr
open scoped Rat
end Lw
set_option exponentiation.threshold 20000
namespace Lw
open PySem PySem.Spec PyProof.Rows L2 Gd Fr
open scoped Rat
section
variable {b p : Nat} {low high : Int} (F : Fm b p low high)
include F
end
end Lw
set_option exponentiation.threshold 20000
namespace Lw
open PySem PySem.Spec PyProof.Rows L2 Gd Fr
open scoped Rat
section
variable {X : Cx} {Γ : List VD} {B B1 B2 : Bag} {a b : Expr} {pos : Pos}
end
end Lw
namespace Gd
open PySem PySem.Spec PyProof.Rows L2
section
variable {P : Program} {w : World} {K : PySem.W.Frag} {mg : Str → Option Value} {base : Heap} {x : Str}
def CalE (P : Program) (w : World) (K : PySem.W.Frag) (mg : Str → Option Value) (base : Heap) (x : Str) (k : Nat) (Pre : List VD → Bag → Prop) (Post : List VD → Bag → PyData → Bag → Prop) : Prop :=
  ∃ R : Rel, Cal P w K mg base x k R ∧ ∀ Γ B, Pre Γ B → ∃ r B', R Γ B r B' ∧ Post Γ B r B'
theorem Cal.e {k : Nat} {R : Rel} (c : Cal P w K mg base x k R) {Pre : List VD → Bag → Prop} {Post : List VD → Bag → PyData → Bag → Prop} (h : ∀ Γ B, Pre Γ B → ∃ r B', R Γ B r B' ∧ Post Γ B r B') : CalE P w K mg base x k Pre Post := ⟨R, c, h⟩
end
section
variable {X : Cx} {Γ : List VD} {B B1 B2 : Bag} {a b c : Expr} {d : VD} {pos : Pos}
end
end Gd
namespace Gd
open PySem PySem.Spec PyProof.Rows L2
section
variable {X : Cx} {i : Nat} {Γ : List VD} {B B1 B2 B' : Bag} {ds : List PyData} {e a b c : Expr} {es : List Expr} {pos p p1 p2 p3 pos' : Pos} {rest ss s1 s2 : List Stmt} {E : En}
end
end Gd
set_option exponentiation.threshold 20000
namespace Lw
open PySem PySem.Spec PyProof.Rows L2 Gd Fr
open scoped Rat
theorem pickF_mem (ts : List F4) (B : Bag) (h : 0 < ts.length) : pickF ts B ∈ ts := by
  have h0 := tkV_ge B (m := ts.length) (by omega)
  have h1 := tkV_lt B (m := ts.length) (by omega)
  have hlt : (tkV B ts.length).toNat < ts.length := by omega
  unfold pickF
  rw [List.getD_eq_getElem?_getD, List.getElem?_eq_getElem hlt]
  exact List.getElem_mem hlt
end Lw
namespace Lw
open PySem PySem.Spec PyProof.Rows L2 Gd Fr
def thing (r : PyData) : Prop := ∃ (t : F4) (y : PyData), r = .tuple [t.d, y] ∧ t.ok ∧ (y = .none ∨ ∃ v : Va, y = v.d ∧ Vok t.1 t.2.1 t.2.2.1 t.2.2.2 v)
end Lw
namespace Gd
open PySem PySem.Spec PyProof.Rows L2
section
variable {X : Cx} {Γ : List VD} {B B1 B2 : Bag} {a b c : Expr} {es : List Expr} {pos p : Pos}
end
end Gd
set_option exponentiation.threshold 20000
namespace Gd
open PySem PySem.Spec PyProof.Rows L2
section
variable {X : Cx} {Γ : List VD} {B B1 B2 : Bag} {c : Expr} {pos : Pos} {rest s1 s2 : List Stmt} {E : En}
end
end Gd
namespace Lw
open PySem PySem.Spec PyProof.Rows L2 Gd Fr
open scoped Rat
end Lw
set_option exponentiation.threshold 20000
namespace Lw
open PySem PySem.Spec PyProof.Rows L2 Gd Fr
open scoped Rat
def fmI (b p : Nat) : Int := ((b : Int) - 1) * ((b ^ (p - 1) : Nat) : Int)
def mostI (b p : Nat) (low high : Int) : Int := ((b ^ p : Nat) : Int) + (high - low) * fmI b p
def rkS (b p : Nat) (low high : Int) : Va → Int
  | .num _ c e => c + (e - low) * fmI b p
  | _ => mostI b p low high
def rkI (b p : Nat) (low high : Int) (v : Va) : Int := if v.sg = 1 then -rkS b p low high v else rkS b p low high v
structure Rkf (b p : Nat) (low high : Int) : Prop where
  l2 : (2 : Int) ≤ ((b ^ (p - 1) : Nat) : Int)
  fl : ((b ^ p : Nat) : Int) = ((b ^ (p - 1) : Nat) : Int) + fmI b p
  f1 : (1 : Int) ≤ fmI b p
  fb : Bd 701 (fmI b p)
  lh : low ≤ high
  lb : ((b ^ (p - 1) : Nat) : Int) ≤ fmI b p
theorem Fm.rkf {b p : Nat} {low high : Int} (F : Fm b p low high) : Rkf b p low high := by
  have P := F.pows; have l2 := P.l2; have eq := P.eq; have b2 := F.b2; have bp := F.bp
  have e : ((b ^ p : Nat) : Int) = ((b ^ (p - 1) : Nat) : Int) * (b : Int) := by rw [eq, Int.natCast_mul]
  have f : fmI b p = ((b ^ (p - 1) : Nat) : Int) * (b : Int) - ((b ^ (p - 1) : Nat) : Int) := by unfold fmI; rw [Int.sub_mul, Int.one_mul, Int.mul_comm]
  have g : ((b ^ (p - 1) : Nat) : Int) * 2 ≤ ((b ^ (p - 1) : Nat) : Int) * (b : Int) := Int.mul_le_mul_of_nonneg_left (by omega) (by omega)
  have bpI : ((b ^ p : Nat) : Int) < 2 ^ 700 := by exact_mod_cast bp
  refine ⟨by omega, by omega, by omega, ?_, F.lh, by omega⟩
  unfold Bd
  have : (fmI b p).natAbs < 2 ^ 700 := by omega
  exact Nat.lt_trans this (by decide)
variable {b p : Nat} {low high : Int} (F : Fm b p low high)
include F
end Lw
namespace Gd
open PySem PySem.Spec PyProof.Rows L2
section
variable {X : Cx} {Γ : List VD} {B B1 B2 : Bag} {a b c e : Expr} {pos p pos' : Pos} {rest : List Stmt} {E : En} {elt : Expr} {scope : Scope} {j : Nat} {x : Str} {px : Pos} {d : VD}
theorem call_reprL : CallR X (.builtin "repr") (fun xs H Q => ∃ b, xs = [.bl b] ∧ Q (.str (if b then "True" else "False")) H) := by
  intro pins s σ H xs us Q I r h
  obtain ⟨b, rfl, q⟩ := h
  obtain ⟨u, rfl, rfl⟩ := vals1 r
  exact PySem.P.repr_of_bool ⟨.str _, H, I.tok _, ⟨_, rfl⟩, q⟩
theorem ej_reprL {b : Bool} (hm : X.mg "repr" = none) (ha : EJ X Γ B a (.da (.bool b)) B1) (hs : starEach [a] X.env = [(false, eval a X.env)] := by rfl) (hg : Gl X "repr" := by rfl) :
    EJ X Γ B (.Call (.Name "repr" p) [a] [] pos) (.da (.str (if b then "True" else "False"))) B1 :=
  ej_callB call_reprL hm (aj_cons ha aj_nil hs) (fun gh vs H0 H O r Q q => by
    obtain ⟨v, rfl, h⟩ := rv1 r
    exact ⟨b, by rw [rvB h], q _ _ _ To.refl O (Rp.str _)⟩) (hg := hg) (he := hs)
theorem ej_reprI {i : Int} (hi : i.natAbs.log2 < 1920) (hm : X.mg "repr" = none) (ha : EJ X Γ B a (.da (.int i)) B1) (hs : starEach [a] X.env = [(false, eval a X.env)] := by rfl) (hg : Gl X "repr" := by rfl) :
    EJ X Γ B (.Call (.Name "repr" p) [a] [] pos) (.da (.str (toString i))) B1 :=
  ej_callB SkE.call_repr_int hm (aj_cons ha aj_nil hs) (fun gh vs H0 H O r Q q => by
    obtain ⟨v, rfl, h⟩ := rv1 r
    exact ⟨i, by rw [rvI h], hi, q _ _ _ To.refl O (Rp.str _)⟩) (hg := hg) (he := hs)
end
end Gd
namespace Gd
open PySem PySem.Spec PyProof.Rows L2
section
variable {X : Cx} {Γ : List VD} {B B1 B2 : Bag} {a b c e : Expr} {pos p pos' : Pos} {rest s1 : List Stmt} {E : En}
end
end Gd
set_option exponentiation.threshold 20000
namespace Lw
open PySem PySem.Spec PyProof.Rows L2 Gd Fr
open scoped Rat
noncomputable instance instVa : DecidableEq Va := fun x y => Classical.propDecidable (x = y)
theorem eqv_nan (v : Va) : PyData.eqv v.d (.tuple [.str "nan"]) = v.isNan := by
  cases v with
  | nan => rfl
  | inf s => rfl
  | num s c e => rfl
theorem eqv_va (v u : Va) : PyData.eqv v.d u.d = decide (v = u) := by
  cases v with
  | nan => cases u with
    | nan => rw [decide_eq_true rfl]; rfl
    | inf s => rw [decide_eq_false (by intro h; cases h)]; rfl
    | num s c e => rw [decide_eq_false (by intro h; cases h)]; rfl
  | inf t => cases u with
    | nan => rw [decide_eq_false (by intro h; cases h)]; rfl
    | inf s =>
      show PyData.eqv (.tuple [.str "inf", .int t]) (.tuple [.str "inf", .int s]) = _
      rw [inf_eqv]
      by_cases h : t = s
      · rw [decide_eq_true h, decide_eq_true (by rw [h])]
      · rw [decide_eq_false h, decide_eq_false (fun z => h (by injection z))]
    | num s c e => rw [decide_eq_false (by intro h; cases h)]; rfl
  | num t d g => cases u with
    | nan => rw [decide_eq_false (by intro h; cases h)]; rfl
    | inf s => rw [decide_eq_false (by intro h; cases h)]; rfl
    | num s c e =>
      show PyData.eqv (.tuple [.str "num", .int t, .int d, .int g]) (.tuple [.str "num", .int s, .int c, .int e]) = _
      simp only [PyData.eqv, PyData.eqvAll]
      by_cases h : t = s ∧ d = c ∧ g = e
      · obtain ⟨rfl, rfl, rfl⟩ := h
        simp
      · rw [decide_eq_false (fun z => h (by injection z with a b c; exact ⟨a, b, c⟩))]
        by_cases h1 : t = s <;> by_cases h2 : d = c <;> by_cases h3 : g = e <;> simp_all
section
variable {b p : Nat} {low high : Int} (F : Fm b p low high)
include F
theorem zero_can {s : Int} (hs : s = 0 ∨ s = 1) : Vcan b p low high (.num s 0 low) := by
  have R := F.rkf
  have l2 := R.l2; have fl := R.fl; have f1 := R.f1
  exact ⟨hs, ⟨Int.le_refl _, by omega, Int.le_refl _, .inl rfl⟩, F.lh⟩
end
inductive R_alikeA : Rel
  | mk (d : PyData) (B : Bag) (h : Okd d) (hb : boxed d = true ∨ d = .none ∨ (∃ b, d = .bool b) ∨ ∃ i, d = .int i) : R_alikeA [.da d, .da d] B (.bool true) B
end Lw
namespace Gd
open PySem PySem.Spec PyProof.Rows L2
section
variable {X : Cx} {Γ : List VD} {B B1 B2 : Bag} {a b c e : Expr} {pos p pos' : Pos} {rest s1 : List Stmt} {E : En}
theorem op_ninDT (hu : X.A.units + 64 < cLine) : OpR X (compareOp .NotIn) (fun x y H Q => ∃ d ds, Dp X.K H x d ∧ Dp X.K H y (.tuple ds) ∧ SeqAt.shaped d = true ∧ SeqAt.shaped (.tuple ds) = true ∧ d.depth ≤ 60 ∧ Q (.bl (!ds.any fun z => PyData.eqv z d)) H) := by
  intro pins s σ H x y v u Q I rx ry h
  obtain ⟨d, ds, hd, he, sd, se, hp, q⟩ := h
  obtain ⟨as, r1⟩ := Dp.reads I d x v hd rx
  obtain ⟨bs, r2⟩ := Dp.reads I (.tuple ds) y u he ry
  exact SeqAt.notIn_tuple_reads r2 r1 (SeqAt.canLay_of_shaped se) (SeqAt.canLay_of_shaped sd) (by have := Nat.min_le_right (PyData.depthAll ds) d.depth; omega) ⟨.bl _, H, I, rfl, q⟩
theorem tj_ninD {d : PyData} {ds : List PyData} (hu : X.A.units + 64 < cLine) (ha : EJ X Γ B a (.da d) B1) (hb : EJ X Γ B1 b (.da (.tuple ds)) B2) (hd : SeqAt.shaped d = true) (hds : SeqAt.shaped (.tuple ds) = true) (hp : d.depth ≤ 60) (hm : behindInMarks .NotIn b = false := by rfl) :
    TJ X Γ B (.Compare a [.NotIn] [b] pos) (!ds.any fun z => PyData.eqv z d) B2 :=
  tj_cmp ha hb (op_ninDT hu) hm fun g v w H0 H O r1 r2 Q q => ⟨d, ds, (Rp.mono O.ex r1).dp (nd_shaped hd), (Rp.mono O.ex r2).dp (nd_shaped hds), hd, hds, hp, q H0 H To.refl O⟩
end
end Gd
set_option exponentiation.threshold 20000
namespace Lw
open PySem PySem.Spec PyProof.Rows L2 Gd Fr
open scoped Rat
section
variable {b p : Nat} {low high : Int} (F : Fm b p low high)
include F
theorem rdV_un {way : Str} {x : Rat} {s : Int} : rdV b p low high way x s = if high < (unN b p low way (if x = 0 then s else sgn x) (absQ x)).2 then (if isInf way (if x = 0 then s else sgn x) = true then .inf (if x = 0 then s else sgn x) else .num (if x = 0 then s else sgn x) (((b ^ p : Nat) : Int) - 1) high)
    else .num (if x = 0 then s else sgn x) (unN b p low way (if x = 0 then s else sgn x) (absQ x)).1 (unN b p low way (if x = 0 then s else sgn x) (absQ x)).2 := rfl
theorem rdV_can {way : Str} {x : Rat} {s : Int} (hs : s = 0 ∨ s = 1) : Vcan b p low high (rdV b p low high way x s) ∧ (rdV b p low high way x s).isNan = false := by
  have hS : (if x = 0 then s else sgn x) = 0 ∨ (if x = 0 then s else sgn x) = 1 := by split; exact hs; exact sgn_01 x
  have hC := unN_can F (way := way) (s := if x = 0 then s else sgn x) (absQ_nonneg x)
  rw [rdV_un F]
  generalize (if x = 0 then s else sgn x) = S at *
  split
  · split
    · exact ⟨hS, rfl⟩
    · exact ⟨⟨hS, great_can F, Int.le_refl _⟩, rfl⟩
  · next h => exact ⟨⟨hS, hC, by omega⟩, rfl⟩
end
section
variable {b p : Nat} {low high : Int} (F : Fm b p low high)
include F
end
end Lw
set_option exponentiation.threshold 20000
namespace Lw
open PySem PySem.Spec PyProof.Rows L2 Gd Fr
open scoped Rat
def exQ (b p : Nat) (low high : Int) (x : Rat) : Prop := rQ b (eQ b p low (absQ x)) (absQ x) = 0 ∧ eQ b p low (absQ x) ≤ high
section
variable {b p : Nat} {low high : Int} (F : Fm b p low high)
include F
end
end Lw
namespace Lw
open PySem PySem.Spec PyProof.Rows L2 Gd Fr
end Lw
namespace Gd
open PySem PySem.Spec PyProof.Rows L2
section
variable {X : Cx} {Γ : List VD} {B B1 B2 : Bag} {a b c e elt : Expr} {scope : Scope} {pos p pos' : Pos} {rest s1 : List Stmt} {E : En} {d : VD}
end
end Gd
set_option exponentiation.threshold 20000
namespace Lw
open PySem PySem.Spec PyProof.Rows L2 Gd Fr
open scoped Rat
section
variable {b p : Nat} {low high : Int} (F : Fm b p low high)
include F
end
end Lw
namespace Lw
end Lw
namespace Gd
open PySem PySem.Spec PyProof.Rows L2
def tyN : PyData → Option String
  | .none => some "NoneType"
  | .bool _ => some "bool"
  | .int _ => some "int"
  | .str _ => some "str"
  | .list _ => some "list"
  | .tuple _ => some "tuple"
  | .dict _ => some "dict"
section
variable {X : Cx} {Γ : List VD} {B B1 B2 : Bag} {e c elt a b : Expr} {scope : Scope} {acc : List PyData} {pos pos' p p' : Pos} {rest : List Stmt} {E : En} {d : VD}
theorem rp_ty {K : PySem.W.Frag} {H0 H : Hp} (ex : Same H0 H) {v : V} {y : PyData} {t : String} (r : Rp K H0 v y) (h : tyN y = some t) : TyX K H v (.type t) := by
  cases r with
  | non => cases h; exact .base .non
  | bl b => cases h; exact .base (.bl b)
  | int i => cases h; exact .base (.int i)
  | str x => cases h; exact .base (.str x)
  | lst hx _ => cases h; exact .base (.lst (ex _ _ hx))
  | tup hx _ =>
    cases h
    rcases hx with (hh | ⟨ob, hh⟩) | hh
    · exact .base (.tup (ex _ _ hh))
    · exact .fTuple (ex _ _ hh)
    · obtain ⟨ob, its, n, h1, h2, _⟩ := hh; exact .kTuple h1 h2
  | dct hx => cases h; exact .base (.dK (ex _ _ hx))
  | dctT kvs hx => cases h; exact .base (.dT (ex _ _ hx))
theorem ej_isi {x : Str} {T t : String} {r : Bool} {y : PyData} (hm : X.mg "isinstance" = none) (hmT : X.mg x = none) (ha : EJ X Γ B a (.da y) B1) (ht : tyN y = some t := by rfl) (hk : kitB t T = some r := by decide +kernel)
    (hv : bootBuiltins x = some (.type T) := by decide +kernel) (hgT : Gl X x := by rfl) (hn : x ≠ "__name__" := by decide) (hdb : (x == ("__debug__" : Str)) = false := by decide)
    (hs : starEach [a, .Name x p'] X.env = (false, eval a X.env) :: starEach [.Name x p'] X.env := by rfl) (hs2 : starEach [.Name x p'] X.env = (false, eval (.Name x p') X.env) :: starEach [] X.env := by rfl)
    (hpl : (backTo pos (starEach [.Name x p'] X.env)).any (·.1) = false := by rfl) (hg : Gl X "isinstance" := by rfl) :
    EJ X Γ B (.Call (.Name "isinstance" p) [a, .Name x p'] [] pos) (.da (.bool r)) B1 := fun g σ H0 H Ev O Q q =>
  ⟨_, pe_callB call_isi hg hm (by decide +kernel) (pa_cons (we a) (pa_cons (pe_bltn (v := .ty T) hgT hmT hv rfl hn hdb) pa_nil hs2) hs) (by decide) (by decide) hs hpl,
   ha g σ H0 H Ev O _ fun v H1 H' t1 o rv => ⟨v, .ty T, .type t, .type T, r, rfl, .ty T, rp_ty o.ex rv ht, kit_ty hk, q _ _ _ t1 o (Rp.bl r)⟩⟩
end
end Gd
set_option exponentiation.threshold 20000
namespace Lw
open PySem PySem.Spec PyProof.Rows L2 Gd Fr
open scoped Rat
noncomputable instance exQ_dec (b p : Nat) (low high : Int) (x : Rat) : Decidable (exQ b p low high x) := by unfold exQ; infer_instance
section
variable {b p : Nat} {low high : Int} {b' p' : Nat} {low' high' : Int} (F : Fm b p low high) (F' : Fm b' p' low' high')
include F F'
end
end Lw
set_option exponentiation.threshold 20000
namespace Lw
open PySem PySem.Spec PyProof.Rows L2 Gd Fr
open scoped Rat
end Lw
set_option exponentiation.threshold 20000
namespace Lw
open PySem PySem.Spec PyProof.Rows L2 Gd Fr
open scoped Rat
end Lw
namespace Gd
open PySem PySem.Spec PyProof.Rows L2
section
variable {X : Cx} {Γ : List VD} {B B1 B2 B3 : Bag} {e c elt a b o i f : Expr} {scope : Scope} {acc : List PyData} {pos pos' p p' : Pos} {rest : List Stmt} {E : En} {d : VD}
end
end Gd
namespace Gd
open PySem PySem.Spec PyProof.Rows L2
section
variable {X : Cx} {Γ : List VD} {B B1 B2 : Bag} {a b c e : Expr} {pos p pos' : Pos} {rest s1 : List Stmt} {E : En}
end
end Gd
set_option exponentiation.threshold 20000
namespace Lw
open PySem PySem.Spec PyProof.Rows L2 Gd Fr
open scoped Rat
section
variable {b p : Nat} {low high : Int} (F : Fm b p low high)
include F
end
end Lw
namespace Lw
open PySem PySem.Spec PyProof.Rows L2 Gd Fr
open scoped Rat
theorem cut1 (ds : List PyData) : cutP ds (some 1) none = ds.drop 1 := by
  cases ds with
  | nil => rfl
  | cons d ds =>
    have h1 : HT.sIx (d :: ds).length 0 (some 1) = 1 := by
      unfold HT.sIx
      simp
      try omega
    have h2 : HT.sIx (d :: ds).length (d :: ds).length none = (d :: ds).length := rfl
    unfold cutP
    rw [h1, h2]
    exact List.take_of_length_le (by simp)
end Lw
namespace Fr
open Gd PySem
open scoped Rat
def tw (k : Nat) (a : Int) : Int := 2 ^ k * (2 * a + 1)
theorem tw_of : ∀ (m : Nat) (n : Int), n.natAbs ≤ m → n ≠ 0 → ∃ k a, n = tw k a := by
  intro m
  induction m with
  | zero => intro n h hn; omega
  | succ m ih =>
    intro n h hn
    by_cases ho : n % 2 = 1
    · exact ⟨0, n / 2, by unfold tw; omega⟩
    · obtain ⟨k, a, e⟩ := ih (n / 2) (by omega) (by omega)
      refine ⟨k + 1, a, ?_⟩
      unfold tw at *
      rw [Int.pow_succ, Int.mul_comm _ 2, Int.mul_assoc, ← e]; omega
theorem tw_ex {n : Int} (h : n ≠ 0) : ∃ k a, n = tw k a := tw_of _ n (Nat.le_refl _) h
theorem tw_ne (k : Nat) (a : Int) : tw k a ≠ 0 := by
  unfold tw
  exact Int.mul_ne_zero (Int.ne_of_gt (Int.pow_pos (by decide))) (by omega)
theorem tw_low (k : Nat) (a : Int) : Builtin.bitAnd (tw k a) (-(tw k a)) = 2 ^ k := PySem.W.kbt_low k a
theorem bits_two (k : Nat) : ((Builtin.Int.intBits ((2 : Int) ^ k) : Nat) : Int) - 1 = (k : Int) := by
  have e : ((2 : Int) ^ k) = ((2 ^ k : Nat) : Int) := by rw [Int.natCast_pow]; rfl
  have p : 0 < 2 ^ k := Nat.pow_pos (by decide)
  unfold Builtin.Int.intBits
  rw [e, if_neg (by rw [beq_iff_eq]; omega), Int.natAbs_natCast, Nat.log2_two_pow]
  omega
theorem tw_shr {j k : Nat} (h : j ≤ k) (a : Int) : tw k a / 2 ^ j = tw (k - j) a := by
  unfold tw
  have e : (2 : Int) ^ k = 2 ^ j * 2 ^ (k - j) := by rw [← Int.pow_add]; congr 1; omega
  rw [e, Int.mul_assoc]
  exact Int.mul_ediv_cancel_left _ (Int.ne_of_gt (Int.pow_pos (by decide)))
theorem tw_zero (a : Int) : tw 0 a = 2 * a + 1 := by unfold tw; omega
theorem tw_split {j k : Nat} (h : j ≤ k) (a : Int) : tw k a = 2 ^ j * tw (k - j) a := by
  unfold tw
  rw [← Int.mul_assoc, ← Int.pow_add]; congr 2; omega
theorem gcd_odd {n : Int} (k : Nat) (b : Int) (h : n % 2 = 1 ∨ k = 0) : Nat.gcd n.natAbs (tw k b).natAbs = Nat.gcd n.natAbs (tw 0 b).natAbs := by
  rcases h with h | rfl
  · have e : (tw k b).natAbs = 2 ^ k * (tw 0 b).natAbs := by
      unfold tw; rw [Int.natAbs_mul, Int.natAbs_pow, Int.pow_zero, Int.one_mul]; rfl
    rw [e]
    have c : Nat.Coprime n.natAbs (2 ^ k) := by
      refine Nat.Coprime.pow_right _ ?_
      rw [Nat.coprime_comm]
      have : n.natAbs % 2 = 1 := by omega
      rw [Nat.Coprime, Nat.gcd_rec, this]; decide
    exact Nat.Coprime.gcd_mul_left_cancel_right _ c.symm
  · rfl
theorem tw_odd (a : Int) : tw 0 a % 2 = 1 := by rw [tw_zero]; omega
theorem bd_tw {m j k : Nat} {a : Int} (h : Bd m (tw k a)) (hj : j ≤ k) : Bd m (tw j a) := by
  unfold Bd tw at *
  rw [Int.natAbs_mul, Int.natAbs_pow] at *
  refine Nat.lt_of_le_of_lt (Nat.mul_le_mul_right _ ?_) h
  exact Nat.pow_le_pow_right (by decide) hj
theorem divInt_tw {i j t : Nat} (hi : t ≤ i) (hj : t ≤ j) (a b : Int) : tw i a /. tw j b = tw (i - t) a /. tw (j - t) b := by
  rw [tw_split hi, tw_split hj, Rat.divInt_mul_left (Int.ne_of_gt (Int.pow_pos (by decide)))]
end Fr
namespace Gd
open PySem PySem.Spec PyProof.Rows L2
section
variable {X : Cx} {Γ : List VD} {B B1 B2 B3 B' : Bag} {e a b c : Expr} {es : List Expr} {d da db dc : VD} {pos p pos' apos : Pos} {rest ss s1 s2 : List Stmt} {E : En}
theorem ej_band {i j : Int} (ha : EJ X Γ B a (.da (.int i)) B1) (hb : EJ X Γ B1 b (.da (.int j)) B2) : EJ X Γ B (.BinOp a .BitAnd b pos) (.da (.int (Builtin.bitAnd i j))) B2 :=
  ej_ii ha hb op_and fun _ => .int _
theorem ej_shr {i : Int} {k : Nat} (ha : EJ X Γ B a (.da (.int i)) B1) (hb : EJ X Γ B1 b (.da (.int (k : Int))) B2) : EJ X Γ B (.BinOp a .RShift b pos) (.da (.int (i / 2 ^ k))) B2 :=
  ej_iic ha hb op_shr (Int.natCast_nonneg k) fun _ => .int _
theorem ej_bits {i : Int} (ha : EJ X Γ B a (.da (.int i)) B1) (hbase : attributeBase a "bit_length" X.env (eval a X.env) = eval a X.env := by rfl) (hline : (apos.endLine == pos.line) = true := by rfl) :
    EJ X Γ B (.Call (.Attribute a "bit_length" apos) [] [] pos) (.da (.int (Builtin.Int.intBits i : Nat))) B1 := fun g σ H0 H E O Q q =>
  ⟨_, pe_bits (we a) hbase hline, ha g σ H0 H E O _ fun v H1 H' t o r => ⟨i, rvI r, q _ H1 H' t o (Rp.int _)⟩⟩
end
end Gd
namespace Lw
open PySem PySem.Spec PyProof.Rows L2 Gd Fr
open scoped Rat
inductive R_twos : Rel
  | mk (k : Nat) (a : Int) (B : Bag) : R_twos [.da (.int (tw k a))] B (.int (k : Int)) B
theorem fq_cop {n : Int} {d : Nat} (hd : d ≠ 0) (h : Nat.Coprime n.natAbs d) : fq (n /. (d : Int)) = .tuple [.int n, .int (d : Int)] := by
  have hd' : (d : Int) ≠ 0 := by omega
  have c1 : com n (d : Int) = 1 := by
    unfold com
    rw [if_neg (by omega), Int.natAbs_natCast, h.gcd_eq_one]; rfl
  have e1 := red_num (n := n) hd'
  have e2 := red_den (n := n) hd'
  rw [c1, Int.fdiv_one] at e1 e2
  unfold fq
  rw [← e1, ← e2]
theorem div_eq {n d n' d' : Int} (h : d ≠ 0) (h' : d' ≠ 0) (e : n * d' = n' * d) : n /. d = n' /. d' := (Rat.divInt_eq_divInt_iff h h').mpr e
theorem div_cross {n d : Int} (h : d ≠ 0) : n * ((n /. d).den : Int) = (n /. d).num * d := by
  have := (Rat.divInt_eq_divInt_iff h (den_ne (n /. d))).mp (self_div (n /. d)).symm
  exact this
theorem num_dvd {n d : Int} (h : d ≠ 0) : (n /. d).num.natAbs ∣ n.natAbs := by
  have e := congrArg Int.natAbs (div_cross (n := n) h)
  rw [Int.natAbs_mul, Int.natAbs_mul, Int.natAbs_natCast] at e
  have : (n /. d).num.natAbs ∣ n.natAbs * (n /. d).den := ⟨_, e⟩
  exact Nat.Coprime.dvd_of_dvd_mul_right (n /. d).reduced this
theorem den_dvd {n d : Int} (h : d ≠ 0) : (n /. d).den ∣ d.natAbs := by
  have e := congrArg Int.natAbs (div_cross (n := n) h)
  rw [Int.natAbs_mul, Int.natAbs_mul, Int.natAbs_natCast] at e
  have : (n /. d).den ∣ (n /. d).num.natAbs * d.natAbs := ⟨n.natAbs, by rw [← e, Nat.mul_comm]⟩
  exact Nat.Coprime.dvd_of_dvd_mul_left (n /. d).reduced.symm this
theorem mul_by (x y : Rat) : (.tuple [.int ((x.num /. (y.den : Int)).num * (y.num /. (x.den : Int)).num), .int (((y.num /. (x.den : Int)).den : Int) * ((x.num /. (y.den : Int)).den : Int))] : PyData) = fq (x * y) := by
  have c1 := div_cross (n := x.num) (den_ne y)
  have c2 := div_cross (n := y.num) (den_ne x)
  have d1 := num_dvd (n := x.num) (den_ne y)
  have d2 := den_dvd (n := x.num) (den_ne y)
  have d3 := num_dvd (n := y.num) (den_ne x)
  have d4 := den_dvd (n := y.num) (den_ne x)
  have r1 := (x.num /. (y.den : Int)).reduced
  have r2 := (y.num /. (x.den : Int)).reduced
  have p1 := (x.num /. (y.den : Int)).den_pos
  have p2 := (y.num /. (x.den : Int)).den_pos
  generalize x.num /. (y.den : Int) = u at *
  generalize y.num /. (x.den : Int) = v at *
  rw [Int.natAbs_natCast] at d2 d4
  have k1 : Nat.Coprime u.num.natAbs v.den := (x.reduced.coprime_dvd_left d1).coprime_dvd_right d4
  have k2 : Nat.Coprime v.num.natAbs u.den := (y.reduced.coprime_dvd_left d3).coprime_dvd_right d2
  have k : Nat.Coprime (u.num * v.num).natAbs (v.den * u.den) := by
    rw [Int.natAbs_mul]
    exact Nat.Coprime.mul_left (Nat.Coprime.mul_right k1 r1) (Nat.Coprime.mul_right r2 k2)
  have hne : v.den * u.den ≠ 0 := Nat.ne_of_gt (Nat.mul_pos p2 p1)
  have e := fq_cop hne k
  rw [← Int.natCast_mul, ← e, ← mul_div x y]
  congr 1
  refine div_eq (by omega) (Int.mul_ne_zero (den_ne x) (den_ne y)) ?_
  rw [Int.natCast_mul]
  have : u.num * (y.den : Int) * (v.num * (x.den : Int)) = x.num * (u.den : Int) * (y.num * (v.den : Int)) := by rw [c1, c2]
  grind
def addG (x y : Rat) : Nat := Nat.gcd (x.den : Int).natAbs (y.den : Int).natAbs
def addL (x y : Rat) : Nat := x.den / addG x y
def addR (x y : Rat) : Nat := y.den / addG x y
theorem cop_half {a b : Int} {L R g : Nat} {n : Nat} (h1 : Nat.Coprime a.natAbs (g * L)) (h2 : Nat.Coprime L R) : Nat.Coprime (a * (R : Int) + b * (L : Int)).natAbs L := by
  have d1 := Nat.gcd_dvd_left (a * (R : Int) + b * (L : Int)).natAbs L
  have d2 := Nat.gcd_dvd_right (a * (R : Int) + b * (L : Int)).natAbs L
  unfold Nat.Coprime
  generalize Nat.gcd (a * (R : Int) + b * (L : Int)).natAbs L = k at *
  have i1 : (k : Int) ∣ a * (R : Int) + b * (L : Int) := Int.ofNat_dvd_left.mpr d1
  have i2 : (k : Int) ∣ b * (L : Int) := Int.dvd_trans (Int.natCast_dvd_natCast.mpr d2) (Int.dvd_mul_left _ _)
  have i3 : (k : Int) ∣ a * (R : Int) := by
    have := Int.dvd_sub i1 i2
    rwa [Int.add_sub_cancel] at this
  have d3 : k ∣ a.natAbs * R := by
    have := Int.ofNat_dvd_left.mp i3
    rwa [Int.natAbs_mul, Int.natAbs_natCast] at this
  have d4 : k ∣ a.natAbs := Nat.Coprime.dvd_of_dvd_mul_right (h2.coprime_dvd_left d2) d3
  have d5 : k ∣ g * L := Nat.dvd_trans d2 (Nat.dvd_mul_left _ _)
  exact Nat.dvd_one.mp (h1 ▸ Nat.dvd_gcd d4 d5)
theorem add_by (x y : Rat) {n d m c : Nat} (hx : Qz n d x) (hy : Qz m c y) :
    (0 : Int) < ((Nat.gcd (x.den : Int).natAbs (y.den : Int).natAbs : Nat) : Int) ∧ Bd d ((Nat.gcd (x.den : Int).natAbs (y.den : Int).natAbs : Nat) : Int) ∧ Bd d ((addL x y : Nat) : Int) ∧ Bd c ((addR x y : Nat) : Int) ∧
    (x.den : Int) / ((Nat.gcd (x.den : Int).natAbs (y.den : Int).natAbs : Nat) : Int) = ((addL x y : Nat) : Int) ∧ (y.den : Int) / ((Nat.gcd (x.den : Int).natAbs (y.den : Int).natAbs : Nat) : Int) = ((addR x y : Nat) : Int) ∧
    (.tuple [.int ((x.num * ((addR x y : Nat) : Int) + y.num * ((addL x y : Nat) : Int)) /. ((Nat.gcd (x.den : Int).natAbs (y.den : Int).natAbs : Nat) : Int)).num,
      .int (((addL x y : Nat) : Int) * ((addR x y : Nat) : Int) * (((x.num * ((addR x y : Nat) : Int) + y.num * ((addL x y : Nat) : Int)) /. ((Nat.gcd (x.den : Int).natAbs (y.den : Int).natAbs : Nat) : Int)).den : Int))] : PyData) = fq (x + y) := by
  have hxd := x.den_pos
  have hyd := y.den_pos
  have eG : Nat.gcd (x.den : Int).natAbs (y.den : Int).natAbs = addG x y := rfl
  rw [eG]
  have gd : addG x y = Nat.gcd x.den y.den := by unfold addG; rw [Int.natAbs_natCast, Int.natAbs_natCast]
  have gp : 0 < addG x y := by rw [gd]; exact Nat.gcd_pos_of_pos_left _ hxd
  have gl : addG x y ∣ x.den := by rw [gd]; exact Nat.gcd_dvd_left _ _
  have gr : addG x y ∣ y.den := by rw [gd]; exact Nat.gcd_dvd_right _ _
  have eL : x.den = addG x y * addL x y := (Nat.mul_div_cancel' gl).symm
  have eR : y.den = addG x y * addR x y := (Nat.mul_div_cancel' gr).symm
  have cLR : Nat.Coprime (addL x y) (addR x y) := by
    unfold addL addR; rw [gd]; exact Nat.coprime_div_gcd_div_gcd (Nat.gcd_pos_of_pos_left _ hxd)
  have bx := hx.de
  have by' := hy.de
  have lx : addL x y ≤ x.den := Nat.div_le_self _ _
  have ly : addR x y ≤ y.den := Nat.div_le_self _ _
  have lg : addG x y ≤ x.den := Nat.le_of_dvd hxd gl
  unfold Bd at bx by'
  refine ⟨by omega, by unfold Bd; omega, by unfold Bd; omega, by unfold Bd; omega, ?_, ?_, ?_⟩
  · unfold addL; rw [Int.natCast_ediv]
  · unfold addR; rw [Int.natCast_ediv]
  have hg' : ((addG x y : Nat) : Int) ≠ 0 := by omega
  have c1 := div_cross (n := x.num * ((addR x y : Nat) : Int) + y.num * ((addL x y : Nat) : Int)) hg'
  have d1 := num_dvd (n := x.num * ((addR x y : Nat) : Int) + y.num * ((addL x y : Nat) : Int)) hg'
  have r1 := ((x.num * ((addR x y : Nat) : Int) + y.num * ((addL x y : Nat) : Int)) /. ((addG x y : Nat) : Int)).reduced
  have p1 := ((x.num * ((addR x y : Nat) : Int) + y.num * ((addL x y : Nat) : Int)) /. ((addG x y : Nat) : Int)).den_pos
  have rx := x.reduced
  have ry := y.reduced
  rw [eL] at rx
  rw [eR] at ry
  have k1 := cop_half (a := x.num) (b := y.num) (n := 0) rx cLR
  have k2 := cop_half (a := y.num) (b := x.num) (n := 0) ry cLR.symm
  rw [Int.add_comm] at k2
  have exy := add_div x y
  have hLp : 0 < addL x y := Nat.pos_of_ne_zero fun z => by rw [z, Nat.mul_zero] at eL; omega
  have hRp : 0 < addR x y := Nat.pos_of_ne_zero fun z => by rw [z, Nat.mul_zero] at eR; omega
  have eL' : (x.den : Int) = ((addG x y : Nat) : Int) * ((addL x y : Nat) : Int) := by rw [← Int.natCast_mul, ← eL]
  have eR' : (y.den : Int) = ((addG x y : Nat) : Int) * ((addR x y : Nat) : Int) := by rw [← Int.natCast_mul, ← eR]
  rw [eL', eR'] at exy
  rw [← exy]
  generalize addL x y = L at *
  generalize addR x y = R at *
  generalize addG x y = g at *
  generalize hN : x.num * (R : Int) + y.num * (L : Int) = N at *
  generalize N /. (g : Int) = q at *
  have k : Nat.Coprime q.num.natAbs (L * R * q.den) :=
    Nat.Coprime.mul_right (Nat.Coprime.mul_right (k1.coprime_dvd_left d1) (k2.coprime_dvd_left d1)) r1
  have hne : L * R * q.den ≠ 0 := Nat.ne_of_gt (Nat.mul_pos (Nat.mul_pos hLp hRp) p1)
  have e := fq_cop hne k
  rw [← Int.natCast_mul, ← Int.natCast_mul, ← e]
  congr 1
  refine div_eq (by omega) (Int.mul_ne_zero (Int.mul_ne_zero (by omega) (by omega)) (Int.mul_ne_zero (by omega) (by omega))) ?_
  rw [Int.natCast_mul, Int.natCast_mul]
  have e2 : x.num * ((g : Int) * (R : Int)) + y.num * ((g : Int) * (L : Int)) = (g : Int) * N := by rw [← hN]; grind
  rw [e2]
  have : (g : Int) * N * ((L : Int) * (R : Int) * (q.den : Int)) = (g : Int) * (L : Int) * (R : Int) * (N * (q.den : Int)) := by grind
  rw [this, c1]; grind
end Lw
namespace Gd
open PySem PySem.Spec PyProof.Rows L2
section
variable {X : Cx}
end
section
variable {X : Cx} {Γ : List VD} {B B1 B2 B3 B' : Bag} {e a b c : Expr} {es : List Expr} {d da db dc : VD} {pos p pos' apos : Pos} {kp : Pos} {rest ss s1 s2 : List Stmt} {E : En}
theorem ej_sum {ns : List Int} (hc : X.calm = true) (hm : X.mg "sum" = none) (ha : EJ X Γ B a (.da (.list (ns.map .int))) B1) (hs : starEach [a] X.env = [(false, eval a X.env)] := by rfl) (hg : Gl X "sum" := by rfl) :
    EJ X Γ B (.Call (.Name "sum" p) [a] [] pos) (.da (.int ns.sum)) B1 :=
  ej_callB (cr_sum hc) hm (aj_cons ha aj_nil hs) (fun g vs H0 H O r Q q => by
    obtain ⟨v, rfl, h⟩ := rv1 r
    obtain ⟨p, xs, rfl, hx, rs⟩ := rvL h
    rw [RpAll.ints_of rs] at hx
    exact ⟨p, ns, rfl, SqL.of (O.ex _ _ hx), q _ _ _ To.refl O (Rp.int _)⟩) (hg := hg) (he := hs)
end
end Gd
namespace Gd
open PySem PySem.Spec PyProof.Rows L2
section
variable {X : Cx} {Γ : List VD} {B B1 B2 : Bag} {e c elt : Expr} {scope : Scope} {acc : List PyData} {pos pos' : Pos} {rest : List Stmt} {E : En} {d : VD}
theorem lc_turnP {j1 j2 : Nat} {g : Gh} {H1 H' : Hp} {A : Addr} {H'' H2 : Hp} {σ : L2.St} {v : V} {y1 y2 z : PyData} {Nx : Hp → Prop} (hj : j1 ≠ j2) (off : Off g A) (Ev : EnvD X.K g H1 σ Γ) (I : LcI X.K g H1 H' A acc B1 H2 H'') (r : Rp X.K H2 v (.tuple [y1, y2]))
    (hz : acc.length < 1000) (he : Blk X scope fun Y => EJ Y ((Γ.set j1 (.da y1)).set j2 (.da y2)) B1 elt (.da z) B2)
    (k : ∀ H3 H3', LcI X.K g H1 H' A (acc ++ [z]) B2 H3 H3' → Nx H3') :
    gTup X.K 2 (gNames [j1, j2]) v (wipe σ [j1, j2]) H'' fun σ2 H2 => wipe σ2 [j1, j2] = wipe σ [j1, j2] ∧ tYes σ2 H2 fun b H3 => if b = true then WB X scope elt σ2 H3 fun y H4 => ∃ acc, H4 A = some (.lst acc) ∧ acc.length < sizeLine ∧ Nx (upd H4 A (.lst (acc ++ [y]))) else Nx H3 := by
  obtain ⟨p, xs, rfl, hxs, rs⟩ := rvT (g := g) (show Rv X.K g H2 v (.da (.tuple [y1, y2])) from r)
  cases rs with
  | cons r1 rs =>
    cases rs with
    | cons r2 rs =>
      cases rs
      refine ⟨p, _, rfl, seqT I.on.ex hxs, rfl, _, _, rfl, _, _, rfl, rfl, ?_⟩
      rw [wipe2 hj]
      refine ⟨wipe2w hj, ?_⟩
      unfold tYes
      refine iteT ?_
      intro s hH C cl fp
      have ev := ((Ev.mono I.to.ex).set (d := .da y1) j1 r1).set (d := .da y2) j2 r2
      refine he s hH C cl fp g _ H2 H'' ev I.on _ fun w H4 H4' t2 o2 rw' => ?_
      obtain ⟨zs, h1, h2, J2⟩ := lcI_app off I t2 o2 rw'
      exact ⟨zs, h1, by rw [h2]; exact small1000 (Nat.le_of_lt hz), k _ _ J2⟩
theorem rj_lcP {α : Type} {j1 j2 : Nat} (L : List α) (P Q z : α → PyData) (hj : j1 ≠ j2) (hi : EJ X Γ B e (.da (.list (L.map fun a => .tuple [P a, Q a]))) B1) (hz : L.length ≤ 1000)
    (he : ∀ a ∈ L, Blk X scope fun Y => EJ Y ((Γ.set j1 (.da (P a))).set j2 (.da (Q a))) B1 elt (.da (z a)) B1) :
    RJ X Γ B (tLc (iList X.K (WE X e)) (gTup X.K 2 (gNames [j1, j2])) tYes (WB X scope elt) [j1, j2]) (.da (.list (L.map z))) B1 := fun g σ H0 H Ev O Q' q =>
  hi g σ H0 H Ev O _ fun v H1 H' t o r => by
    obtain ⟨p, xs, rfl, hxs, rs⟩ := rvL r
    refine ⟨p, rfl, ⟨xs, SqL.of (o.ex _ _ hxs)⟩, fun A hA => ?_⟩
    obtain ⟨off, I0⟩ := lcI_start o hA
    refine lc_list (xs := xs) (fun i H'' => ∃ H2, LcI X.K g H1 H' A ((L.take i).map z) B1 H2 H'') ⟨_, I0⟩ ?_ ?_ ?_
    · rintro i H'' _ ⟨H2, I⟩
      exact SqL.of (I.on.ex _ _ (I.to.ex _ _ hxs))
    · rintro i w H'' hw ⟨H2, I⟩
      obtain ⟨y, hy, ry⟩ := rs.get hw
      rw [List.getElem?_map] at hy
      obtain ⟨a, ha, rfl⟩ := Option.map_eq_some_iff.mp hy
      have hm := List.mem_of_getElem? ha
      have hlt : i < L.length := (List.getElem?_eq_some_iff.mp ha).1
      have hle : (((L.take i).map z).length) < 1000 := by
        rw [List.length_map, List.length_take]; omega
      refine lc_turnP hj off (Ev.mono t.ex) I (ry.mono I.to.ex) hle (he a hm) fun H3 H3' J => ⟨H3, ?_⟩
      rw [List.take_add_one, ha, List.map_append]
      exact J
    · rintro H'' ⟨H2, I⟩
      rw [rs.length, List.length_map, List.take_length] at I
      obtain ⟨H3, t3, o3, r3⟩ := lcI_end off t I
      exact q _ H3 H'' t3 o3 r3
theorem ej_lcP {j1 j2 : Nat} {x1 x2 : Str} {ts : List Expr} {kt : Nat} {pt : Pos} (nd : X.N.Nodup) (hc : X.calm = true) (ok : BlkOk X.N X.env.scope scope [(x1, j1), (x2, j2)])
    (hg : ∀ (s : Shared) (H : Hp) (C : Addr) (cl : List (Str × Addr)) (fp : List Addr), PG (X.blk s H scope (compEnvC scope cl C X.env) fp) (.Tuple ts kt pt) (gTup X.K 2 (gNames [j1, j2])))
    (r : RJ X Γ B (tLc (iList X.K (WE X e)) (gTup X.K 2 (gNames [j1, j2])) tYes (WB X scope elt) [j1, j2]) d B1) (hq : ∀ x, foldedSetIterable e X.env x = pure x := by intro _; rfl) :
    EJ X Γ B (.ListComp elt [⟨.Tuple ts kt pt, e, [], 0⟩] scope pos) d B1 := ej_of (pe_lc (own := [(x1, j1), (x2, j2)]) hc nd (pi_list (we e)) ok hg (fun _ _ _ _ _ => pts_nil) (wb scope elt) hq) r
end
end Gd
set_option exponentiation.threshold 20000
namespace Lw
open PySem PySem.Spec PyProof.Rows L2 Gd Fr
open scoped Rat
def sR : List Rat → Rat
  | [] => 0
  | x :: xs => x + sR xs
theorem sR_app (xs ys : List Rat) : sR (xs ++ ys) = sR xs + sR ys := by
  induction xs with
  | nil => show sR ys = 0 + sR ys; grind
  | cons x xs ih => show x + sR (xs ++ ys) = x + sR xs + sR ys; rw [ih]; grind
theorem sR_mul (k : Rat) (xs : List Rat) : sR (xs.map fun x => x * k) = sR xs * k := by
  induction xs with
  | nil => show (0 : Rat) = 0 * k; grind
  | cons x xs ih => show x * k + sR (xs.map fun x => x * k) = (x + sR xs) * k; rw [ih]; grind
theorem sR_int (ns : List Int) : sR (ns.map fun n : Int => (n : Rat)) = ((ns.sum : Int) : Rat) := by
  induction ns with
  | nil => rfl
  | cons n ns ih =>
    show (n : Rat) + sR (ns.map fun n : Int => (n : Rat)) = _
    rw [ih, List.sum_cons, Rat.intCast_add]
theorem bd_sumL {n : Nat} : ∀ (k : Nat) (ns : List Int), (∀ i ∈ ns, Bd n i) → ns.length ≤ 2 ^ k → Bd (n + k) ns.sum := by
  intro k ns h hl
  have : ns.sum.natAbs ≤ ns.length * (2 ^ n - 1) := by
    clear hl
    induction ns with
    | nil => exact Nat.zero_le _
    | cons i ns ih =>
      have h1 := h i List.mem_cons_self
      have h2 := ih fun j hj => h j (List.mem_cons_of_mem _ hj)
      have h3 := Int.natAbs_add_le i ns.sum
      rw [List.sum_cons, List.length_cons, Nat.add_one_mul]
      unfold Bd at h1
      omega
  have p : 0 < 2 ^ n := Nat.pow_pos (by decide)
  have q : 0 < 2 ^ k := Nat.pow_pos (by decide)
  unfold Bd
  refine Nat.lt_of_le_of_lt this ?_
  refine Nat.lt_of_le_of_lt (Nat.mul_le_mul_right _ hl) ?_
  rw [Nat.pow_add, Nat.mul_comm (2 ^ n)]
  exact Nat.mul_lt_mul_of_pos_left (by omega) q
def uI (b : Nat) (low s c e : Int) : Int := if s = 1 then -(c * ((b ^ (e - low).toNat : Nat) : Int)) else c * ((b ^ (e - low).toNat : Nat) : Int)
def uV (b : Nat) (low : Int) : Va → Int
  | .num s c e => uI b low s c e
  | _ => 0
theorem pw_natR (b k : Nat) : pw b (k : Int) = ((b ^ k : Nat) : Rat) := by unfold pw; rw [if_neg (by omega), Int.toNat_natCast]
theorem uV_wQ {b p : Nat} {low high : Int} (F : Fm b p low high) {v : Va} (h : Vok b p low high v) : v.wQ b = (uV b low v : Rat) * pw b low := by
  cases v with
  | nan => show (0 : Rat) = ((0 : Int) : Rat) * _; rw [Rat.intCast_zero]; grind
  | inf s => show (0 : Rat) = ((0 : Int) : Rat) * _; rw [Rat.intCast_zero]; grind
  | num s c e =>
    obtain ⟨h1, h3, h4, h5, h6⟩ := h
    have e1 : pw b e = ((b ^ (e - low).toNat : Nat) : Rat) * pw b low := by
      rw [← pw_natR, ← pw_add F.b2]; congr 1; omega
    show ((if s = 1 then -c else c : Int) : Rat) * pw b e = (uI b low s c e : Rat) * pw b low
    rw [e1, ← Rat.mul_assoc]
    congr 1
    have e2 : ((b ^ (e - low).toNat : Nat) : Rat) = (((b ^ (e - low).toNat : Nat) : Int) : Rat) := (Rat.intCast_natCast _).symm
    rw [e2, ← Rat.intCast_mul]
    congr 1
    unfold uI
    split
    · rw [Int.neg_mul]
    · rfl
theorem Fm.wide {b p : Nat} {low high : Int} (F : Fm b p low high) {k : Nat} (hk : (k : Int) ≤ high - low) : b ^ k < 2 ^ 4680 := by
  have hb := F.b2
  have e1 : b ^ k ≤ b ^ ((-low).toNat + high.toNat) := Nat.pow_le_pow_right (by omega) (by omega)
  rw [Nat.pow_add] at e1
  have h1 := F.bl
  have h2 := F.bh
  have h3 : b ^ (-low).toNat * b ^ high.toNat < 2 ^ 2340 * 2 ^ 2340 := Nat.mul_lt_mul'' h1 h2
  have h4 : (2 : Nat) ^ 2340 * 2 ^ 2340 = 2 ^ 4680 := by rw [← Nat.pow_add]
  rw [h4] at h3
  exact Nat.lt_of_le_of_lt e1 h3
theorem uV_bd {b p : Nat} {low high : Int} (F : Fm b p low high) {v : Va} (h : Vok b p low high v) : Bd 5380 (uV b low v) := by
  have z : Bd 5380 0 := by unfold Bd; exact Nat.pow_pos (by decide)
  cases v with
  | nan => exact z
  | inf s => exact z
  | num s c e =>
    obtain ⟨h1, h3, h4, h5, h6⟩ := h
    have hw := F.wide (k := (e - low).toNat) (by omega)
    have hc : Bd 700 c := by have := F.bp; unfold Bd; omega
    have hm := hc.mul (Bd.nat (n := 4680) hw)
    show Bd 5380 (uI b low s c e)
    unfold uI
    split
    · exact hm.neg
    · exact hm
inductive R_units : Rel
  | mk (b p : Nat) (low high : Int) (s c e : Int) (B : Bag) (F : Fm b p low high) (h : Vok b p low high (.num s c e)) : R_units [.da (fmP b p low high), .da (Va.d (.num s c e))] B (.int (uI b low s c e)) B
abbrev Cnt := List (Va × Int)
def cntD (L : Cnt) : PyData := .list (L.map fun a => .tuple [a.1.d, .int a.2])
def csQ (b : Nat) (L : Cnt) : Rat := sR (L.map fun a => (a.2 : Rat) * a.1.wQ b)
def CntOk (b p : Nat) (low high : Int) (L : Cnt) : Prop := L.length ≤ 128 ∧ ∀ a ∈ L, Vok b p low high a.1 ∧ Bd 20 a.2
inductive R_csum : Rel
  | mk (b p : Nat) (low high : Int) (L : Cnt) (B : Bag) (F : Fm b p low high) (h : CntOk b p low high L) (hn : ∀ a ∈ L, a.1.isNum = true) : R_csum [.da (fmP b p low high), .da (cntD L)] B (fq (csQ b L)) B
theorem csQ_eq {b p : Nat} {low high : Int} (F : Fm b p low high) {L : Cnt} (h : CntOk b p low high L) : csQ b L = (((L.map fun a => a.2 * uV b low a.1).sum : Int) : Rat) * pw b low := by
  unfold csQ
  rw [← sR_int, ← sR_mul, List.map_map, List.map_map]
  congr 1
  refine List.map_congr_left fun a ha => ?_
  show (a.2 : Rat) * a.1.wQ b = ((a.2 * uV b low a.1 : Int) : Rat) * pw b low
  rw [uV_wQ F (h.2 a ha).1, Rat.intCast_mul, Rat.mul_assoc]
theorem cs_bd {b p : Nat} {low high : Int} (F : Fm b p low high) {L : Cnt} (h : CntOk b p low high L) : Bd 5407 (L.map fun a => a.2 * uV b low a.1).sum := by
  refine bd_sumL (n := 5400) 7 _ (fun i hi => ?_) (by rw [List.length_map]; exact h.1)
  obtain ⟨a, ha, rfl⟩ := List.mem_map.mp hi
  exact (h.2 a ha).2.mul (uV_bd F (h.2 a ha).1)
theorem qz_i {n : Nat} {i : Int} (h : Bd n i) : Qz n 1 (i : Rat) := ⟨by rw [Rat.num_intCast]; exact h, by rw [Rat.den_intCast]; unfold Bd; decide⟩
def ones (vs : List Va) : Cnt := vs.map fun v => (v, 1)
def sumQ (b : Nat) (vs : List Va) : Rat := sR (vs.map (Va.wQ b))
theorem ones_sum (b : Nat) (vs : List Va) : csQ b (ones vs) = sumQ b vs := by
  unfold csQ ones sumQ
  rw [List.map_map]
  congr 1
  refine List.map_congr_left fun v _ => ?_
  show ((1 : Int) : Rat) * v.wQ b = v.wQ b
  rw [Rat.intCast_one]; grind
theorem ones_ok {b p : Nat} {low high : Int} {vs : List Va} (hl : vs.length ≤ 128) (h : ∀ v ∈ vs, Vok b p low high v) : CntOk b p low high (ones vs) := by
  refine ⟨by unfold ones; rw [List.length_map]; exact hl, fun a ha => ?_⟩
  obtain ⟨v, hv, rfl⟩ := List.mem_map.mp ha
  exact ⟨h v hv, show Bd 20 (1 : Int) by unfold Bd; decide⟩
def VsOk (b p : Nat) (low high : Int) (vs : List Va) : Prop := vs.length ≤ 128 ∧ ∀ v ∈ vs, Vok b p low high v
def lisD (t : Bool) (ds : List PyData) : PyData := if t = true then .list ds else .tuple ds
inductive R_exsum : Rel
  | mk (b p : Nat) (low high : Int) (vs : List Va) (t : Bool) (B : Bag) (F : Fm b p low high) (h : VsOk b p low high vs) (hn : ∀ v ∈ vs, v.isNum = true) : R_exsum [.da (fmP b p low high), .da (lisD t (vs.map Va.d))] B (fq (sumQ b vs)) B
end Lw
namespace Gd
open PySem PySem.Spec PyProof.Rows L2
section
variable {P : Program} {w : World} {A : Around} {s : Shared} {E : Value → Shared → Prop}
end
section
variable {X : Cx} {Γ : List VD} {B B1 B2 B' : Bag} {e a b c : Expr} {es : List Expr} {d da db dc : VD} {pos p p' pos' : Pos} {rest ss s1 s2 : List Stmt} {E : En}
end
end Gd
namespace Gd
open PySem PySem.Spec PyProof.Rows L2
mutual
def lfree : PyData → Bool
  | .none => true
  | .bool _ => true
  | .int _ => true
  | .str _ => true
  | .list _ => false
  | .tuple xs => lfreeAll xs
  | .dict _ => true
def lfreeAll : List PyData → Bool
  | [] => true
  | x :: xs => lfree x && lfreeAll xs
end
def without (H : Hp) (a : Addr) : Hp := fun b => if b = a then none else H b
section
variable {K : PySem.W.Frag} {H : Hp} {a : Addr} {zs : List V}
theorem seqT_without (hz : H a = some (.lst zs)) {b : Addr} {xs : List V} (h : SqT K H b xs) : SqT K (without H a) b xs := by
  rcases h with (hh | ⟨ob, hh⟩) | hh
  · refine .inl (.inl ?_)
    have hb : b ≠ a := fun z => by rw [z, hz] at hh; cases hh
    unfold without; rw [if_neg hb]; exact hh
  · refine .inl (.inr ⟨ob, ?_⟩)
    have hb : b ≠ a := fun z => by rw [z, hz] at hh; cases hh
    unfold without; rw [if_neg hb]; exact hh
  · exact .inr hh
mutual
theorem Rp.without (hz : H a = some (.lst zs)) : ∀ {v : V} {d : PyData}, lfree d = true → Rp K H v d → Rp K (without H a) v d
  | _, _, _, .non => .non
  | _, _, _, .bl b => .bl b
  | _, _, _, .int i => .int i
  | _, _, _, .str x => .str x
  | _, _, h, .lst _ _ => by simp only [lfree] at h; cases h
  | _, _, h, .tup q r => .tup (seqT_without hz q) (RpAll.without hz (by simp only [lfree] at h; exact h) r)
  | _, _, _, .dct q => .dct (by
    unfold Gd.without
    rw [if_neg (fun z => by rw [z, hz] at q; cases q)]; exact q)
  | _, _, _, .dctT kvs q => .dctT kvs (by
    unfold Gd.without
    rw [if_neg (fun z => by rw [z, hz] at q; cases q)]; exact q)
theorem RpAll.without (hz : H a = some (.lst zs)) : ∀ {vs : List V} {ds : List PyData}, lfreeAll ds = true → RpAll K H vs ds → RpAll K (without H a) vs ds
  | _, _, _, .nil => .nil
  | _, _, h, .cons q r => by
    simp only [lfreeAll, Bool.and_eq_true] at h
    exact .cons (Rp.without hz h.1 q) (RpAll.without hz h.2 r)
end
end
theorem Own.thaw {K : PySem.W.Frag} {i : Nat} {g : Gh} {A0 A1 : Hp} {a : Addr} {B B1 : Bag} {Γ : List VD} {acc : List PyData} {σ : L2.St} {H0 H : Hp} (O : Own K i g A0 A1 a B Γ acc σ H0 H) {zs : List V} (hz : H a = some (.lst zs)) (rz : RpAll K H0 zs acc)
    {H2 H' : Hp} (t : To g (upd H0 a (.lst zs)) H H2 H') (o : On K g B1 H2 H') :
    Own K i g A0 A1 a B1 Γ acc σ (without H2 a) H' ∧ Same H0 (without H2 a) ∧ H2 a = some (.lst zs) := by
  have h2 : H2 a = some (.lst zs) := t.ex _ _ upd_same
  have sm : Same H0 (without H2 a) := fun b u e => by
    have hb : b ≠ a := fun z => by rw [z, O.no] at e; cases e
    unfold without; rw [if_neg hb]
    exact t.ex _ _ (by rw [upd_ne hb]; exact e)
  refine ⟨⟨⟨O.to.ex.trans sm, fun b u f q1 q2 => ?_⟩, O.fr, O.off, O.ev.mono sm, O.at', ?_, ⟨zs, o.ex _ _ h2, rz.mono sm⟩, ⟨fun b u e => ?_, fun b l e => ?_⟩⟩, sm, h2⟩
  · have hb : b ≠ a := fun z => by rw [z, O.fr] at q2; cases q2
    obtain ⟨p1, p2⟩ := O.to.un b u f q1 q2
    obtain ⟨p3, p4⟩ := t.un b u f (by rw [upd_ne hb]; exact p1) p2
    exact ⟨by unfold Gd.without; rw [if_neg hb]; exact p3, p4⟩
  · unfold without; rw [if_pos rfl]
  · unfold without at e
    by_cases hb : b = a
    · rw [if_pos hb] at e; cases e
    · rw [if_neg hb] at e; exact o.ex _ _ e
  · obtain ⟨p1, p2, p3⟩ := o.bag b l e
    obtain ⟨_, _, q3⟩ := O.on.bag b l e
    have hb : b ≠ a := fun z => O.off l (z ▸ e)
    have hl : l ≠ a := fun z => by rw [z, O.no] at q3; cases q3
    -- the bag's list stays where it stood
    refine ⟨by unfold Gd.without; rw [if_neg hb]; exact p1, p2, by unfold Gd.without; rw [if_neg hl]; exact p3⟩
def OEJ (X : Cx) (i : Nat) (Γ : List VD) (B : Bag) (acc : List PyData) (e : Expr) (y : PyData) (B' : Bag) : Prop :=
  ∀ g σ A0 A1 a H0 H, Own X.K i g A0 A1 a B Γ acc σ H0 H → ∀ Q : VK, (∀ v H0' H', Own X.K i g A0 A1 a B' Γ acc σ H0' H' → Same H0 H0' → Rp X.K H0' v y → Q v H') → WE X e σ H Q
section
variable {X : Cx} {i : Nat} {Γ : List VD} {B B1 B2 B' : Bag} {acc ds : List PyData} {e e2 a b c : Expr} {es : List Expr} {d da db : VD} {y y2 : PyData} {pos p p1 p2 p3 pos' : Pos} {rest ss s1 s2 : List Stmt} {E : EnO}
theorem oe_ej (h : EJ X Γ B e (.da y) B1) : OEJ X i Γ B acc e y B1 := fun g σ A0 A1 a H0 H w Q q =>
  h g σ H0 H w.ev w.on _ fun v H1 H' t o r => q v H1 H' (w.step t o) t.ex r
theorem oe_fz (h : EJ X (Γ.set i (.da (.list acc))) B e (.da y) B1) (hy : lfree y = true) : OEJ X i Γ B acc e y B1 := fun g σ A0 A1 a H0 H w Q q => by
  obtain ⟨zs, hz, rz⟩ := w.ls
  have sm : Same H0 (upd H0 a (.lst zs)) := fun b o e => by
    rw [upd_ne fun z : b = a => by rw [z, w.no] at e; cases e]; exact e
  have ev : EnvD X.K g (upd H0 a (.lst zs)) σ (Γ.set i (.da (.list acc))) := by
    have e := (w.ev.mono sm).set (v := .ref a) (d := .da (.list acc)) i (Rp.lst upd_same (rz.mono sm))
    have es : σ.set i (some (.ref a)) = σ := by
      apply List.ext_getElem?
      intro j
      by_cases hj : i = j
      · subst hj
        rw [List.getElem?_set_self (List.getElem?_eq_some_iff.mp w.at').1, w.at']
      · rw [List.getElem?_set_ne hj]
    rw [es] at e; exact e
  have on : On X.K g B (upd H0 a (.lst zs)) H := ⟨fun b o e => by
    by_cases hb : b = a
    · subst hb; rw [upd_same] at e; rw [hz]; exact e
    · rw [upd_ne hb] at e; exact w.on.ex b o e, fun b l e => by
    obtain ⟨p, q, r⟩ := w.on.bag b l e
    have hb : b ≠ a := fun z => w.off l (z ▸ e)
    have hl : l ≠ a := fun z => by rw [z, w.no] at r; cases r
    exact ⟨by rw [upd_ne hb]; exact p, q, by rw [upd_ne hl]; exact r⟩⟩
  refine h g σ _ H ev on _ fun v H2 H' t o r => ?_
  obtain ⟨w2, s2, h2⟩ := w.thaw hz rz t o
  exact q v _ H' w2 s2 (Rp.without h2 hy r)
theorem ow_appO {x : Str} (nd : X.N.Nodup) (h : OEJ X i Γ B acc e y B1) (hl : acc.length < 1000) (k : OwJ X i Γ B1 (acc ++ [y]) rest E) (hi : X.N[i]? = some x := by rfl)
    (hv : Vis X.env.scope x := by first | exact Or.inl rfl | exact Or.inr (Or.inl rfl) | exact Or.inr (Or.inr rfl))
    (h1 : (x == ("__debug__" : Str)) = false := by decide) (h2 : (x == ("__classdict__" : Str)) = false := by decide)
    (hbase : attributeBase (.Name x p1) "append" X.env (eval (.Name x p1) X.env) = eval (.Name x p1) X.env := by rfl)
    (hfew : ((backTo p3 (starEach [e] X.env)).all (fun x => !x.1) && (backToKw p3 (keywordEach [] X.env)).all (fun x => x.1.isSome)
      && decide ([e].length + ([] : List Keyword).length + (if ([] : List Keyword).isEmpty then 0 else 1) < 30)) = true := by rfl)
    (hline : (p2.endLine == p3.line) = true := by rfl) (hst : starEach [e] X.env = [(false, eval e X.env)] := by rfl)
    (hs : swapsWith (.Call (.Attribute (.Name x p1) "append" p2) [e] [] p3) none pos.line X.env = pure false := by rfl) :
    OwJ X i Γ B acc (.Expr (.Call (.Attribute (.Name x p1) "append" p2) [e] [] p3) pos :: rest) E := fun g σ A0 A1 a H0 H w D G =>
  ⟨_, pss_cons (ps_expr (pe_bm PySem.F.plainAttrs_list PySem.F.slot_list_append PySem.F.type_list_append mt_append (pe_var hi hv h1 h2) (pa_cons (we e) pa_nil hst) hbase hfew hline hst rfl) hs) (ws rest), by
    obtain ⟨zs, hz, rz⟩ := w.ls
    refine ⟨_, w.at', .inl ⟨rfl, _, SqL.of hz⟩, ?_⟩
    refine h g σ A0 A1 a H0 H w _ fun v H1 H' w2 sm rv => ?_
    obtain ⟨zs2, hz2, rz2⟩ := w2.ls
    refine ⟨a, zs2, v, rfl, rfl, hz2, by rw [rz2.length]; exact small1000 (Nat.le_of_lt hl), ?_⟩
    refine k g σ A0 A1 a H1 _ ⟨⟨w2.to.ex, fun b u f q1 q2 => ?_⟩, w2.fr, w2.off, w2.ev, w2.at', w2.no, ⟨zs2 ++ [v], upd_same, rz2.app (.cons rv .nil)⟩, ⟨fun b u q => ?_, fun b l q => ?_⟩⟩ D (G.on sm)
    · obtain ⟨p, q⟩ := w2.to.un b u f q1 q2
      exact ⟨p, by rw [upd_ne (ne_of_none q2 w2.fr)]; exact q⟩
    · rw [upd_ne (ne_of_none q w2.no)]; exact w2.on.ex b u q
    · obtain ⟨p1, p2, p3⟩ := w2.on.bag b l q
      exact ⟨p1, by rw [upd_ne fun z : b = a => w2.off l (z ▸ q)]; exact p2, p3⟩⟩
theorem ow_ins {x : Str} {k0 : Nat} (nd : X.N.Nodup) (h : OEJ X i Γ B acc e (.int (k0 : Int)) B1) (hh : OEJ X i Γ B1 acc e2 y B2) (hl : acc.length < 1000) (hk : k0 < 100000) (k : OwJ X i Γ B2 (acc.take k0 ++ [y] ++ acc.drop k0) rest E) (hi : X.N[i]? = some x := by rfl)
    (hv : Vis X.env.scope x := by first | exact Or.inl rfl | exact Or.inr (Or.inl rfl) | exact Or.inr (Or.inr rfl))
    (h1 : (x == ("__debug__" : Str)) = false := by decide) (h2 : (x == ("__classdict__" : Str)) = false := by decide)
    (hbase : attributeBase (.Name x p1) "insert" X.env (eval (.Name x p1) X.env) = eval (.Name x p1) X.env := by rfl)
    (hfew : ((backTo p3 (starEach [e, e2] X.env)).all (fun x => !x.1) && (backToKw p3 (keywordEach [] X.env)).all (fun x => x.1.isSome)
      && decide ([e, e2].length + ([] : List Keyword).length + (if ([] : List Keyword).isEmpty then 0 else 1) < 30)) = true := by rfl)
    (hline : (p2.endLine == p3.line) = true := by rfl) (hst : starEach [e, e2] X.env = (false, eval e X.env) :: starEach [e2] X.env := by rfl) (hst2 : starEach [e2] X.env = (false, eval e2 X.env) :: starEach [] X.env := by rfl)
    (hpl : (backTo p3 (starEach [e2] X.env)).any (·.1) = false := by rfl)
    (hs : swapsWith (.Call (.Attribute (.Name x p1) "insert" p2) [e, e2] [] p3) none pos.line X.env = pure false := by rfl) :
    OwJ X i Γ B acc (.Expr (.Call (.Attribute (.Name x p1) "insert" p2) [e, e2] [] p3) pos :: rest) E := fun g σ A0 A1 a H0 H w D G =>
  ⟨_, pss_cons (ps_expr (pe_bm PySem.F.plainAttrs_list PySem.F.slot_list_insert PySem.F.type_list_insert mt_insert (pe_var hi hv h1 h2) (pa_cons (we e) (pa_cons (we e2) pa_nil hst2) hst) hbase hfew hline hst hpl) hs) (ws rest), by
    obtain ⟨zs, hz, rz⟩ := w.ls
    refine ⟨_, w.at', .inl ⟨rfl, _, SqL.of hz⟩, ?_⟩
    refine h g σ A0 A1 a H0 H w _ fun v0 H1 H1' w1 sm1 rv0 => ?_
    refine hh g σ A0 A1 a H1 H1' w1 _ fun v H2 H' w2 sm2 rv => ?_
    cases rv0
    obtain ⟨zs2, hz2, rz2⟩ := w2.ls
    refine ⟨a, zs2, (k0 : Int), v, rfl, rfl, hz2, by rw [rz2.length]; exact small1000 (Nat.le_of_lt hl), by omega, by omega, ?_⟩
    rw [Int.toNat_natCast]
    refine k g σ A0 A1 a H2 _ ⟨⟨w2.to.ex, fun b u f q1 q2 => ?_⟩, w2.fr, w2.off, w2.ev, w2.at', w2.no, ⟨_, upd_same, ((rz2.take k0).app (.cons rv .nil)).app (rz2.drop k0)⟩, ⟨fun b u q => ?_, fun b l q => ?_⟩⟩ D (G.on (sm1.trans sm2))
    · obtain ⟨p, q⟩ := w2.to.un b u f q1 q2
      exact ⟨p, by rw [upd_ne (ne_of_none q2 w2.fr)]; exact q⟩
    · rw [upd_ne (ne_of_none q w2.no)]; exact w2.on.ex b u q
    · obtain ⟨p1, p2, p3⟩ := w2.on.bag b l q
      exact ⟨p1, by rw [upd_ne fun z : b = a => w2.off l (z ▸ q)]; exact p2, p3⟩⟩
theorem ow_forR (j : Nat) {x : Str} {n : Nat} {px pr pc : Pos} (nd : X.N.Nodup) (hc : X.calm = true) (hm : X.mg "range" = none) (hij : j ≠ i) (P : Nat → List VD → Bag → List PyData → Prop) (ha : EJ X Γ B a (.da (.int (n : Int))) B1) (hn : n ≤ 100000) (h0 : P 0 Γ B1 acc)
    (hs : ∀ (k : Nat) Γ' B' acc', k < n → P k Γ' B' acc' → OwJ X i (Γ'.set j (.da (.int (k : Int)))) B' acc' s1 { nx := P (k + 1), fx := fun _ _ => False, ct := P (k + 1), rt := E.rt })
    (hd : ∀ Γ' B' acc', P n Γ' B' acc' → OwJ X i Γ' B' acc' rest E) (hN : X.N[j]? = some x := by rfl) (hx : Loc X.env.scope x := by first | exact Or.inl rfl | exact Or.inr rfl)
    (hf : X.fn x = true ∨ X.env.scope.names.lookup x = some .local := by first | exact Or.inl rfl | exact Or.inr rfl)
    (hp : PassesOwn (model X.prog X.w) X.A X.env X.xe := by exact PassesOwn.never) (hq : ∀ x, foldedSetIterable (.Call (.Name "range" pr) [a] [] pc) X.env x = pure x := by intro _; rfl)
    (hst : starEach [a] X.env = [(false, eval a X.env)] := by rfl) (hg : Gl X "range" := by rfl) :
    OwJ X i Γ B acc (.For (.Name x px) (.Call (.Name "range" pr) [a] [] pc) s1 [] pos :: rest) E := fun g σ A0 A1 ad H0 H w D G =>
  ⟨_, pss_cons (ps_for hp hc (pi_range1 hg hm (wa [a]) hst) (pg_name nd hN hx hf) (ws s1) hq) (ws rest), (aj_cons (ds := []) ha aj_nil hst) g σ H0 H w.ev w.on _ fun vs H1 H' t o r => by
    obtain ⟨v, rfl, h⟩ := rv1 r
    have w1 := w.step t o
    refine ⟨(n : Int), by rw [rvI h], by omega, by omega, ?_⟩
    rw [Int.toNat_natCast]
    refine for_range (lo := 0) (n := n) (fun k σ' H'' => ∃ Γ' B' acc' H2, P k Γ' B' acc' ∧ Same H1 H2 ∧ Own X.K i g A0 A1 ad B' Γ' acc' σ' H2 H'') ⟨Γ, B1, acc, H1, h0, Same.refl _, w1⟩ ?_ ?_
    · rintro k σ' H'' hlt ⟨Γ', B', acc', H2, hP, sm, w2⟩
      rw [Int.zero_add]
      exact hs k Γ' B' acc' hlt hP g _ A0 A1 ad H2 H'' (w2.set (d := .da (.int (k : Int))) j hij (Rp.int _)) _ ⟨fun Γ3 B3 acc3 σ3 H3 H3' q w3 m => ⟨Γ3, B3, acc3, H3, q, sm.trans m, w3⟩, fun _ _ _ _ _ q => q.elim, fun r B3 v H3 H3' q t3 o3 rv => G.rt r B3 v H3 H3' q t3 o3 rv,
        fun _ _ _ _ _ _ q => q.elim, fun Γ3 B3 acc3 σ3 H3 H3' q w3 m => ⟨Γ3, B3, acc3, H3, q, sm.trans m, w3⟩, fun _ _ _ _ _ _ q => q.elim, fun _ _ _ _ _ q => q.elim⟩
    · rintro σ' H'' ⟨Γ', B', acc', H2, hP, sm, w2⟩
      exact hd Γ' B' acc' hP g σ' A0 A1 ad H2 H'' w2 D (G.on (t.ex.trans sm))⟩
end
end Gd
namespace Gd
open PySem PySem.Spec PyProof.Rows L2
abbrev Post := PyData → Bag → Prop
def EX (X : Cx) (Γ : List VD) (B : Bag) (e : Expr) (Φ : Post) : Prop :=
  ∀ g σ H0 H, EnvD X.K g H0 σ Γ → On X.K g B H0 H → ∀ Q : VK,
    (∀ v H0' H' y B', Φ y B' → To g H0 H H0' H' → On X.K g B' H0' H' → Rp X.K H0' v y → Q v H') → WE X e σ H Q
def AX (X : Cx) (Γ : List VD) (B : Bag) (es : List Expr) (Φ : List VD → Bag → Prop) : Prop :=
  ∀ g σ H0 H, EnvD X.K g H0 σ Γ → On X.K g B H0 H → ∀ Q : List V → Hp → Prop,
    (∀ vs H0' H' ds B', Φ ds B' → To g H0 H H0' H' → On X.K g B' H0' H' → RvAll X.K g H0' vs ds → Q vs H') → WA X es σ H Q
def DefSpX (K : PySem.W.Frag) (Pre : List VD → Bag → Prop) (Po : List VD → Bag → Post) : Sp := fun vs H Q _ =>
  ∃ g Γ B H0, RvAll K g H0 vs Γ ∧ On K g B H0 H ∧ Pre Γ B ∧
    ∀ v H0' H' r B', Po Γ B r B' → To g H0 H H0' H' → On K g B' H0' H' → Rp K H0' v r → Q v H'
def CalX (P : Program) (w : World) (K : PySem.W.Frag) (mg : Str → Option Value) (base : Heap) (x : Str) (k : Nat) (Pre : List VD → Bag → Prop) (Po : List VD → Bag → Post) : Prop :=
  ∃ f fd ps, FnG P w K mg base k f fd ps (DefSpX K Pre Po) ∧ mg x = some (.ref f) ∧ PySem.W.keepIn K (.ref f) = true ∧ Binds K fd ps []
theorem calx_at {P : Program} {w : World} {K : PySem.W.Frag} {mg : Str → Option Value} {base : Heap} {x : Str} {st : Stmt} {N ps : List Str} {k : Nat} {Pre : List VD → Bag → Prop} {Po : List VD → Bag → Post}
    (T : At K mg x st ps) (S : FnScope N ps (defScope st)) (len : ∀ Γ B, Pre Γ B → Γ.length = ps.length)
    (body : ∀ (f : Addr) (cdv : Value) (A : Around) (out : List Env) (s : Shared) (H : Hp) (E : XK),
      Gx k (cxOf CX0 P w K mg base N x (defScope st) f cdv A out s H E).nox → ∀ Γ B, Pre Γ B →
      SJ (cxOf CX0 P w K mg base N x (defScope st) f cdv A out s H E).nox (Γ ++ List.replicate (N.length - ps.length) .no) B (defBody st)
        { nx := fun _ B2 => Po Γ B .none B2, rt := fun d B2 => Po Γ B d B2 }) : CalX P w K mg base x (k + 1) Pre Po := by
  obtain ⟨f, fd, F, hm, hb⟩ := T
  have hpl : ps.length ≤ N.length := by
    have := congrArg List.length S.pre
    rw [List.length_take] at this; omega
  refine ⟨f, fd, ps, fnG_of F S ?_ ?_, hm, F.kp, hb⟩
  · rintro vs H Q E ⟨g, Γ, B, H0, a, b, c, d⟩
    rw [a.length]; exact len _ _ c
  · intro cdv A out s H vs Q E G ⟨g, Γ, B, H0, a, b, c, d⟩
    have hl := len _ _ c
    have E0' := start_env (N := N) a (by rw [hl]; exact hpl)
    rw [hl] at E0'
    refine body f cdv A out s H E G Γ B c g _ H0 H E0' b _ ⟨?_, ?_, ?_, ?_⟩
    · intro Γ2 B2 σ H1 H' z t _ o
      exact d _ _ _ _ _ z t o .non
    · intro r2 B2 v H1 H' z t o rv
      exact d _ _ _ _ _ z t o rv
    · intro _ _ _ _ _ z; exact z.elim
    · intro _ _ _ _ _ z; exact z.elim
theorem Cal.x {P : Program} {w : World} {K : PySem.W.Frag} {mg : Str → Option Value} {base : Heap} {x : Str} {k : Nat} {R : Rel} {Pre : List VD → Bag → Prop} {Po : List VD → Bag → Post}
    (c : Cal P w K mg base x k R) (h : ∀ Γ B, Pre Γ B → ∃ r B', R Γ B r B' ∧ Po Γ B r B') : CalX P w K mg base x k Pre Po := by
  obtain ⟨f, fd, ps, F, h1, h2, h3⟩ := c
  have im : ∀ vs H Q E, DefSpX K Pre Po vs H Q E → DefSp K R vs H Q E := by
    rintro vs H Q E ⟨g, Γ, B, H0, a, b, c, d⟩
    obtain ⟨r, B', hR, hP⟩ := h Γ B c
    exact ⟨g, Γ, B, H0, r, B', a, b, hR, fun v H0' H' t o rv => d v H0' H' r B' hP t o rv⟩
  exact ⟨f, fd, ps, ⟨fun vs H Q E q => F.len vs H Q E (im _ _ _ _ q), fun A o s H ar us vs Q E q1 q2 q3 q4 q5 q => F.run A o s H ar us vs Q E q1 q2 q3 q4 q5 (im _ _ _ _ q)⟩, h1, h2, h3⟩
section
variable {X : Cx} {Γ : List VD} {B B1 B2 B' : Bag} {e a b c : Expr} {es : List Expr} {d da db : VD} {y : PyData} {pos p pos' : Pos} {rest ss s1 s2 : List Stmt} {E : En} {Φ : Post} {Ω : List VD → Bag → Prop} {Ψ : Bool → Bag → Prop}
theorem ex_ej (h : EJ X Γ B e (.da y) B1) (hΦ : Φ y B1) : EX X Γ B e Φ := fun g σ H0 H Ev O Q q => h g σ H0 H Ev O Q fun v H1 H' t o r => q v H1 H' y B1 hΦ t o r
theorem ex_mono {Φ' : Post} (h : EX X Γ B e Φ) (m : ∀ y B', Φ y B' → Φ' y B') : EX X Γ B e Φ' := fun g σ H0 H Ev O Q q => h g σ H0 H Ev O Q fun v H1 H' y B' hy t o r => q v H1 H' y B' (m _ _ hy) t o r
theorem ax_aj {ds : List VD} (h : AJ X Γ B es ds B1) (hΩ : Ω ds B1) : AX X Γ B es Ω := fun g σ H0 H Ev O Q q => h g σ H0 H Ev O Q fun v H1 H' t o r => q v H1 H' ds B1 hΩ t o r
theorem ax_nil (h : Ω [] B) : AX X Γ B [] Ω := fun g σ H0 H _ O Q q => ⟨_, pa_nil, q [] H0 H [] B h To.refl O trivial⟩
theorem ax_cons (h : EX X Γ B e fun y B1 => AX X Γ B1 es fun ds B2 => Ω (.da y :: ds) B2) (hs : starEach (e :: es) X.env = (false, eval e X.env) :: starEach es X.env := by rfl) : AX X Γ B (e :: es) Ω := fun g σ H0 H E O Q q =>
  ⟨_, pa_cons (we e) (wa es) hs, h g σ H0 H E O _ fun v H1 H' y B1 hy t o rv => hy g σ H1 H' (E.mono t.ex) o _ fun vs H2 H'' ds B2 hd t2 o2 rs => q (v :: vs) H2 H'' _ _ hd (t.trans t2) o2 ⟨Rp.mono t2.ex rv, rs⟩⟩
theorem ax_bag (i : Nat) {x : Str} (r : AX X Γ B es fun ds B2 => Ω (.bag :: ds) B2) (h : Γ[i]? = some .bag := by rfl) (hN : X.N[i]? = some x := by rfl)
    (hv : Vis X.env.scope x := by first | exact Or.inl rfl | exact Or.inr (Or.inl rfl) | exact Or.inr (Or.inr rfl))
    (h1 : (x == ("__debug__" : Str)) = false := by decide) (h2 : (x == ("__classdict__" : Str)) = false := by decide)
    (hs : starEach (.Name x pos :: es) X.env = (false, eval (.Name x pos) X.env) :: starEach es X.env := by rfl) : AX X Γ B (.Name x pos :: es) Ω := fun g σ H0 H E O Q q =>
  ⟨_, pa_cons (we (.Name x pos)) (wa es) hs, (ej_bag (B := B) i h hN hv h1 h2) g σ H0 H E O _ fun v H1 H' t o rv => r g σ H1 H' (E.mono t.ex) o _ fun vs H2 H'' ds B2 hd t2 o2 rs => q (v :: vs) H2 H'' _ _ hd (t.trans t2) o2 ⟨rv.mono t2.ex, rs⟩⟩
theorem ex_call {x : Str} {k : Nat} {Pre : List VD → Bag → Prop} {Po : List VD → Bag → Post} (c : CalX X.prog X.w X.K X.mg X.base x k Pre Po) (g : Gx k X) (ha : AX X Γ B (e :: es) fun ds B1 => Pre ds B1 ∧ ∀ r B', Po ds B1 r B' → Φ r B')
    (hg : Gl X x := by rfl) (hdb : (x == ("__debug__" : Str)) = false := by decide) (he : starEach (e :: es) X.env = (false, eval e X.env) :: starEach es X.env := by rfl)
    (hpl : (backTo pos (starEach es X.env)).any (·.1) = false := by rfl) : EX X Γ B (.Call (.Name x p) (e :: es) [] pos) Φ := by
  obtain ⟨f, fd, ps, F, hm, hk, hb⟩ := c
  intro gh σ H0 H E O Q q
  refine ⟨fun σ H Q => WA X (e :: es) σ H fun vs H1 => DefSpX X.K Pre Po vs H1 Q E0, ⟨fun pins s σ H Q I h => ?_⟩, ?_⟩
  · refine wpAny_Call_Name_kw (ld_glob I hg hm ?_ hdb)
    refine PySem.W.callWith_K (h₀ := X.base) I.ok.mod.kin hk (thn ((wa (e :: es)).run pos pins s σ H _ I h) ?_) he hpl
    rintro us s1 ⟨vs, H1, I1, r1, q1⟩
    exact ⟨I1.kIn, runG F g hb I1 r1 q1⟩
  · refine ha gh σ H0 H E O _ fun vs H1 H' ds B1 hd t o rs => ?_
    exact ⟨gh, ds, B1, H1, rs, o, hd.1, fun v H2 H'' r B2 hr t2 o2 rv => q v H2 H'' _ _ (hd.2 _ _ hr) (t.trans t2) o2 rv⟩
theorem ex_callD {x : Str} {k : Nat} {R : Rel} (c : Cal X.prog X.w X.K X.mg X.base x k R) (g : Gx k X) (ha : AX X Γ B (e :: es) fun ds B1 => ∃ r B', R ds B1 r B' ∧ Φ r B')
    (hg : Gl X x := by rfl) (hdb : (x == ("__debug__" : Str)) = false := by decide) (he : starEach (e :: es) X.env = (false, eval e X.env) :: starEach es X.env := by rfl)
    (hpl : (backTo pos (starEach es X.env)).any (·.1) = false := by rfl) : EX X Γ B (.Call (.Name x p) (e :: es) [] pos) Φ := by
  obtain ⟨f, fd, ps, F, hm, hk, hb⟩ := c
  intro gh σ H0 H E O Q q
  refine ⟨fun σ H Q => WA X (e :: es) σ H fun vs H1 => DefSp X.K R vs H1 Q E0, ⟨fun pins s σ H Q I h => ?_⟩, ?_⟩
  · refine wpAny_Call_Name_kw (ld_glob I hg hm ?_ hdb)
    refine PySem.W.callWith_K (h₀ := X.base) I.ok.mod.kin hk (thn ((wa (e :: es)).run pos pins s σ H _ I h) ?_) he hpl
    rintro us s1 ⟨vs, H1, I1, r1, q1⟩
    exact ⟨I1.kIn, runG F g hb I1 r1 q1⟩
  · refine ha gh σ H0 H E O _ fun vs H1 H' ds B1 hd t o rs => ?_
    obtain ⟨r, B2, hR, hΦ⟩ := hd
    exact ⟨gh, ds, B1, H1, r, B2, rs, o, hR, fun v H2 H'' t2 o2 rv => q v H2 H'' _ _ hΦ (t.trans t2) o2 rv⟩
theorem ex_lst (h : AX X Γ B es fun ds B1 => ∃ ys : List PyData, ds = ys.map .da ∧ ys.length ≤ 1000 ∧ Φ (.list ys) B1) : EX X Γ B (.List es pos) Φ := fun g σ H0 H Ev O Q q =>
  ⟨_, pe_lst (wa es), h g σ H0 H Ev O _ fun vs H1 H' ds B1 hd t o rs => by
    obtain ⟨ys, rfl, hl, hΦ⟩ := hd
    have rs := RvAll.dat rs
    refine ⟨by rw [rs.length]; exact Nat.le_of_lt (small1000 hl), fun n hn => ?_⟩
    obtain ⟨t2, o2⟩ := laid (o := .lst vs) o hn
    exact q _ _ _ _ _ hΦ (t.trans t2) o2 (Rp.lst upd_same (rs.mono t2.ex))⟩
theorem sj_setX (i : Nat) {x : Str} (nd : X.N.Nodup) (h : EX X Γ B e fun y B1 => SJ X (Γ.set i (.da y)) B1 rest E) (hi : X.N[i]? = some x := by rfl)
    (hx : Loc X.env.scope x := by first | exact Or.inl rfl | exact Or.inr rfl) (hs : swapsWith e (some (.Name x pos')) pos.line X.env = pure false := by rfl)
    (hf : X.fn x = true ∨ X.env.scope.names.lookup x = some .local := by first | exact Or.inl rfl | exact Or.inr rfl) : SJ X Γ B (.Assign [.Name x pos'] e pos :: rest) E := fun g σ H0 H Ev O D G =>
  ⟨_, pss_cons (ps_set nd hi hx (we e) hs hf) (ws rest), h g σ H0 H Ev O _ fun v H1 H' y B1 k t o r => k g _ H1 H' ((Ev.mono t.ex).set i r) o D (G.on t)⟩
theorem sj_retX (h : EX X Γ B e E.rt) : SJ X Γ B (.Return (some e) pos :: rest) E := fun g σ H0 H Ev O D G =>
  ⟨_, pss_cons (ps_ret (we e)) (ws rest), h g σ H0 H Ev O _ fun v H1 H' y B1 hy t o r => G.rt _ B1 v H1 H' hy t o r⟩
end
section
variable {X : Cx} {i : Nat} {Γ : List VD} {B B1 B2 B' : Bag} {acc ds : List PyData} {e e2 a b c : Expr} {es : List Expr} {d da db : VD} {y y2 : PyData} {pos p p1 p2 p3 pos' : Pos} {rest ss s1 s2 : List Stmt} {E : EnO} {Φ : Post}
end
section
variable {X : Cx} {Γ : List VD} {B B1 B2 B' : Bag} {e a : Expr} {elt : Expr} {scope : Scope} {j : Nat} {x : Str} {px : Pos} {ds ys : List PyData} {pos pos' : Pos} {rest : List Stmt} {E : En} {Φ : Post}
end
end Gd
namespace Gd
open PySem PySem.Spec PyProof.Rows L2
section
variable {X : Cx} {Γ : List VD} {B B1 B2 B' : Bag} {e a b c : Expr} {es : List Expr} {d da db : VD} {y : PyData} {pos p pos' : Pos} {rest ss s1 s2 : List Stmt} {E : En} {Φ : Post} {Ω : List VD → Bag → Prop} {Ψ : Bool → Bag → Prop}
theorem ex_callTy {x : Str} {T : String} {r : List V → Hp → VK → Prop} (hc : CallR X (.type T) r) (hm : X.mg x = none) (ha : AX X Γ B (e :: es) Ω)
    (hr : ∀ g vs H0 H ds B1, Ω ds B1 → On X.K g B1 H0 H → RvAll X.K g H0 vs ds → ∀ Q : VK, (∀ z H0' H' y B2, Φ y B2 → To g H0 H H0' H' → On X.K g B2 H0' H' → Rp X.K H0' z y → Q z H') → r vs H Q)
    (hv : bootBuiltins x = some (.type T) := by decide +kernel) (hg : Gl X x := by rfl) (hn : x ≠ "__name__" := by decide) (hdb : (x == ("__debug__" : Str)) = false := by decide)
    (hpl : (backTo pos (starEach es X.env)).any (·.1) = false := by rfl) (he : starEach (e :: es) X.env = (false, eval e X.env) :: starEach es X.env := by rfl) :
    EX X Γ B (.Call (.Name x p) (e :: es) [] pos) Φ := fun g σ H0 H E O Q q =>
  ⟨_, pe_callTy hc hg hm hv (wa (e :: es)) hn hdb he hpl, ha g σ H0 H E O _ fun vs H1 H' ds B1 hd t o rs => hr g vs H1 H' ds B1 hd o rs Q fun z H2 H'' y B2 hy t2 o2 rz => q z H2 H'' y B2 hy (t.trans t2) o2 rz⟩
theorem ax_one (h : EX X Γ B e fun y B1 => Ω [.da y] B1) (hs : starEach [e] X.env = [(false, eval e X.env)] := by rfl) : AX X Γ B [e] Ω := ax_cons (ex_mono h fun y B1 hy => ax_nil hy) hs
theorem ex_tupleL (hm : X.mg "tuple" = none) (h : EX X Γ B a fun y B1 => ∃ ds, y = .list ds ∧ Φ (.tuple ds) B1) (hs : starEach [a] X.env = [(false, eval a X.env)] := by rfl) (hg : Gl X "tuple" := by rfl) :
    EX X Γ B (.Call (.Name "tuple" p) [a] [] pos) Φ :=
  ex_callTy (Ω := fun ds B1 => ∃ ls, ds = [.da (.list ls)] ∧ Φ (.tuple ls) B1) call_tuple_of hm (ax_one (ex_mono h fun y B1 ⟨ds, e, k⟩ => ⟨ds, by rw [e], k⟩) hs) (fun g vs H0 H ds B1 hd O r Q q => by
    obtain ⟨ls, rfl, k⟩ := hd
    obtain ⟨v, rfl, h⟩ := rv1 r
    obtain ⟨p, xs, rfl, hx, rs⟩ := rvL h
    refine ⟨p, xs, rfl, .inl ⟨SqL.of (O.ex _ _ hx), fun n hn => ?_⟩⟩
    obtain ⟨t2, o2⟩ := laid (o := .tup xs) O hn
    exact q _ _ _ _ _ k t2 o2 (Rp.tup (SqT.of upd_same) (rs.mono t2.ex))) (hg := hg) (he := hs)
end
end Gd
set_option exponentiation.threshold 20000
namespace Lw
open PySem PySem.Spec PyProof.Rows L2 Gd Fr
open scoped Rat
theorem lay_all {ds : List PyData} (h : ∀ d ∈ ds, d.canLay0 = true) : PyData.canLayAll0 ds = true := by
  induction ds with
  | nil => simp only [PyData.canLayAll0]
  | cons d ds ih => simp only [PyData.canLayAll0, h d List.mem_cons_self, ih fun x hx => h x (List.mem_cons_of_mem _ hx), Bool.and_self]
theorem depth_all {n : Nat} {ds : List PyData} (h : ∀ d ∈ ds, d.depth ≤ n) : PyData.depthAll ds ≤ n := by
  induction ds with
  | nil => exact Nat.zero_le _
  | cons d ds ih =>
    show max d.depth (PyData.depthAll ds) ≤ n
    exact Nat.max_le.mpr ⟨h d List.mem_cons_self, ih fun x hx => h x (List.mem_cons_of_mem _ hx)⟩
def Sh (n : Nat) (d : PyData) : Prop := d.canLay0 = true ∧ d.depth ≤ n
theorem Sh.shaped {n : Nat} {d : PyData} (h : Sh n d) (hn : n ≤ 64 := by decide) : SeqAt.shaped d = true := by
  unfold SeqAt.shaped
  rw [h.1, Bool.true_and, decide_eq_true_eq]
  exact Nat.le_trans h.2 hn
theorem Sh.lst {n : Nat} {ds : List PyData} (h : ∀ d ∈ ds, Sh n d) : Sh (n + 1) (.list ds) :=
  ⟨by simp only [PyData.canLay0]; exact lay_all fun d hd => (h d hd).1, by show PyData.depthAll ds + 1 ≤ n + 1; have := depth_all fun d hd => (h d hd).2; omega⟩
theorem Sh.tup {n : Nat} {ds : List PyData} (h : ∀ d ∈ ds, Sh n d) : Sh (n + 1) (.tuple ds) :=
  ⟨by simp only [PyData.canLay0]; exact lay_all fun d hd => (h d hd).1, by show PyData.depthAll ds + 1 ≤ n + 1; have := depth_all fun d hd => (h d hd).2; omega⟩
theorem Sh.int (i : Int) : Sh 0 (.int i) := ⟨by simp only [PyData.canLay0], Nat.le_refl _⟩
theorem Sh.str {x : Str} (h : PyData.strOk x = true) : Sh 0 (.str x) := ⟨by simp only [PyData.canLay0]; exact h, Nat.le_refl _⟩
theorem Sh.tup1 {n : Nat} {d : PyData} (h : Sh n d) : Sh (n + 1) (.tuple [d]) := Sh.tup fun e he => by rw [List.mem_singleton.mp he]; exact h
theorem Sh.mono {n m : Nat} {d : PyData} (h : Sh n d) (e : n ≤ m) : Sh m d := ⟨h.1, Nat.le_trans h.2 e⟩
theorem sh_va (v : Va) : Sh 1 v.d := by
  cases v with
  | nan => exact Sh.tup1 (Sh.str (by decide +kernel))
  | inf s => exact ⟨by show PyData.canLay0 (.tuple [.str "inf", .int s]) = true; simp only [PyData.canLay0, PyData.canLayAll0, Bool.and_true]; decide +kernel, Nat.le_refl _⟩
  | num s c e => exact ⟨by show PyData.canLay0 (.tuple [.str "num", .int s, .int c, .int e]) = true; simp only [PyData.canLay0, PyData.canLayAll0, Bool.and_true]; decide +kernel, Nat.le_refl _⟩
theorem shaped_va (v : Va) : SeqAt.shaped v.d = true := (sh_va v).shaped
inductive Te where
  | nan
  | inf (s : Int)
  | x (q : Rat) (s : Int)
def Te.d : Te → PyData
  | .nan => .tuple [.str "nan"]
  | .inf s => .tuple [.str "inf", .int s]
  | .x q s => .tuple [.str "x", fq q, .int s]
def Te.isNan : Te → Bool
  | .nan => true
  | _ => false
def Te.isInf : Te → Bool
  | .inf _ => true
  | _ => false
def Te.sg : Te → Int
  | .nan => 0
  | .inf s => s
  | .x _ s => s
def Te.q : Te → Rat
  | .x q _ => q
  | _ => 0
theorem sR_perm {xs ys : List Rat} (h : xs.Perm ys) : sR xs = sR ys := by
  induction h with
  | nil => rfl
  | cons x _ ih => show x + sR _ = x + sR _; rw [ih]
  | swap x y l => show y + (x + sR l) = x + (y + sR l); grind
  | trans _ _ i1 i2 => exact i1.trans i2
inductive R_tsign : Rel
  | mk (v : Va) (B : Bag) : R_tsign [.da v.d] B v.opp.d B
end Lw
namespace Lw
open PySem PySem.Spec PyProof.Rows L2 Gd Fr
def Post_mixed (Γ : List VD) (_ : Bag) (r : PyData) (B' : Bag) : Prop := Bok B' ∧ ∀ t ds, Γ = [.bag, .da (lisD t ds)] → ∃ ds', r = .list ds' ∧ ds'.Perm ds
end Lw
set_option exponentiation.threshold 20000
namespace Lw
open PySem PySem.Spec PyProof.Rows L2 Gd Fr
open scoped Rat
def near3 : List F4 := [(2, 53, -1074, 971), (10, 16, -398, 369), (2, 24, -149, 104)]
def near5 : List F4 := [(2, 24, -40, 30), (10, 7, -20, 20), (2, 11, -24, 5), (36, 3, -5, 4), (10, 34, -40, 20)]
def near6 : List F4 := near5 ++ [(2, 8, -50, 40)]
def nearL : List F4 := smallF ++ (near3 ++ near6)
theorem nearL_ok : nearL.all fmB = true := by decide +kernel
def Pre_bag (Γ : List VD) (B : Bag) : Prop := Γ = [.bag] ∧ Bok B
def Post_nf (_ : List VD) (_ : Bag) (r : PyData) (B' : Bag) : Prop := Bok B' ∧ ∃ t : F4, r = t.d ∧ t ∈ nearL
theorem nearL_in {t : F4} (h : t ∈ nearL) : t.ok := fm_of (List.all_eq_true.mp nearL_ok t h)
theorem F4.inj {t u : F4} (h : t.d = u.d) : t = u := by
  obtain ⟨a, b, c, d⟩ := t
  obtain ⟨a', b', c', d'⟩ := u
  have h : fmP a b c d = fmP a' b' c' d' := h
  unfold fmP at h
  injection h with h
  injection h with h1 h
  injection h with h2 h
  injection h with h3 h
  injection h with h4 h
  injection h1 with h1
  injection h2 with h2
  injection h3 with h3
  injection h4 with h4
  have h1 : a = a' := by omega
  have h2 : b = b' := by omega
  subst h1; subst h2; subst h3; subst h4; rfl
theorem lfree_va (v : Va) : lfree v.d = true := by
  cases v <;> (show lfree (.tuple _) = true; simp only [lfree, Va.l, lfreeAll, Bool.and_self])
section
variable {b p : Nat} {low high : Int} (F : Fm b p low high)
include F
theorem vas_nd {vs : List Va} (h : ∀ v ∈ vs, Vok b p low high v) : NdA 2 (41 * vs.length) (vs.map Va.d) := by
  induction vs with
  | nil => exact NdA.nil
  | cons v vs ih =>
    have h1 := va_nd F (h v List.mem_cons_self)
    have h2 := NdA.cons h1 (ih fun u hu => h u (List.mem_cons_of_mem _ hu))
    have e : 40 + 1 + 41 * vs.length = 41 * (v :: vs).length := by rw [List.length_cons]; omega
    rw [e] at h2; exact h2
theorem vas_okd {vs : List Va} (hl : vs.length ≤ 100) (h : ∀ v ∈ vs, Vok b p low high v) (t : Bool) : Okd (lisD t (vs.map Va.d)) := by
  have h1 := vas_nd F h
  cases t with
  | true =>
    have := Nd.list h1
    exact this.okd (by decide) (by omega)
  | false =>
    have := Nd.tuple h1
    exact this.okd (by decide) (by omega)
end
end Lw
namespace Lw
open Gd
theorem perm_map {α β : Type} {f : α → β} : ∀ {ds : List β} {xs : List α}, ds.Perm (xs.map f) → ∃ us : List α, ds = us.map f ∧ us.Perm xs := by
  intro ds xs h
  generalize hy : xs.map f = ys at h
  induction h generalizing xs with
  | nil =>
    have : xs = [] := List.map_eq_nil_iff.mp hy
    subst this
    exact ⟨[], rfl, List.Perm.refl _⟩
  | cons x _ ih =>
    cases xs with
    | nil => cases hy
    | cons a xs =>
      injection hy with h1 h2
      obtain ⟨us, e, hp⟩ := ih h2
      exact ⟨a :: us, by rw [List.map_cons, h1, e], hp.cons a⟩
  | swap x y l =>
    cases xs with
    | nil => cases hy
    | cons a xs =>
      injection hy with h1 h2
      cases xs with
      | nil => cases h2
      | cons b xs =>
        injection h2 with h2 h3
        exact ⟨b :: a :: xs, by rw [List.map_cons, List.map_cons, h1, h2, h3], List.Perm.swap _ _ _⟩
  | trans _ _ i1 i2 =>
    obtain ⟨us, e, hp⟩ := i2 hy
    obtain ⟨ws, e2, hp2⟩ := i1 e.symm
    exact ⟨ws, e2, hp2.trans hp⟩
end Lw
set_option exponentiation.threshold 20000
namespace Lw
open PySem PySem.Spec PyProof.Rows L2 Gd Fr
open scoped Rat
theorem absQ_sub_comm (x y : Rat) : absQ (x - y) = absQ (y - x) := by rw [← absQ_neg]; congr 1; grind
theorem absQ_0 : absQ 0 = 0 := by unfold absQ; rw [if_neg (by decide)]
theorem nb_ge (b p : Nat) (o : Bool) (c e : Int) : e ≤ (nb b p o c e).2 := by
  unfold nb
  cases o with
  | false => rw [if_neg (by decide)]; exact Int.le_refl _
  | true =>
    rw [if_pos rfl]
    unfold upN
    by_cases h : c + 1 = ((b ^ p : Nat) : Int)
    · rw [if_pos h]; show e ≤ e + 1; omega
    · rw [if_neg h]; exact Int.le_refl _
theorem mult_r {b : Nat} (h2 : 2 ≤ b) {e : Int} {q : Rat} (k : Int) (h : q = (k : Rat) * pw b e) : rQ b e q = 0 := by
  have h1 := q_val h2 e q
  have ne := pw_ne h2 e
  have t0 := t_ge h2 e q
  have t1 := t_lt1 h2 e q
  have e1 : (k : Rat) = (cQ b e q : Rat) + tQ b e q := by
    have : (k : Rat) * pw b e = ((cQ b e q : Rat) + tQ b e q) * pw b e := by rw [← h1]; exact h.symm
    have h3 := congrArg (fun z => z * (pw b e)⁻¹) this
    simp only [Rat.mul_assoc, Rat.mul_inv_cancel _ ne, Rat.mul_one] at h3
    exact h3
  rw [← t_zero h2]
  have e2 : tQ b e q = ((k - cQ b e q : Int) : Rat) := by rw [Rat.intCast_sub]; grind
  rw [e2] at t0 t1 ⊢
  have a0 : (0 : Int) ≤ k - cQ b e q := by exact_mod_cast t0
  have a1 : k - cQ b e q < 1 := by exact_mod_cast t1
  have : k - cQ b e q = 0 := by omega
  rw [this]; rfl
theorem mult_up {b : Nat} (h2 : 2 ≤ b) {m e : Int} (h : m ≤ e) (k : Int) : (k : Rat) * pw b e = ((k * ((b ^ (e - m).toNat : Nat) : Int) : Int) : Rat) * pw b m := by
  have e1 : pw b e = ((b ^ (e - m).toNat : Nat) : Rat) * pw b m := by
    rw [← pw_nat, ← pw_add h2]; congr 1; omega
  rw [e1, Rat.intCast_mul, Rat.mul_assoc]
  congr 1
theorem pk_mult {b p : Nat} {low high : Int} (F : Fm b p low high) (way : Str) (s : Int) (q : Rat) : ∃ k : Int, pkQ b p low way s q = (k : Rat) * pw b (eQ b p low q) := by
  unfold pkQ
  split
  · exact ⟨cQ b (eQ b p low q) q + 1, by rw [Rat.intCast_add]; rfl⟩
  · exact ⟨cQ b (eQ b p low q) q, rfl⟩
theorem pk_same {b p : Nat} {low high : Int} (F : Fm b p low high) {way : Str} {s : Int} {q : Rat} (h : rQ b (eQ b p low q) q = 0) : pkQ b p low way s q = q := by
  have h2 := F.b2
  have t0 := (t_zero h2 (eQ b p low q) q).mpr h
  have v := q_val h2 (eQ b p low q) q
  have : outw way s (cQ b (eQ b p low q) q) (ptQ (tQ b (eQ b p low q) q)) = false := by
    unfold outw ptQ
    rw [if_pos t0, if_pos (.inl rfl)]
  unfold pkQ
  rw [this, if_neg (by decide)]
  conv => rhs; rw [v, t0]
  grind
theorem rd_worth {b p : Nat} {low high : Int} (F : Fm b p low high) {way : Str} {x : Rat} {s : Int} (hs : s = 0 ∨ s = 1) (hi : ∀ S, isInf way S = true) (h : (rdV b p low high way x s).isInf = false) :
    absQ ((rdV b p low high way x s).wQ b) = pkQ b p low way (if x = 0 then s else sgn x) (absQ x) ∧ eQ b p low (absQ x) ≤ high ∧ absQ (x - (rdV b p low high way x s).wQ b) = absQ (pkQ b p low way (if x = 0 then s else sgn x) (absQ x) - absQ x) ∧
    (∃ k : Int, (rdV b p low high way x s).wQ b = (k : Rat) * pw b (eQ b p low (absQ x))) ∧ (∃ s' c e, rdV b p low high way x s = .num s' c e) := by
  have h2 := F.b2
  have hC := unN_can F (way := way) (s := if x = 0 then s else sgn x) (absQ_nonneg x)
  have hp : (((unN b p low way (if x = 0 then s else sgn x) (absQ x)).1 : Int) : Rat) * pw b (unN b p low way (if x = 0 then s else sgn x) (absQ x)).2 = pkQ b p low way (if x = 0 then s else sgn x) (absQ x) := nb_pk F (absQ_nonneg x)
  have he : eQ b p low (absQ x) ≤ (unN b p low way (if x = 0 then s else sgn x) (absQ x)).2 := nb_ge b p _ _ _
  have hk := pk_mult F way (if x = 0 then s else sgn x) (absQ x)
  have hS : (if x = 0 then s else sgn x) = 0 ∨ (if x = 0 then s else sgn x) = 1 := by split; exact hs; exact sgn_01 x
  have hS2 : x ≠ 0 → ((if x = 0 then s else sgn x) = 1 ↔ x < 0) := by
    intro hx
    rw [if_neg hx, sgn_eq]
    split
    · next h => exact ⟨fun _ => h, fun _ => rfl⟩
    · next h => exact ⟨fun z => absurd z (by decide), fun z => absurd z h⟩
  have hz0 : x = 0 → pkQ b p low way (if x = 0 then s else sgn x) (absQ x) = 0 := by
    intro hx
    rw [hx, absQ_0]; exact pk_zero F way _
  rw [rdV_un F] at h ⊢
  generalize hSd : (if x = 0 then s else sgn x) = S at *
  generalize unN b p low way S (absQ x) = u at *
  obtain ⟨C, E⟩ := u
  by_cases ho : high < E
  · rw [if_pos ho, hi S, if_pos rfl] at h
    cases h
  · rw [if_neg ho] at h ⊢
    have w1 := absQ_w h2 (s := S) (e := E) hC.1
    dsimp only at *
    obtain ⟨k, hk⟩ := hk
    have w2 : (Va.num S C E).wQ b = if S = 1 then -pkQ b p low way S (absQ x) else pkQ b p low way S (absQ x) := by
      rw [← hp]
      show ((if S = 1 then -C else C : Int) : Rat) * pw b E = _
      split
      · rw [Rat.intCast_neg]; grind
      · rfl
    refine ⟨w1.trans hp, by omega, ?_, ?_, _, _, _, rfl⟩
    · rw [w2]
      by_cases hx : x = 0
      · rw [hz0 hx, hx, absQ_0]
        split
        · congr 1
        · congr 1
      · by_cases hn : x < 0
        · rw [if_pos ((hS2 hx).mpr hn)]
          have : absQ x = -x := by unfold absQ; rw [if_pos hn]
          rw [this]; congr 1; grind
        · rw [if_neg fun z => hn ((hS2 hx).mp z)]
          have : absQ x = x := by unfold absQ; rw [if_neg hn]
          rw [this]; exact absQ_sub_comm _ _
    · rw [w2, hk]
      split
      · exact ⟨-k, by rw [Rat.intCast_neg]; grind⟩
      · exact ⟨k, rfl⟩
theorem near_inf (S : Int) : isInf "even" S = true := by unfold isInf; rw [decide_eq_true (.inl rfl)]; rfl
end Lw
namespace Gd
open PySem PySem.Spec PyProof.Rows L2
section
variable {X : Cx} {Γ : List VD} {B B1 B2 : Bag} {e c elt : Expr} {scope : Scope} {acc : List PyData} {pos pos' : Pos} {rest : List Stmt} {E : En} {d : VD}
end
end Gd
set_option exponentiation.threshold 20000
namespace Lw
open PySem PySem.Spec PyProof.Rows L2 Gd Fr
open scoped Rat
end Lw
namespace Lw
open PySem PySem.Spec PyProof.Rows L2 Gd Fr
open scoped Rat
theorem numV_num {b p : Nat} {low high : Int} (F : Fm b p low high) (B : Bag) : ∃ s c e, numV b p low high B = .num s c e ∧ Vok b p low high (.num s c e) := by
  have h := numV_ok F B
  have h2 : ∃ s c e, numV b p low high B = .num s c e := by unfold numV; split <;> exact ⟨_, _, _, rfl⟩
  obtain ⟨s, c, e, h2⟩ := h2
  exact ⟨s, c, e, h2, by rw [← h2]; exact h⟩
end Lw
namespace Gd
open PySem PySem.Spec PyProof.Rows L2
section
variable {X : Cx} {Γ : List VD} {B B1 B2 : Bag} {e c elt : Expr} {scope : Scope} {acc : List PyData} {pos pos' : Pos} {rest : List Stmt} {E : En} {d : VD} {Φ : Post}
end
end Gd
set_option exponentiation.threshold 20000
namespace Lw
open PySem PySem.Spec PyProof.Rows L2 Gd Fr
open scoped Rat
end Lw
set_option exponentiation.threshold 20000
namespace Lw
open PySem PySem.Spec PyProof.Rows L2 Gd Fr
open scoped Rat
def Te.opp : Te → Te
  | .nan => .nan
  | .inf s => .inf (1 - s)
  | .x q s => .x (-q) (1 - s)
def Fl (fl : List Str) : Prop := fl = [] ∨ fl = (["invalid"] : List Str) ∨ fl = (["inexact", "over"] : List Str) ∨ fl = (["inexact", "tiny"] : List Str) ∨ fl = (["inexact"] : List Str)
theorem Fl.sh {fl : List Str} (h : Fl fl) : SeqAt.shaped (words fl) = true := by
  rcases h with rfl | rfl | rfl | rfl | rfl <;> decide +kernel
theorem Fl.eqv {fl : List Str} (h : Fl fl) : PyData.eqv (words fl) (.tuple []) = decide (fl = []) := by
  rcases h with rfl | rfl | rfl | rfl | rfl <;> rfl
end Lw
namespace Gd
open PySem PySem.Spec PyProof.Rows L2
section
variable {prog : Program} {w : World} {A : Around} {E : Value → Shared → Prop} {s : Shared}
end
section
variable {X : Cx} {Γ : List VD} {B B1 B2 : Bag} {a b c e : Expr} {pos p pos' : Pos} {rest s1 : List Stmt} {E : En}
end
end Gd
namespace Gd
open PySem PySem.Spec PyProof.Rows L2
section
variable {X : Cx} {Γ : List VD} {B B1 B2 B3 B' : Bag} {e a b c : Expr} {es : List Expr} {d da db dc : VD} {pos p pos' apos p1 p2 p3 : Pos} {rest ss s1 s2 : List Stmt} {E : En}
theorem wj_orT {x : Expr} (h : TJ X Γ B e true B1) : WJ X Γ B (.BoolOp .Or (e :: x :: es) pos) true B1 := fun g σ H0 H E O Q q =>
  ⟨_, pw_or (wt e) (ww _), h g σ H0 H E O _ fun H1 H' t o => iteT (q H1 H' t o)⟩
theorem sj_ownPar (i j : Nat) {x y : Str} {px py pt pl : Pos} {kt k2 pt2} {Es : En} {y2 : PyData} (nd : X.N.Nodup) (hc : X.calm = true) (hΓ : i < Γ.length) (hij : i ≠ j) (hb : EJ X Γ B b (.da y2) B1)
    (q : OwJ X i ((Γ.set i .no).set j (.da y2)) B1 [] rest { nx := fun Γ' B' acc => Es.nx (Γ'.set i (.da (.list acc))) B', fx := Es.nx, rt := Es.rt, bk := fun Γ' B' acc => Es.bk (Γ'.set i (.da (.list acc))) B', ct := fun Γ' B' acc => Es.ct (Γ'.set i (.da (.list acc))) B' })
    (hw : swappedStores [.Tuple [.Name x px, .Name y py] kt pt] (.Tuple [.List [] pl, b] k2 pt2) X.env = pure (some [x, y])) (hi : X.N[i]? = some x := by rfl) (hj : X.N[j]? = some y := by rfl)
    (hx : X.env.scope.names.lookup x = some .local := by rfl) (hy : X.env.scope.names.lookup y = some .local := by rfl)
    (hs1 : starEach (.List [] pl :: [b]) X.env = (false, eval (.List [] pl) X.env) :: starEach [b] X.env := by rfl) (hs2 : starEach [b] X.env = (false, eval b X.env) :: starEach [] X.env := by rfl)
    (hsw : swapsWithSole [.Tuple [.Name x px, .Name y py] kt pt] (.Tuple [.List [] pl, b] k2 pt2) pos.line X.env = pure false := by rfl) :
    SJ X Γ B (.Assign [.Tuple [.Name x px, .Name y py] kt pt] (.Tuple [.List [] pl, b] k2 pt2) pos :: rest) Es := fun g σ H0 H Ev O D G =>
  ⟨_, pss_cons (ps_par hc nd hi hj hij hx hy (pa_cons (pe_lst pa_nil) (pa_cons (we b) pa_nil hs2) hs1) hw hsw) (ws rest), by
    refine ⟨by decide, fun a n => ?_⟩
    have n1 : H0 a = none := O.ex.free n
    have off : Off g a := fun l z => by
      obtain ⟨_, q, _⟩ := O.bag a l z
      rw [n] at q; cases q
    have o1 : On X.K g B H0 (upd H a (.lst [])) := ⟨fun b u q => by
      rw [upd_ne (ne_of_none q n1)]; exact O.ex b u q, fun b l q => by
      obtain ⟨p1, p2, p3⟩ := O.bag b l q
      exact ⟨p1, by rw [upd_ne (ne_of_none p2 n)]; exact p2, p3⟩⟩
    refine hb g σ H0 _ Ev o1 _ fun v2 H2 H2' t2 o2 r2 => ?_
    obtain ⟨na, ha⟩ := t2.un a _ off n1 upd_same
    refine ⟨.ref a, v2, rfl, ?_⟩
    have ev := ((Ev.mono t2.ex).set (v := .ref a) (d := .no) i trivial).set (d := .da y2) j r2
    have hi' : i < σ.length := by rw [Ev.len]; exact hΓ
    have own : Own X.K i g H0 H a B1 ((Γ.set i .no).set j (.da y2)) [] ((σ.set i (some (.ref a))).set j (some v2)) H2 H2' := by
      refine ⟨⟨t2.ex, fun b u f q1 q2 => ?_⟩, n, off, ev, ?_, na, ⟨[], ha, .nil⟩, o2⟩
      · exact t2.un b u f q1 (by rw [upd_ne (ne_of_none q2 n)]; exact q2)
      · rw [List.getElem?_set_ne (Ne.symm hij), List.getElem?_set_self hi']
    refine q g _ H0 H a _ _ own D ⟨?_, ?_, ?_, ?_, ?_, ?_, ?_⟩
    · intro Γ' B' acc σ' H5 H5' q w _
      obtain ⟨H6, t6, e6, o6⟩ := w.freeze
      exact G.nx _ _ _ _ _ q t6 e6 o6
    · intro Γ' B' σ' H5 H5' q t5 e5 o5
      exact G.nx _ _ _ _ _ q t5 e5 o5
    · intro r B' v H5 H5' q t5 o5 rv
      exact G.rt _ _ _ _ _ q t5 o5 rv
    · intro Γ' B' acc σ' H5 H5' q w _
      obtain ⟨H6, t6, e6, o6⟩ := w.freeze
      exact G.bk _ _ _ _ _ q t6 e6 o6
    · intro Γ' B' acc σ' H5 H5' q w _
      obtain ⟨H6, t6, e6, o6⟩ := w.freeze
      exact G.ct _ _ _ _ _ q t6 e6 o6
    · intro _ _ _ _ _ _ q; exact q.elim
    · intro _ _ _ _ _ q; exact q.elim⟩
end
end Gd
set_option exponentiation.threshold 20000
namespace Lw
open PySem PySem.Spec PyProof.Rows L2 Gd Fr
open scoped Rat
inductive Sp where
  | none
  | span (u v : Va)
def Sp.d : Sp → PyData
  | .none => .tuple [.str "none"]
  | .span u v => .tuple [.str "span", u.d, v.d]
def Sp.ok (b p : Nat) (low high : Int) : Sp → Prop
  | .none => True
  | .span u v => (Vcan b p low high u ∧ u.isNan = false) ∧ Vcan b p low high v ∧ v.isNan = false
def apI (b p : Nat) (low high : Int) : Sp → Int
  | .none => 0
  | .span u v => rkI b p low high v - rkI b p low high u
inductive Wd (b p : Nat) (low high : Int) (L : List Sp) : PyData → Prop
  | none (h : ∀ s ∈ L, apI b p low high s < 2) : Wd b p low high L .none
  | some (i : Nat) (x : Sp) (hi : L[i]? = .some x) (h2 : 2 ≤ apI b p low high x) (h3 : ∀ s ∈ L, apI b p low high s ≤ apI b p low high x) (h4 : ∀ j y, j < i → L[j]? = .some y → apI b p low high y < apI b p low high x) : Wd b p low high L (.int (i : Nat))
theorem Wd.one {b p : Nat} {low high : Int} {L : List Sp} {d e : PyData} (h : Wd b p low high L d) (h' : Wd b p low high L e) : d = e := by
  cases h with
  | none h =>
    cases h' with
    | none _ => rfl
    | some i x hi h2 _ _ => have := h x (List.mem_of_getElem? hi); omega
  | some i x hi h2 h3 h4 =>
    cases h' with
    | none h => have := h x (List.mem_of_getElem? hi); omega
    | some j y hj g2 g3 g4 =>
      have a1 := h3 y (List.mem_of_getElem? hj)
      have a2 := g3 x (List.mem_of_getElem? hi)
      rcases Nat.lt_trichotomy i j with z | z | z
      · have := g4 i x z hi; omega
      · rw [z]
      · have := h4 j y z hj; omega
noncomputable def wdP (b p : Nat) (low high : Int) (L : List Sp) : PyData := by
  classical exact if h : ∃ d, Wd b p low high L d then h.choose else .none
theorem Wd.is {b p : Nat} {low high : Int} {L : List Sp} {d : PyData} (h : Wd b p low high L d) : wdP b p low high L = d := by
  have hx : ∃ d, Wd b p low high L d := ⟨d, h⟩
  unfold wdP
  rw [dif_pos hx]
  exact hx.choose_spec.one h
theorem pick_ex {α : Type} (xs : List α) (f : α → PyData) (B : Bag) (h : 0 < xs.length) : ∃ x ∈ xs, pick (xs.map f) B = f x := by
  have h0 := tkV_ge B (m := (xs.map f).length) (by rw [List.length_map]; omega)
  have h1 := tkV_lt B (m := (xs.map f).length) (by rw [List.length_map]; omega)
  have hlt : (tkV B (xs.map f).length).toNat < xs.length := by rw [List.length_map] at h1 ⊢; rw [List.length_map] at h0; omega
  refine ⟨xs[(tkV B (xs.map f).length).toNat], List.getElem_mem hlt, ?_⟩
  unfold pick
  rw [List.getD_eq_getElem?_getD, List.getElem?_map, List.getElem?_eq_getElem hlt]
  rfl
end Lw
namespace PySem
end PySem
namespace Gd
open PySem PySem.Spec PyProof.Rows L2
end Gd
namespace Gd
open PySem PySem.Spec PyProof.Rows L2
end Gd
namespace Gd
open PySem PySem.Spec PyProof.Rows L2
section
variable {X : Cx} {Γ : List VD} {B B1 : Bag} {a : Expr} {p p' kp pos : Pos}
end
end Gd
set_option exponentiation.threshold 20000
namespace Lw
open PySem PySem.Spec PyProof.Rows L2 Gd Fr
open scoped Rat
def plT : Va → Int × Int × Int
  | .nan => (2, 0, 0)
  | .inf s => if s = 0 then (1, 0, 0) else (-2, 0, 0)
  | .num s c e => if s = 0 then (0, e, c) else (-1, -e, -c)
def t3 (x : Int × Int × Int) : PyData := .tuple [.int x.1, .int x.2.1, .int x.2.2]
end Lw
set_option exponentiation.threshold 20000
namespace Lw
open PySem PySem.Spec PyProof.Rows L2 Gd Fr
open scoped Rat
section
variable {b p : Nat} {low high : Int} (F : Fm b p low high)
include F
end
section
variable {b p : Nat} {low high : Int} (F : Fm b p low high)
include F
end
end Lw
set_option exponentiation.threshold 20000
namespace Gd
open PySem PySem.Spec PyProof.Rows L2
section
variable {X : Cx} {Γ : List VD} {B B1 B2 B' : Bag} {e a b c : Expr} {pos : Pos}
end
end Gd
set_option exponentiation.threshold 20000
namespace Lw
open PySem PySem.Spec PyProof.Rows L2 Gd Fr
open scoped Rat
def lex3 (x y : Int × Int × Int) : Prop := x.1 < y.1 ∨ (x.1 = y.1 ∧ (x.2.1 < y.2.1 ∨ (x.2.1 = y.2.1 ∧ x.2.2 < y.2.2)))
instance (x y : Int × Int × Int) : Decidable (lex3 x y) := by unfold lex3; infer_instance
theorem lex3_asym {x y : Int × Int × Int} (h : lex3 x y) : ¬ lex3 y x := by unfold lex3 at *; omega
section
variable {b p : Nat} {low high : Int} (F : Fm b p low high)
include F
end
section
variable {b p : Nat} {low high : Int} (F : Fm b p low high)
include F
end
end Lw
namespace Lw
open PySem PySem.Spec PyProof.Rows L2 Gd Fr
end Lw
namespace Lw
open PySem PySem.Spec PyProof.Rows L2 Gd Fr
end Lw
namespace Lw
open PySem PySem.Spec PyProof.Rows L2 Gd Fr
end Lw
namespace Lw
open PySem PySem.Spec PyProof.Rows L2 Gd Fr
open scoped Rat
end Lw
namespace Lw
open PySem PySem.Spec PyProof.Rows L2 Gd Fr
open scoped Rat
end Lw
namespace Lw
open PySem PySem.Spec PyProof.Rows L2 Gd Fr
end Lw
set_option exponentiation.threshold 20000
namespace Gd
open PySem PySem.Spec PyProof.Rows L2
section
variable {X : Cx} {Γ : List VD} {B B1 B2 B' : Bag} {e a b c : Expr} {pos p : Pos}
end
end Gd
set_option exponentiation.threshold 20000
namespace Lw
open PySem PySem.Spec PyProof.Rows L2 Gd Fr
open scoped Rat
def IsR (b p : Nat) (low : Int) (q : Rat) (e : Int) : Prop := low ≤ e ∧ q < pw b (2 * (p + e)) ∧ (e = low ∨ pw b (2 * (p + e - 1)) ≤ q)
section
variable {b p : Nat} (h2 : 2 ≤ b)
include h2
end
open Classical in
noncomputable def eR (b p : Nat) (low : Int) (q : Rat) : Int := if h : ∃ e, IsR b p low q e then h.choose else low
section
variable {b p : Nat} (h2 : 2 ≤ b)
include h2
end
end Lw
set_option exponentiation.threshold 20000
namespace Lw
open PySem PySem.Spec PyProof.Rows L2 Gd Fr
open scoped Rat
structure RtOk (b : Nat) (low : Int) (q : Rat) (n d : Nat) : Prop where
  h0 : 0 < q
  hq : Qz n d q
  hn : n ≤ 8800
  hd : d ≤ 8800
  hL : q.den * b ^ (2 * low).toNat < 2 ^ 8800
section
variable {b p : Nat} {low high : Int} (F : Fm b p low high)
include F
end
end Lw
set_option exponentiation.threshold 20000
namespace Lw
open PySem PySem.Spec PyProof.Rows L2 Gd Fr
open scoped Rat
section
variable {b : Nat} (h2 : 2 ≤ b)
include h2
end
end Lw
set_option exponentiation.threshold 20000
namespace Lw
open PySem PySem.Spec PyProof.Rows L2 Gd Fr
open scoped Rat
section
variable {b p : Nat} {low high : Int} (F : Fm b p low high)
include F
end
section
variable (b p : Nat) (low high : Int)
end
end Lw
set_option exponentiation.threshold 20000
namespace Gd
open PySem PySem.Spec PyProof.Rows L2
section
variable {X : Cx} {Γ : List VD} {B B1 B2 B' : Bag} {e a b c : Expr} {pos p : Pos} {rest s1 : List Stmt} {E : En} {Φ : Post}
theorem sj_forLX (j : Nat) {x : Str} {px : Pos} (nd : X.N.Nodup) (hc : X.calm = true)
    (hi : EX X Γ B e fun y B1 => ∃ ds, y = .list ds ∧ ∃ P : Nat → List VD → Bag → Prop, P 0 Γ B1 ∧
      (∀ i y Γ' B', ds[i]? = some y → P i Γ' B' → SJ X (Γ'.set j (.da y)) B' s1 { nx := P (i + 1), ct := P (i + 1), bk := fun Γ' B' => SJ X Γ' B' rest E, rt := E.rt }) ∧ (∀ Γ' B', P ds.length Γ' B' → SJ X Γ' B' rest E))
    (hN : X.N[j]? = some x := by rfl) (hx : Loc X.env.scope x := by first | exact Or.inl rfl | exact Or.inr rfl)
    (hf : X.fn x = true ∨ X.env.scope.names.lookup x = some .local := by first | exact Or.inl rfl | exact Or.inr rfl)
    (hp : PassesOwn (model X.prog X.w) X.A X.env X.xe := by exact PassesOwn.never) (hq : ∀ x, foldedSetIterable e X.env x = pure x := by intro _; rfl) :
    SJ X Γ B (.For (.Name x px) e s1 [] pos :: rest) E := fun g σ H0 H Ev O D G =>
  ⟨_, pss_cons (ps_for hp hc (pi_list (we e)) (pg_name nd hN hx hf) (ws s1) hq) (ws rest), hi g σ H0 H Ev O _ fun v H1 H' yy B1 hy t o r => by
    obtain ⟨ds, rfl, P, h0, hs, hd⟩ := hy
    obtain ⟨p, xs, rfl, hxs, rs⟩ := rvL (g := g) r
    refine ⟨p, rfl, ⟨xs, SqL.of (o.ex _ _ hxs)⟩, ?_⟩
    refine for_list (xs := xs) (fun i σ' H'' => ∃ Γ' B' H2, P i Γ' B' ∧ To g H1 H' H2 H'' ∧ EnvD X.K g H2 σ' Γ' ∧ On X.K g B' H2 H'') ⟨Γ, B1, H1, h0, To.refl, Ev.mono t.ex, o⟩ ?_ ?_ ?_
    · rintro i σ' H'' _ ⟨Γ', B', H2, _, t2, _, o2⟩
      exact SqL.of (o2.ex _ _ (t2.ex _ _ hxs))
    · rintro i y σ' H'' hy ⟨Γ', B', H2, hP, t2, e2, o2⟩
      obtain ⟨d, hdi, rd⟩ := rs.get hy
      refine hs i d Γ' B' hdi hP g _ H2 H'' (e2.set j (Rp.mono t2.ex rd)) o2 _ ⟨?_, ?_, ?_, ?_⟩
      · intro Γ3 B3 σ3 H3 H3' q t3 e3 o3
        exact ⟨Γ3, B3, H3, q, t2.trans t3, e3, o3⟩
      · intro r B3 v H3 H3' q t3 o3 rv
        exact (G.on (t.trans t2)).rt r B3 v H3 H3' q t3 o3 rv
      · intro Γ3 B3 σ3 H3 H3' q t3 e3 o3
        exact q g σ3 H3 H3' e3 o3 D (G.on ((t.trans t2).trans t3))
      · intro Γ3 B3 σ3 H3 H3' q t3 e3 o3
        exact ⟨Γ3, B3, H3, q, t2.trans t3, e3, o3⟩
    · rintro σ' H'' ⟨Γ', B', H2, hP, t2, e2, o2⟩
      rw [rs.length] at hP
      exact hd Γ' B' hP g σ' H2 H'' e2 o2 D (G.on (t.trans t2))⟩
theorem ex_sliceL {lo hi : Option Expr} {p2 : Pos} (ha : EX X Γ B a fun y B1 => ∃ ds l u, y = .list ds ∧ OJ X Γ B1 lo l B1 ∧ OJ X Γ B1 hi u B1 ∧ Φ (.list (cutP ds l u)) B1) :
    EX X Γ B (.Subscript a (.Slice lo hi none p2) pos) Φ := fun g σ H0 H E O Q q =>
  ⟨_, pe_slice sl_list (we a) (wo lo) (wo hi), ha g σ H0 H E O _ fun v H1 H' y B1 hy t o rv => by
    obtain ⟨ds, l, u, rfl, hl, hu, hΦ⟩ := hy
    refine hl g σ H1 H' (E.mono t.ex) o _ fun H2 H'' t2 o2 => hu g σ H2 H'' (E.mono (t.trans t2).ex) o2 _ fun H3 H3' t3 o3 => ?_
    obtain ⟨p, xs, rfl, hx, rs⟩ := rvL (g := g) (rv.mono (t2.trans t3).ex)
    refine ⟨p, xs, rfl, SqL.of (o3.ex _ _ hx), fun n hn => ?_⟩
    obtain ⟨t4, o4⟩ := laid (o := .lst (cutV xs l u)) o3 hn
    exact q _ _ _ _ B1 hΦ (((t.trans t2).trans t3).trans t4) o4 (Rp.lst upd_same ((rs.cut l u).mono t4.ex))⟩
end
end Gd
set_option exponentiation.threshold 20000
namespace Lw
open PySem PySem.Spec PyProof.Rows L2 Gd Fr
open scoped Rat
end Lw
namespace Lw
open PySem PySem.Spec PyProof.Rows L2 Gd Fr
open scoped Rat
end Lw
namespace Lw
open PySem PySem.Spec PyProof.Rows L2 Gd Fr
open scoped Rat
end Lw
set_option exponentiation.threshold 20000
namespace Lw
open PySem PySem.Spec PyProof.Rows L2 Gd Fr
open scoped Rat
structure Sz (b p : Nat) (low high : Int) (P H J : Nat) : Prop where
  hP : b ^ p < 2 ^ P
  hH : b ^ high.toNat < 2 ^ H
  hL : b ^ (-low).toNat < 2 ^ J
  pj : P + H ≤ J
  p1 : 1 ≤ P
  h1 : 1 ≤ H
section
variable {b p : Nat} {low high : Int} {P H J : Nat} (F : Fm b p low high) (Z : Sz b p low high P H J)
include F Z
theorem Sz.pw {e : Int} (h : low ≤ e) (h' : e ≤ high) : Qz H J (pw b e) := by
  have b2 := F.b2
  refine pw_bd b2 ?_ ?_ Z.h1 (by have := Z.pj; have := Z.p1; omega)
  · exact Nat.lt_of_le_of_lt (Nat.pow_le_pow_right (by omega) (by omega)) Z.hH
  · exact Nat.lt_of_le_of_lt (Nat.pow_le_pow_right (by omega) (by omega)) Z.hL
theorem Sz.c {c : Int} (h0 : 0 ≤ c) (h1 : c < ((b ^ p : Nat) : Int)) : Qz P 1 (c : Rat) := by
  have := Z.hP
  exact ⟨by rw [Rat.num_intCast]; unfold Bd; omega, by rw [Rat.den_intCast]; unfold Bd; decide⟩
theorem Sz.half {q : Rat} (h0 : 0 ≤ q) (hq : Qz (J + 540) (J + 540) q) : Qz (P + 2 + (J + 540)) (2 + J) (((2 * cQ b (eQ b p low q) q + 1 : Int) : Rat) / 2 * Lw.pw b (eQ b p low q)) := by
  have b2 := F.b2
  have pj := Z.pj; have p1 := Z.p1; have z1 := Z.h1
  have hE := eQ_is (p := p) b2 low q
  have c0 := c_ge b2 h0 (eQ b p low q)
  have c1 := c_lt b2 hE
  have ebd := F.e_bd hq h0 hE
  have el := hE.1
  generalize eQ b p low q = e at *
  have hu : Qz (J + 540) J (Lw.pw b e) := by
    refine pw_bd b2 ?_ ?_ (by omega) (by omega)
    · have h3 : 2 ^ H ≤ 2 ^ (J + 540) := Nat.pow_le_pow_right (by decide) (by omega)
      rcases ebd with ⟨h, _, _⟩ | h | h
      · exact Nat.lt_of_le_of_lt (Nat.le_mul_of_pos_left _ q.den_pos) h
      · have : e.toNat = 0 := by omega
        rw [this, Nat.pow_zero]; exact Nat.one_lt_two_pow (by omega)
      · have h5 : b ^ e.toNat ≤ b ^ high.toNat := Nat.pow_le_pow_right (by omega) (by have := F.lh; omega)
        have := Z.hH
        omega
    · exact Nat.lt_of_le_of_lt (Nat.pow_le_pow_right (by omega) (by omega)) Z.hL
  have hc : Qz (P + 2) 1 ((2 * cQ b e q + 1 : Int) : Rat) := by
    have := Z.hP
    have e4 : 2 ^ (P + 2) = 2 ^ P * 4 := by rw [Nat.pow_add]
    exact ⟨by rw [Rat.num_intCast]; unfold Bd; omega, by rw [Rat.den_intCast]; unfold Bd; decide⟩
  have h2 : Qz 2 1 (2 : Rat) := ⟨by unfold Bd; decide, by unfold Bd; decide⟩
  have h2' : Qz (P + 2) 2 (((2 * cQ b e q + 1 : Int) : Rat) / 2) := by
    rw [Rat.div_def]
    have hi : Qz 1 2 ((2 : Rat)⁻¹) := ⟨by unfold Bd; decide +kernel, by unfold Bd; decide +kernel⟩
    have e1 : ((2 * cQ b e q + 1 : Int) : Rat) * (2 : Rat)⁻¹ = (2 * cQ b e q + 1) /. 2 := by rw [← Rat.div_def, Rat.divInt_eq_div]; rfl
    rw [e1]
    have hn : Bd (P + 2) (2 * cQ b e q + 1) := by have := hc.nu; rwa [Rat.num_intCast] at this
    obtain ⟨z1, z2⟩ := divInt_bd (n := 2 * cQ b e q + 1) (d := 2) (by decide) hn (b := 2) (by unfold Bd; decide)
    exact ⟨z1, z2⟩
  exact (h2'.mul hu).le (by omega) (by omega)
end
end Lw
set_option exponentiation.threshold 20000
namespace Gd
open PySem PySem.Spec PyProof.Rows L2
section
variable {X : Cx} {Γ : List VD} {B B1 B2 B' : Bag} {e a b c : Expr} {pos : Pos}
end
end Gd
set_option exponentiation.threshold 20000
namespace Lw
open PySem PySem.Spec PyProof.Rows L2 Gd Fr
open scoped Rat
section
variable {X : Cx} {Γ : List VD} {B B1 B2 B' : Bag} {e a b c : Expr} {pos : Pos} {x y : Int × Int × Int}
end
def plc (v : Va) : Prop := v.isZ = true → v.sg = 0
def Sp.gd (b : Nat) : Sp → Prop
  | .none => True
  | .span u v => plc u ∧ plc v ∧ u ≠ .inf 0 ∧ v ≠ .inf 1 ∧ ¬ lex3 (plT v) (plT u)
def Sp.ok2 (b p : Nat) (low high : Int) (s : Sp) : Prop := s.ok b p low high ∧ s.gd b
end Lw
namespace Lw
open PySem PySem.Spec PyProof.Rows L2 Gd Fr
open scoped Rat
def liesB : Sp → Sp → Bool
  | .none, _ => true
  | _, .none => false
  | .span a b, .span c d => !decide (lex3 (plT a) (plT c)) && !decide (lex3 (plT d) (plT b))
section
variable {b p : Nat} {low high : Int} (F : Fm b p low high)
theorem Sp.v2 {u v : Va} (h : (Sp.span u v).ok2 b p low high) : Vcan b p low high v ∧ v.isNan = false ∧ plc v := ⟨h.1.2.1, h.1.2.2, h.2.2.1⟩
include F
omit F in
theorem lex3_trans {x y z : Int × Int × Int} (h1 : ¬ lex3 y x) (h2 : ¬ lex3 z y) : ¬ lex3 z x := by unfold lex3 at *; omega
end
section
variable {b p : Nat} {low high : Int} (F : Fm b p low high)
include F
end
end Lw
set_option exponentiation.threshold 20000
namespace Lw
open PySem PySem.Spec PyProof.Rows L2 Gd Fr
open scoped Rat
section
variable {b p : Nat} {low high : Int} (F : Fm b p low high)
include F
end
end Lw
namespace Lw
open PySem PySem.Spec PyProof.Rows L2 Gd Fr
open scoped Rat
end Lw
set_option exponentiation.threshold 20000
namespace Lw
open PySem PySem.Spec PyProof.Rows L2 Gd Fr
open scoped Rat
theorem lex_irr (x : Int × Int × Int) : ¬ lex3 x x := fun h => lex3_asym h h
def Cm (N k : Nat) (x : Rat) : Prop := ∃ m : Int, x * ((N : Int) : Rat) = (m : Rat) ∧ Bd k m
theorem Cm.add {N k j : Nat} {x y : Rat} (h : Cm N k x) (h' : Cm N j y) : Cm N (k + j + 1) (x + y) := by
  obtain ⟨m, e, b⟩ := h
  obtain ⟨m', e', b'⟩ := h'
  exact ⟨m + m', by rw [Rat.intCast_add, ← e, ← e']; grind, b.add b'⟩
theorem Cm.neg {N k : Nat} {x : Rat} (h : Cm N k x) : Cm N k (-x) := by
  obtain ⟨m, e, b⟩ := h
  exact ⟨-m, by rw [Rat.intCast_neg, ← e]; grind, b.neg⟩
theorem Cm.le {N k j : Nat} {x : Rat} (h : Cm N k x) (e : k ≤ j) : Cm N j x := by
  obtain ⟨m, e1, b⟩ := h
  exact ⟨m, e1, b.le e⟩
theorem Cm.qz {N k d : Nat} {x : Rat} (h : Cm N k x) (hN : 0 < N) (hd : N < 2 ^ d) : Qz k d x := by
  obtain ⟨m, e, b⟩ := h
  rw [Rat.intCast_natCast] at e
  have h1 := den_le hN e
  refine ⟨?_, Bd.nat (Nat.lt_of_le_of_lt h1 hd)⟩
  have e2 : x.num * (N : Int) = m * (x.den : Int) := by
    rw [← Rat.intCast_inj, Rat.intCast_mul, Rat.intCast_mul, ← e, ← num_den x, Rat.intCast_natCast, Rat.intCast_natCast]; grind
  have e3 : x.num.natAbs * N = m.natAbs * x.den := by
    have := congrArg Int.natAbs e2
    rwa [Int.natAbs_mul, Int.natAbs_mul, Int.natAbs_natCast, Int.natAbs_natCast] at this
  have h3 : m.natAbs * x.den ≤ m.natAbs * N := Nat.mul_le_mul_left _ h1
  have h4 : x.num.natAbs ≤ m.natAbs := by
    rw [← e3] at h3
    exact Nat.le_of_mul_le_mul_right h3 hN
  unfold Bd at *
  omega
end Lw
set_option exponentiation.threshold 20000
namespace Gd
open PySem PySem.Spec PyProof.Rows L2
section
variable {X : Cx} {Γ : List VD} {B B1 B2 B' : Bag} {e a b c : Expr} {pos p : Pos} {Φ : Post}
end
end Gd
set_option exponentiation.threshold 20000
namespace Lw
open PySem PySem.Spec PyProof.Rows L2 Gd Fr
open scoped Rat
section
variable {b p : Nat} {low high : Int} (F : Fm b p low high)
include F
end
end Lw
set_option exponentiation.threshold 20000
namespace Lw
open PySem PySem.Spec PyProof.Rows L2 Gd Fr
open scoped Rat
inductive Xe | lo | hi | q (r : Rat)
deriving DecidableEq
namespace Xe
def d : Xe → PyData
  | .lo => .tuple [.int (-1), .int 0]
  | .hi => .tuple [.int 1, .int 0]
  | .q r => fq r
def n : Xe → Int
  | .lo => -1
  | .hi => 1
  | .q r => r.num
def e : Xe → Int
  | .q r => (r.den : Int)
  | _ => 0
theorem pair (x : Xe) : x.d = .tuple [.int x.n, .int x.e] := by cases x <;> rfl
def bd (n d : Nat) : Xe → Prop
  | .q r => Qz n d r
  | _ => True
def lt : Xe → Xe → Bool
  | .q a, .q b => decide (a < b)
  | .lo, .lo => false
  | .lo, _ => true
  | .q _, .hi => true
  | _, _ => false
def add : Xe → Xe → Xe
  | .q a, .q b => .q (a + b)
  | .q _, y => y
  | x, _ => x
def neg : Xe → Xe
  | .lo => .hi
  | .hi => .lo
  | .q a => .q (-a)
def mul (x y : Xe) : Xe :=
  if x.n = 0 ∨ y.n = 0 then .q 0 else match x, y with
    | .q a, .q b => .q (a * b)
    | _, _ => if decide (0 < x.n) = decide (0 < y.n) then .hi else .lo
def min (x y : Xe) : Xe := if y.lt x = true then y else x
def max (x y : Xe) : Xe := if x.lt y = true then y else x
theorem eqs (x y : Xe) : (decide (x.n = y.n) && decide (x.e = y.e)) = true ↔ x = y := by
  rw [Bool.and_eq_true, decide_eq_true_eq, decide_eq_true_eq]
  refine ⟨fun ⟨h1, h2⟩ => ?_, fun h => by rw [h]; exact ⟨rfl, rfl⟩⟩
  cases x with
  | q a =>
    have da : ¬ (a.den : Int) = 0 := den_ne a
    cases y with
    | q b =>
      have h1 : a.num = b.num := h1
      have h2 : (a.den : Int) = (b.den : Int) := h2
      congr 1
      exact Rat.ext h1 (by omega)
    | lo => exact absurd h2 da
    | hi => exact absurd h2 da
  | lo =>
    cases y with
    | q b => exact absurd h2.symm (den_ne b)
    | lo => rfl
    | hi => exact absurd h1 (by decide)
  | hi =>
    cases y with
    | q b => exact absurd h2.symm (den_ne b)
    | hi => rfl
    | lo => exact absurd h1 (by decide)
theorem eqv (x y : Xe) : PyData.eqv x.d y.d = true ↔ x = y := by rw [pair x, pair y, eqv_ii]; exact eqs x y
theorem irr (x : Xe) : x.lt x = false := by
  cases x with
  | q a => exact decide_eq_false (by grind)
  | _ => rfl
theorem asym {x y : Xe} (h : x.lt y = true) : y.lt x = false := by
  cases x <;> cases y <;> simp_all [lt] <;> grind
theorem tot {x y : Xe} (h : x.lt y = false) (h2 : y.lt x = false) : x = y := by
  cases x <;> cases y <;> simp_all [lt] <;> grind
theorem trans {x y z : Xe} (h : x.lt y = true) (h2 : y.lt z = true) : x.lt z = true := by
  cases x <;> cases y <;> cases z <;> simp_all [lt] <;> grind
def of (b : Nat) : Va → Xe
  | .inf s => if s = 0 then .hi else .lo
  | v => .q (v.wQ b)
theorem sh (x : Xe) : SeqAt.shaped x.d = true := by rw [pair]; exact shaped_ii _ _
theorem mul_zero {x y : Xe} (h : (decide (x.n = 0) || decide (y.n = 0)) = true) : mul x y = .q 0 := by
  unfold mul
  rw [Bool.or_eq_true, decide_eq_true_eq, decide_eq_true_eq] at h
  rw [if_pos h]
end Xe
end Lw
namespace Gd
open PySem PySem.Spec PyProof.Rows L2
section
variable {X : Cx} {Γ : List VD} {B B1 : Bag} {e e1 elt : Expr} {scope : Scope} {pos pos' : Pos} {rest : List Stmt} {E : En} {d : VD}
end
end Gd
namespace Gd
open PySem PySem.Spec PyProof.Rows L2
section
variable {X : Cx} {Γ : List VD} {B B1 B2 : Bag} {e : Expr} {es : List Expr} {p pos : Pos}
end
end Gd
set_option exponentiation.threshold 20000
namespace Lw
open PySem PySem.Spec PyProof.Rows L2 Gd Fr
open scoped Rat
namespace Xe
theorem neg_lt (x y : Xe) : x.neg.lt y.neg = y.lt x := by
  cases x <;> cases y <;> simp [neg, lt] <;> grind
def cm (N k : Nat) : Xe → Prop
  | .q r => Cm N k r
  | _ => True
end Xe
structure Rok (N : Nat) (a : Xe × Xe) : Prop where
  b1 : a.1.bd 3040 2341
  b2 : a.2.bd 3040 2341
  c1 : a.1.cm N 5380
  c2 : a.2.cm N 5380
  l1 : a.1 ≠ .hi
  l2 : a.2 ≠ .lo
  le : a.2.lt a.1 = false
end Lw
namespace Gd
open PySem PySem.Spec PyProof.Rows L2
section
variable {X : Cx} {Γ : List VD} {B B1 B2 : Bag} {i f : Expr}
end
end Gd
set_option exponentiation.threshold 20000
namespace Lw
open PySem PySem.Spec PyProof.Rows L2 Gd Fr
open scoped Rat
def opMany (w : Str) : Nat := if ("fused" : Str) = w then 3 else if ("opposite" : Str) = w then 1 else if ("size" : Str) = w then 1 else 2
theorem op_le (w : Str) : 1 ≤ opMany w ∧ opMany w ≤ 3 := by
  unfold opMany
  split
  · exact ⟨by decide, by decide⟩
  · split
    · exact ⟨by decide, by decide⟩
    · split <;> exact ⟨by decide, by decide⟩
section
variable {b p : Nat} {low high : Int} (F : Fm b p low high)
include F
end
end Lw
set_option exponentiation.threshold 20000
namespace Lw
open PySem PySem.Spec PyProof.Rows L2 Gd Fr
open scoped Rat
namespace Xe
theorem le_cases {x y : Xe} (h : y.lt x = false) : x = y ∨ x.lt y = true := by
  cases c : x.lt y with
  | true => exact .inr rfl
  | false => exact .inl (tot c h)
theorem le_trans {x y z : Xe} (h : y.lt x = false) (h2 : z.lt y = false) : z.lt x = false := by
  rcases le_cases h with rfl | a
  · exact h2
  · rcases le_cases h2 with rfl | b
    · exact h
    · exact asym (trans a b)
end Xe
section
variable {b p : Nat} {low high : Int} (F : Fm b p low high)
include F
end
section
variable {b p : Nat} {low high : Int} (F : Fm b p low high)
include F
end
end Lw
namespace Gd
open PySem PySem.Spec PyProof.Rows L2
section
variable {X : Cx} {i : Nat} {Γ : List VD} {B B1 B2 B' : Bag} {acc ds ys : List PyData} {e a b c : Expr} {es : List Expr} {d da db : VD} {y : PyData} {pos p p1 p2 p3 pos' : Pos} {rest ss s1 s2 : List Stmt} {E : EnO} {Es : En}
end
end Gd
set_option exponentiation.threshold 20000
namespace Lw
open PySem PySem.Spec PyProof.Rows L2 Gd Fr
open scoped Rat
section
variable {b p : Nat} {low high : Int} (F : Fm b p low high)
include F
end
def Xe.rt (b : Nat) (low : Int) (x : Xe) : Prop := x.e = 0 ∨ x.n ≤ 0 ∨ ∃ r, x = .q r ∧ RtOk b low r 3040 2341
end Lw
set_option exponentiation.threshold 20000
namespace Lw
open PySem PySem.Spec PyProof.Rows L2 Gd Fr
open scoped Rat
section
variable {b p : Nat} {low high : Int} (F : Fm b p low high)
include F
end
end Lw
set_option exponentiation.threshold 20000
namespace Lw
open PySem PySem.Spec PyProof.Rows L2 Gd Fr
open scoped Rat
section
variable {b p : Nat} {low high : Int} (F : Fm b p low high)
include F
end
end Lw
namespace Gd
open PySem PySem.Spec PyProof.Rows L2
section
variable {X : Cx} {Γ : List VD} {B B0 B1 B2 : Bag} {e fe i : Expr} {es : List Expr} {p pos dpos : Pos}
end
end Gd
set_option exponentiation.threshold 20000
namespace Lw
open PySem PySem.Spec PyProof.Rows L2 Gd Fr
open scoped Rat
section
variable {b p : Nat} {low high : Int} (F : Fm b p low high)
include F
end
end Lw
set_option exponentiation.threshold 20000
namespace Lw
open PySem PySem.Spec PyProof.Rows L2 Gd Fr
open scoped Rat
section
variable {b p : Nat} {low high : Int} (F : Fm b p low high)
include F
end
end Lw
set_option exponentiation.threshold 20000
namespace Lw
open PySem PySem.Spec PyProof.Rows L2 Gd Fr
open scoped Rat
section
variable {b p : Nat} {low high : Int} (F : Fm b p low high)
include F
end
end Lw
set_option exponentiation.threshold 20000
namespace Lw
open PySem PySem.Spec PyProof.Rows L2 Gd Fr
open scoped Rat
section
variable {b p : Nat} {low high : Int}
end
end Lw
namespace Gd
open PySem PySem.Spec PyProof.Rows L2
theorem RpAll.put {K : PySem.W.Frag} {H : Hp} {v : V} {y : PyData} (r : Rp K H v y) : ∀ {zs : List V} {ds : List PyData} (k : Nat), RpAll K H zs ds → RpAll K H (zs.set k v) (ds.set k y)
  | _, _, _, .nil => .nil
  | _, _, 0, .cons _ t => .cons r t
  | _, _, k + 1, .cons h t => .cons h (RpAll.put r k t)
section
variable {X : Cx} {i : Nat} {Γ : List VD} {B B1 B2 B3 B' : Bag} {acc ds : List PyData} {e e2 a b c : Expr} {d da db : VD} {y y2 : PyData} {pos p p1 p2 p3 pos' px : Pos} {rest ss s1 s2 : List Stmt} {E : EnO}
end
end Gd
namespace Gd
open PySem PySem.Spec PyProof.Rows L2
section
variable {X : Cx} {Γ : List VD} {B B1 B2 : Bag} {i f : Expr}
end
end Gd
namespace Gd
open PySem PySem.Spec PyProof.Rows L2
section
variable {X : Cx} {Γ : List VD} {B B1 B2 : Bag} {a b : Expr} {pos : Pos}
end
end Gd
set_option exponentiation.threshold 20000
namespace Lw
open PySem PySem.Spec PyProof.Rows L2 Gd Fr
open scoped Rat
section
variable {b p : Nat} {low high : Int}
end
end Lw
set_option exponentiation.threshold 20000
namespace Lw
open PySem PySem.Spec PyProof.Rows L2 Gd Fr
open scoped Rat
end Lw
namespace Gd
open PySem PySem.Spec PyProof.Rows L2
theorem hid {K : PySem.W.Frag} {g : Gh} {B : Bag} {H0 H : Hp} {n : Addr} {o : HO} (O : On K g B H0 H) (hn : H n = none) : H0 n = none ∧ Off g n ∧ On K g B H0 (upd H n o) := by
  have n0 : H0 n = none := O.ex.free hn
  refine ⟨n0, fun l e => ?_, fun q u e => ?_, fun q l e => ?_⟩
  · obtain ⟨_, q, _⟩ := O.bag n l e
    rw [hn] at q; cases q
  · rw [upd_ne (ne_of_none e n0)]; exact O.ex _ _ e
  · obtain ⟨a1, a2, a3⟩ := O.bag q l e
    exact ⟨a1, by rw [upd_ne (ne_of_none a2 hn)]; exact a2, a3⟩
section
variable {X : Cx} {Γ : List VD} {B B1 B2 : Bag} {e1 e2 e3 e4 i : Expr} {pos dpos : Pos}
end
section
variable {X : Cx} {Γ : List VD} {B B1 B2 B' : Bag} {e a b c elt : Expr} {scope : Scope} {j : Nat} {x : Str} {px : Pos} {ds ys acc : List PyData} {pos pos' p : Pos} {rest : List Stmt} {E : EnO} {d : VD} {y y1 : PyData}
theorem new_start {g : Gh} {H0 H H1 H' : Hp} {A : Addr} (t : To g H0 H H1 H') (o : On X.K g B1 H1 H') (off : Off g A) (hA : H' A = none) : H A = none := by
  cases h : H A with
  | none => rfl
  | some u =>
    cases h0 : H0 A with
    | none => have := (t.un A u off h0 h).2; rw [hA] at this; cases this
    | some w => have := o.ex _ _ (t.ex _ _ h0); rw [hA] at this; cases this
variable {i : Nat}
theorem Own.put {K : PySem.W.Frag} {g : Gh} {A0 A1 : Hp} {a : Addr} {σ : L2.St} {H0 H : Hp} {v : V} (w : Own K i g A0 A1 a B Γ acc σ H0 H) (j : Nat) (hij : j ≠ i) (r : Rv K g H0 v d) : Own K i g A0 A1 a B (Γ.set j d) acc (σ.set j (some v)) H0 H :=
  ⟨w.to, w.fr, w.off, w.ev.set j r, by rw [List.getElem?_set_ne hij]; exact w.at', w.no, w.ls, w.on⟩
theorem ow_unpack (is : List Nat) {ts : List Expr} {k : Nat} {pt : Pos} {dd : List PyData} (hc : X.calm = true) (h : EJ X Γ B e (.da (.tuple dd)) B1) (hg : PGs X ts (gNames is)) (hl : is.length = dd.length) (hi : ∀ j ∈ is, j ≠ i)
    (q : OwJ X i (setAll Γ is dd) B1 acc rest E) (hn : (assignEach ts X.env).length = dd.length := by rfl) (hst : (assignEach ts X.env).findIdx? (·.1) = none := by rfl)
    (h1 : swapsWithSole [.Tuple ts k pt] e pos.line X.env = pure false := by rfl) (h2 : swappedStores [.Tuple ts k pt] e X.env = pure none := by rfl)
    (h3 : (assignEach [.Tuple ts k pt] X.env).map (·.2) = [assign (.Tuple ts k pt) X.env] := by rfl) : OwJ X i Γ B acc (.Assign [.Tuple ts k pt] e pos :: rest) E := fun g σ A0 A1 ad H0 H w D G =>
  ⟨_, pss_cons (ps_asg (we e) (pg_tup hc hg hn hst) h1 h2 h3) (ws rest), h g σ H0 H w.ev w.on _ fun v H1 H' t o r => by
    have w1 := w.step t o
    obtain ⟨p, xs, rfl, hxs, rs⟩ := rvT r
    refine ⟨p, xs, rfl, seqT o.ex hxs, rs.length, ?_⟩
    have go : ∀ (is : List Nat) (vs : List V) (ds : List PyData) (σ : L2.St) (Γ : List VD), RpAll X.K H1 vs ds → is.length = ds.length → (∀ j ∈ is, j ≠ i) → Own X.K i g A0 A1 ad B1 Γ acc σ H1 H' →
        (∀ σ', Own X.K i g A0 A1 ad B1 (setAll Γ is ds) acc σ' H1 H' → WS X rest D σ' H') → gNames is vs σ H' (WS X rest D) := by
      intro is
      induction is with
      | nil => intro vs ds σ Γ r hl _ w q; cases r with
        | nil => exact ⟨rfl, q σ w⟩
        | cons _ _ => cases hl
      | cons j is ih => intro vs ds σ Γ r hl hj w q; cases r with
        | nil => cases hl
        | cons h1 r => exact ⟨_, _, rfl, ih _ _ _ _ r (Nat.succ.inj hl) (fun j hj' => hj j (List.mem_cons_of_mem _ hj')) (w.put j (hj j (List.mem_cons_self ..)) (d := .da _) h1) q⟩
    exact go is xs dd σ Γ rs hl hi w1 fun σ' w' => q g σ' A0 A1 ad H1 H' w' D (G.on t.ex)⟩
end
end Gd
set_option exponentiation.threshold 20000
namespace Lw
open PySem PySem.Spec PyProof.Rows L2 Gd Fr
open scoped Rat
inductive Stp where
  | input (i : Nat)
  | told (q : Rat)
  | op (w : Str) (is : List Nat)
def Stp.d : Stp → PyData
  | .input i => .tuple [.str "input", .int (i : Nat)]
  | .told q => .tuple [.str "told", fq q]
  | .op w is => .tuple (.str w :: is.map fun i => PyData.int (i : Nat))
def Stp.word : Stp → Str
  | .input _ => "input"
  | .told _ => "told"
  | .op w _ => w
def pgWords : List Str := ["add", "take", "if", "least", "greatest", "opposite", "size", "times", "by", "fused", "root"]
def arity (w : Str) : Nat := if ("fused" : Str) = w then 3 else if ("if" : Str) = w then 4 else if ("opposite" : Str) = w then 1 else if ("size" : Str) = w then 1 else if ("root" : Str) = w then 1 else 2
def Stp.ok (many k : Nat) : Stp → Prop
  | .input i => i < many
  | .told q => Qz 11 5 q
  | .op w is => w ∈ pgWords ∧ is.length = arity w ∧ ∀ i ∈ is, i < k
abbrev SB := Sp × Bool
structure Xe2 (r : Xe × Xe) : Prop where
  l1 : r.1 ≠ .hi
  l2 : r.2 ≠ .lo
  le : r.2.lt r.1 = false
theorem Rok.two {N : Nat} {a : Xe × Xe} (h : Rok N a) : Xe2 a := ⟨h.l1, h.l2, h.le⟩
namespace Xe
end Xe
section
variable {b p : Nat} {low high : Int} (F : Fm b p low high)
include F
end
end Lw
namespace Gd
open PySem PySem.Spec PyProof.Rows L2
theorem off_none {K : PySem.W.Frag} {g : Gh} {B : Bag} {H0 H : Hp} {a : Addr} (o : On K g B H0 H) (h : H a = none) : Off g a := fun l e => by
  obtain ⟨_, q, _⟩ := o.bag a l e
  rw [h] at q; cases q
section
variable {X : Cx} {i : Nat} {Γ : List VD} {B B1 B2 B' : Bag} {acc ds dd : List PyData} {e c : Expr} {es : List Expr} {d : VD} {y : PyData} {pos p p1 p2 p3 pos' : Pos} {rest ss s1 s2 : List Stmt}
variable {E : EnO}
end
end Gd
namespace Gd
open PySem PySem.Spec PyProof.Rows L2
section
variable {X : Cx} {Γ : List VD} {B B1 B2 B' : Bag} {e a b c elt : Expr} {scope : Scope} {j : Nat} {x : Str} {px : Pos}
end
end Gd
namespace Gd
open PySem PySem.Spec PyProof.Rows L2
section
variable {X : Cx} {i : Nat} {Γ : List VD} {B B1 B2 B' : Bag} {acc ds : List PyData} {e a b c : Expr} {es : List Expr} {d : VD} {y : PyData} {pos p p1 p2 p3 pos' : Pos} {rest ss s1 s2 : List Stmt} {E : EnO} {Φ : List PyData → Bag → Prop}
end
end Gd
set_option exponentiation.threshold 20000
namespace Lw
open PySem PySem.Spec PyProof.Rows L2 Gd Fr
open scoped Rat
section
variable {b p : Nat} {low high : Int} (F : Fm b p low high)
include F
end
end Lw
set_option exponentiation.threshold 20000
namespace Lw
open PySem PySem.Spec PyProof.Rows L2 Gd Fr
open scoped Rat
def xle (x y : Xe) : Prop := y.lt x = false
theorem xle.refl (x : Xe) : xle x x := Xe.irr x
theorem xle.trans {x y z : Xe} (h : xle x y) (h2 : xle y z) : xle x z := Xe.le_trans h h2
theorem xle.tot (x y : Xe) : xle x y ∨ xle y x := by
  unfold xle
  cases c : y.lt x with
  | false => exact .inl rfl
  | true => exact .inr (Xe.asym c)
theorem xle.neg {x y : Xe} (h : xle x y) : xle y.neg x.neg := by unfold xle; rw [Xe.neg_lt]; exact h
end Lw
set_option exponentiation.threshold 20000
namespace Lw
open PySem PySem.Spec PyProof.Rows L2 Gd Fr
open scoped Rat
section
variable {b p : Nat} {low high : Int} (F : Fm b p low high)
include F
end
def spin (s t : Sp) : Prop := liesB s t = true
theorem spin_span {u v x y : Va} : spin (.span u v) (.span x y) ↔ ¬ lex3 (plT u) (plT x) ∧ ¬ lex3 (plT y) (plT v) := by
  show ((!decide (lex3 (plT u) (plT x))) && !decide (lex3 (plT y) (plT v))) = true ↔ _
  rw [Bool.and_eq_true, Bool.not_eq_true', Bool.not_eq_true', decide_eq_false_iff_not, decide_eq_false_iff_not]
theorem spin.refl (s : Sp) : spin s s := by
  cases s with
  | none => rfl
  | span u v => exact spin_span.mpr ⟨lex_irr _, lex_irr _⟩
theorem spin.trans {s t u : Sp} (h : spin s t) (h2 : spin t u) : spin s u := by
  cases s with
  | none => rfl
  | span a b => cases t with
    | none => cases h
    | span c d => cases u with
      | none => cases h2
      | span e f =>
        have h := spin_span.mp h; have h2 := spin_span.mp h2
        exact spin_span.mpr ⟨lex3_trans h2.1 h.1, lex3_trans h.2 h2.2⟩
section
variable {b p : Nat} {low high : Int} (F : Fm b p low high)
include F
end
end Lw
set_option exponentiation.threshold 20000
namespace Lw
open PySem PySem.Spec PyProof.Rows L2 Gd Fr
open scoped Rat
section
variable {b p : Nat} {low high : Int} (F : Fm b p low high)
include F
omit F in
def sbin (x' x : SB) : Prop := spin x'.1 x.1 ∧ (x.2 = true → x'.2 = true)
omit F in
theorem sbin.refl (x : SB) : sbin x x := ⟨spin.refl _, fun h => h⟩
omit F in
def bxin (box' box : List Sp) : Prop := box'.length = box.length ∧ ∀ (i : Nat) s s', box[i]? = some s → box'[i]? = some s' → spin s' s
end
end Lw
namespace Gd
open PySem PySem.Spec PyProof.Rows L2
section
variable {X : Cx} {Γ : List VD} {B B1 B2 B' : Bag} {e a b c elt : Expr} {scope : Scope} {j : Nat} {x : Str} {px pos : Pos} {Φ : Post}
end
end Gd
set_option exponentiation.threshold 20000
namespace Lw
open PySem PySem.Spec PyProof.Rows L2 Gd Fr
open scoped Rat
section
variable {b p : Nat} {low high : Int} (F : Fm b p low high)
include F
end
theorem bxin.refl (L : List Sp) : bxin L L := ⟨rfl, fun i s s' h h' => by rw [h] at h'; obtain rfl := Option.some.inj h'; exact spin.refl _⟩
theorem bxin.trans {L L' L'' : List Sp} (h : bxin L L') (h' : bxin L' L'') : bxin L L'' := ⟨by rw [h.1, h'.1], fun i s s' e e' => by
  have hl : i < L'.length := by rw [h'.1]; exact (List.getElem?_eq_some_iff.mp e).1
  have e2 : L'[i]? = some L'[i] := List.getElem?_eq_getElem hl
  exact (h.2 i _ _ e2 e').trans (h'.2 i _ _ e e2)⟩
end Lw
namespace Lw
open PySem PySem.Spec PyProof.Rows L2 Gd Fr
end Lw
set_option exponentiation.threshold 20000
namespace Lw
open PySem PySem.Spec PyProof.Rows L2 Gd Fr
open scoped Rat
structure Sml (b p : Nat) (low high : Int) : Prop where
  bp : b ^ p < 2 ^ 8
  bh : b ^ high.toNat < 2 ^ 11
  bl : b ^ (-low).toNat < 2 ^ 20
  nn : 0 ≤ (p : Int) + high + (-low).toNat
  bt : b ^ ((p : Int) + high + (-low).toNat).toNat < 2 ^ 17
section
variable {b p : Nat} {low high : Int} (F : Fm b p low high) (S : Sml b p low high)
include F S
end
def pt2 (x : Rat) : Xe × Xe := (.q x, .q x)
section
variable {b p : Nat} {low high : Int} (F : Fm b p low high)
include F
end
section
variable {b p : Nat} {low high : Int} (F : Fm b p low high)
include F
end
end Lw
set_option exponentiation.threshold 20000
namespace Lw
open PySem PySem.Spec PyProof.Rows L2 Gd Fr
open scoped Rat
end Lw
namespace Lw
end Lw
set_option exponentiation.threshold 20000
namespace Lw
open PySem PySem.Spec PyProof.Rows L2 Gd Fr
open scoped Rat
end Lw
set_option exponentiation.threshold 20000
namespace Lw
open PySem PySem.Spec PyProof.Rows L2 Gd Fr
open scoped Rat
section
variable {b p : Nat} {low high : Int} (F : Fm b p low high)
include F
end
end Lw
namespace Gd
open PySem PySem.Spec PyProof.Rows L2
section
variable {X : Cx} {Γ : List VD} {B B1 : Bag} {a : Expr} {p p2 p3 pos : Pos}
variable {elt e : Expr} {scope : Scope} {j : Nat} {ds : List PyData} {Φ : Post}
end
end Gd
set_option exponentiation.threshold 20000
namespace Lw
open PySem PySem.Spec PyProof.Rows L2 Gd Fr
open scoped Rat
section
variable {t : F4} (F : Fm t.1 t.2.1 t.2.2.1 t.2.2.2)
include F
end
end Lw
set_option exponentiation.threshold 20000
namespace Lw
open PySem PySem.Spec PyProof.Rows L2 Gd Fr
open scoped Rat
end Lw
namespace Lw
open PySem PySem.Spec PyProof.Rows L2 Gd Fr
open scoped Rat
end Lw
set_option exponentiation.threshold 20000
namespace Lw
open PySem PySem.Spec PyProof.Rows L2 Gd Fr
open scoped Rat
theorem vad_inj {u v : Va} (h : u.d = v.d) : u = v := by
  have e : u.l = v.l := by injection h
  cases u <;> cases v <;> simp [Va.l] at e ⊢ <;> first | exact e | (simp_all)
end Lw
namespace Gd
open PySem PySem.Spec PyProof.Rows L2
section
variable {X : Cx} {i : Nat} {Γ : List VD} {B : Bag} {acc : List PyData} {e : Expr} {pos : Pos} {s1 rest : List Stmt} {E : EnO}
end
end Gd
namespace Gd
open PySem PySem.Spec PyProof.Rows L2
section
variable {X : Cx} {Γ : List VD} {B B1 B2 : Bag} {a b c e elt : Expr} {scope : Scope} {pos p pos' : Pos} {rest s1 : List Stmt} {E : En} {d : VD}
end
section
variable {X : Cx} {Γ : List VD} {B : Bag} {a b : Expr} {pos : Pos} {Φ : Post}
end
end Gd
namespace Gd
open PySem PySem.Spec PyProof.Rows L2 RZ
section
variable {X : Cx} {Γ : List VD} {B B1 B2 B' : Bag} {a b c e e1 elt : Expr} {es : List Expr} {scope : Scope} {pos pos' p p2 p3 : Pos} {rest s1 : List Stmt} {E : En} {d : VD} {ds : List PyData} {y : PyData}
end
end Gd
namespace Gd
open PySem PySem.Spec PyProof.Rows L2
def KSys (K : PySem.W.Frag) : Prop := ∃ o, K.lookup sysModules = some o
def dict1 : List (PyData × PyData) → Bool
  | [(.tuple [.int i, .int j], .int n)] => decide (i.natAbs.log2 < 1920) && (decide (j.natAbs.log2 < 1920) && decide (n.natAbs.log2 < 1920))
  | _ => false
theorem dict1_inv {kvs : List (PyData × PyData)} (h : dict1 kvs = true) : ∃ i j n, kvs = [(.tuple [.int i, .int j], .int n)] ∧ i.natAbs.log2 < 1920 ∧ j.natAbs.log2 < 1920 ∧ n.natAbs.log2 < 1920 := by
  unfold dict1 at h
  split at h
  · rename_i i j n
    simp only [Bool.and_eq_true, decide_eq_true_eq] at h
    exact ⟨i, j, n, rfl, h.1, h.2.1, h.2.2⟩
  · cases h
mutual
def datB : PyData → Bool
  | .none => true
  | .bool _ => true
  | .int i => decide (i.natAbs.log2 < 1920)
  | .str x => PyData.strOk x
  | .list xs => datA xs
  | .tuple xs => datA xs
  | .dict kvs => kvs.isEmpty || dict1 kvs
def datA : List PyData → Bool
  | [] => true
  | x :: xs => datB x && datA xs
end
structure OkA (d : PyData) : Prop where
  any : datB d = true
  dp : d.depth ≤ 60
  bulk : d.bulk ≤ 5000
mutual
theorem any_show : ∀ d : PyData, datB d = true → d.showable = true ∧ d.leavesShort 1921 = true
  | .none, _ => by simp only [PyData.showable, PyData.leavesShort, and_self]
  | .bool _, _ => by simp only [PyData.showable, PyData.leavesShort, and_self]
  | .int i, h => by
    simp only [datB] at h
    exact ⟨by simp only [PyData.showable]; exact h, nice_short (.int i) (by simp only [nice]; exact h)⟩
  | .str x, h => by
    simp only [datB] at h
    exact ⟨by simp only [PyData.showable], nice_short (.str x) (by simp only [nice]; exact h)⟩
  | .list xs, h => by simp only [datB] at h; simp only [PyData.showable, PyData.leavesShort]; exact any_showA xs h
  | .tuple xs, h => by simp only [datB] at h; simp only [PyData.showable, PyData.leavesShort]; exact any_showA xs h
  | .dict kvs, h => by
    simp only [datB, Bool.or_eq_true, List.isEmpty_iff] at h
    rcases h with h | h
    · subst h
      simp only [PyData.showable, PyData.showableKv, PyData.leavesShort, PyData.leavesShortKv, and_self]
    · obtain ⟨i, j, n, rfl, h1, h2, h3⟩ := dict1_inv h
      have k : ∀ i : Int, i.natAbs.log2 < 1920 → PyData.showable (.int i) = true ∧ PyData.leavesShort 1921 (.int i) = true := fun i h =>
        ⟨by simp only [PyData.showable]; exact decide_eq_true h, nice_short (.int i) (by simp only [nice]; exact decide_eq_true h)⟩
      simp only [PyData.showable, PyData.showableAll, PyData.showableKv, PyData.leavesShort, PyData.leavesShortAll, PyData.leavesShortKv, Bool.and_eq_true, Bool.and_true]
      have k1 := k i h1
      have k2 := k j h2
      have k3 := k n h3
      simp only [PyData.showable, PyData.leavesShort] at k1 k2 k3
      simp only [k1, k2, k3, and_self]
theorem any_showA : ∀ ds : List PyData, datA ds = true → PyData.showableAll ds = true ∧ PyData.leavesShortAll 1921 ds = true
  | [], _ => by simp only [PyData.showableAll, PyData.leavesShortAll, and_self]
  | x :: xs, h => by
    simp only [datA, Bool.and_eq_true] at h
    simp only [PyData.showableAll, PyData.leavesShortAll, Bool.and_eq_true]
    exact ⟨⟨(any_show x h.1).1, (any_showA xs h.2).1⟩, (any_show x h.1).2, (any_showA xs h.2).2⟩
end
theorem OkA.len {d : PyData} (h : OkA d) : d.shown.length ≤ sizeLine := by
  have h1 := PyData.shown_le_bulk 1921 (by decide) d (any_show d h.any).2
  have h2 := h.bulk
  rw [show sizeLine = 16777216 from by decide]
  omega
theorem Rp.dict0 {K : PySem.W.Frag} {H : Hp} {v : V} (h : Rp K H v (.dict [])) : ∃ a, v = .ref a ∧ (H a = some (.dK []) ∨ H a = some (.dT [])) := by
  generalize hd : PyData.dict [] = d at h
  cases h with
  | non => cases hd
  | bl b => cases hd
  | int i => cases hd
  | str x => cases hd
  | lst _ _ => cases hd
  | tup _ _ => cases hd
  | dct h => exact ⟨_, rfl, .inl h⟩
  | dctT kvs h =>
    injection hd with hd
    have e : kvs = [] := List.map_eq_nil_iff.mp hd.symm
    subst e
    exact ⟨_, rfl, .inr h⟩
theorem Rp.dict1 {K : PySem.W.Frag} {H : Hp} {v : V} {i j n : Int} (h : Rp K H v (.dict [(.tuple [.int i, .int j], .int n)])) : ∃ a, v = .ref a ∧ H a = some (.dT [([.inl i, .inl j], V.int n)]) := by
  generalize hd : PyData.dict [(.tuple [.int i, .int j], .int n)] = d at h
  cases h with
  | non => cases hd
  | bl b => cases hd
  | int i => cases hd
  | str x => cases hd
  | lst _ _ => cases hd
  | tup _ _ => cases hd
  | dct h => cases hd
  | dctT kvs h =>
    injection hd with hd
    cases kvs with
    | nil => cases hd
    | cons p r =>
      obtain ⟨k, m⟩ := p
      cases r with
      | cons q r => simp only [List.map_cons, List.cons.injEq] at hd; obtain ⟨_, hd⟩ := hd; cases hd
      | nil =>
        simp only [List.map_cons, List.map_nil, List.cons.injEq, Prod.mk.injEq, PyData.tuple.injEq, PyData.int.injEq, and_true] at hd
        obtain ⟨hk, rfl⟩ := hd
        cases k with
        | nil => cases hk
        | cons x k =>
          cases k with
          | nil => simp only [List.map_cons, List.map_nil, List.cons.injEq] at hk; obtain ⟨_, hk⟩ := hk; cases hk
          | cons y k =>
            cases k with
            | cons z k => simp only [List.map_cons, List.cons.injEq] at hk; obtain ⟨_, _, hk⟩ := hk; cases hk
            | nil =>
              simp only [List.map_cons, List.map_nil, List.cons.injEq, PyData.int.injEq, and_true] at hk
              obtain ⟨rfl, rfl⟩ := hk
              exact ⟨_, rfl, h⟩
section
variable {X : Cx} {pins : List (Addr × Obj)} {σ : L2.St} {H : Hp} {s : Shared}
theorem reads_dict1 (hs : KSys X.K) (I : Inv X pins σ H s) {a : Addr} {i j n : Int} (h : H a = some (.dT [([.inl i, .inl j], V.int n)])) :
    ∃ as, Reads s.heap (.ref a) (.dict [(.tuple [.int i, .int j], .int n)]) as ∧ sysModules ∉ as := by
  obtain ⟨_, hd, xs, r0, o, es, ep, h1, h2, h3, h5, _⟩ := dt_of I.hok h
  obtain ⟨b, u, ex, hb, ru⟩ : ∃ (b : Addr) (u : Value), xs = [([.inl i, .inl j], b, u)] ∧ H b = some (.tup [V.int i, V.int j]) ∧ RelV (.int n) u := by
    cases r0 with
    | @cons p q ps qs h0 t0 =>
      cases t0
      obtain ⟨k, b, u⟩ := q
      obtain ⟨e1, e2, e3⟩ := h0
      cases e1
      exact ⟨b, u, rfl, e2, e3⟩
  subst ex
  obtain ⟨t, rfl⟩ := ru
  obtain ⟨its, rv, ⟨o2, ho, hc, k, hd2⟩, _⟩ := I.tuple (SqT.of (K := X.K) hb)
  have e : es.toList = [entryOfKey (tupleKind (mixKind X.prog X.w)) ([.inl i, .inl j], b, .int n t)] := h5
  have hit : ∃ t1 t2, its = [.int i t1, .int j t2] := by
    cases rv with
    | cons r1 rv =>
      cases rv with
      | cons r2 rv =>
        cases rv
        obtain ⟨t1, rfl⟩ := r1
        obtain ⟨t2, rfl⟩ := r2
        exact ⟨t1, t2, rfl⟩
  obtain ⟨t1, t2, rfl⟩ := hit
  refine ⟨[a] ++ [], Reads.dict (as := []) (bs := []) h1 h2.1 h3 ?_ ?_, fun z => ?_⟩
  · rw [e]
    exact ReadsAll.cons (as := []) (bs := []) (Reads.tuple ho hc hd2 (ReadsAll.cons (as := []) (bs := []) (Reads.int i t1) (ReadsAll.cons (as := []) (bs := []) (Reads.int j t2) ReadsAll.nil))) ReadsAll.nil
  · rw [e]
    exact ReadsAll.cons (as := []) (bs := []) (Reads.int n t) ReadsAll.nil
  · rw [List.append_nil, List.mem_singleton] at z
    rw [← z] at hd; simp at hd
theorem reads_dict0 (I : Inv X pins σ H s) {a : Addr} (h : H a = some (.dK []) ∨ H a = some (.dT [])) : ∃ as, Reads s.heap (.ref a) (.dict []) as ∧ sysModules ∉ as := by
  rcases h with h | h
  · obtain ⟨_, hd, vs, r0, o, es, ep, h1, h2, h3, _, h5, _⟩ := dk_of I.hok h
    cases r0
    have e : es.toList = [] := by
      generalize hx : es.toList = l at h5
      cases h5; rfl
    refine ⟨[a], Reads.dict (as := []) (bs := []) h1 h2.1 h3 (by rw [e]; exact .nil) (by rw [e]; exact .nil), fun z => ?_⟩
    rw [List.mem_singleton] at z
    rw [← z] at hd; simp at hd
  · obtain ⟨_, hd, xs, r0, o, es, ep, h1, h2, h3, h5, _⟩ := dt_of I.hok h
    cases r0
    have e : es.toList = [] := h5
    refine ⟨[a], Reads.dict (as := []) (bs := []) h1 h2.1 h3 (by rw [e]; exact .nil) (by rw [e]; exact .nil), fun z => ?_⟩
    rw [List.mem_singleton] at z
    rw [← z] at hd; simp at hd
mutual
theorem Rp.readsA (hs : KSys X.K) (I : Inv X pins σ H s) : ∀ (d : PyData) (v : V) (u : Value), datB d = true → Rp X.K H v d → RelV v u → ∃ as, Reads s.heap u d as ∧ sysModules ∉ as
  | .none, _, _, _, h, r => by
    cases h
    cases r
    exact ⟨_, Reads.none, by simp⟩
  | .bool b, _, _, _, h, r => by
    cases h
    cases r
    exact ⟨_, Reads.bool b, by simp⟩
  | .int i, _, _, _, h, r => by
    cases h
    obtain ⟨t, rfl⟩ := r
    exact ⟨_, Reads.int i t, by simp⟩
  | .str x, _, _, _, h, r => by
    cases h
    obtain ⟨t, rfl⟩ := r
    exact ⟨_, Reads.str x t, by simp⟩
  | .list ds, _, _, n, h, r => by
    cases h with
    | @lst a xs _ hx ha =>
      cases r
      simp only [datB] at n
      obtain ⟨its, rv, ⟨o, k, ho, hc, _, hd⟩, _⟩ := I.list (SqL.of hx)
      obtain ⟨as, hr, hn⟩ := RpAll.readsA hs I ds _ its n ha rv
      refine ⟨_, Reads.list ho hc hd hr, fun z => ?_⟩
      rcases List.mem_cons.mp z with z | z
      · obtain ⟨o2, h2⟩ := hs
        have := (I.bs _ _ (I.mod.kin _ _ h2)).2
        rw [z, hx] at this; cases this
      · exact hn z
  | .tuple ds, _, _, n, h, r => by
    cases h with
    | tup hx ha =>
      cases r
      simp only [datB] at n
      obtain ⟨its, rv, ⟨o, ho, hc, k, hd⟩, _⟩ := I.tuple hx
      obtain ⟨as, hr, hn⟩ := RpAll.readsA hs I ds _ its n ha rv
      exact ⟨_, Reads.tuple ho hc hd hr, hn⟩
  | .dict kvs, v, _, n, h, r => by
    simp only [datB, Bool.or_eq_true, List.isEmpty_iff] at n
    rcases n with n | n
    · subst n
      obtain ⟨a, rfl, h0⟩ := h.dict0
      cases r
      exact reads_dict0 I h0
    · obtain ⟨i, j, m, rfl, _⟩ := dict1_inv n
      obtain ⟨a, rfl, h0⟩ := h.dict1
      cases r
      exact reads_dict1 hs I h0
theorem RpAll.readsA (hs : KSys X.K) (I : Inv X pins σ H s) : ∀ (ds : List PyData) (vs : List V) (us : List Value), datA ds = true → RpAll X.K H vs ds → Vals vs us → ∃ as, ReadsAll s.heap us ds as ∧ sysModules ∉ as
  | [], _, _, _, h, r => by
    cases h
    cases r
    exact ⟨_, ReadsAll.nil, by simp⟩
  | d :: ds, _, _, n, h, r => by
    simp only [datA, Bool.and_eq_true] at n
    cases h with
    | cons h1 h2 =>
      cases r with
      | cons r1 r2 =>
        obtain ⟨as, q1, n1⟩ := Rp.readsA hs I d _ _ n.1 h1 r1
        obtain ⟨bs, q2, n2⟩ := RpAll.readsA hs I ds _ _ n.2 h2 r2
        exact ⟨_, ReadsAll.cons q1 q2, fun z => (List.mem_append.mp z).elim n1 n2⟩
end
end
section
variable {X : Cx} {Γ : List VD} {B B1 B2 B' : Bag} {a b e : Expr} {es : List Expr} {d : VD} {y : PyData} {pos p pos' : Pos}
theorem ej_dict0 : EJ X Γ B (.Dict [] [] pos) (.da (.dict [])) B := fun g σ H0 H Ev O Q q =>
  ⟨_, pe_dnewK, fun n hn => by
    obtain ⟨t, o⟩ := laid (o := .dK []) O hn
    exact q _ _ _ t o (Rp.dct upd_same)⟩
theorem call_reprA {k : Nat} (g : Gx k X) (hs : KSys X.K) : CallR X (.builtin "repr") (fun xs H Q => ∃ x d, xs = [x] ∧ Rp X.K H x d ∧ OkA d ∧ Q (.str d.shown) H) := by
  intro pins s σ H xs us Q I rr h
  obtain ⟨x, d, rfl, hd, S, q⟩ := h
  obtain ⟨u, rfl, rx⟩ := vals1 rr
  have big : ∀ (a : Addr), u = .ref a → wpAny (model X.prog X.w) X.A (call (.builtin "repr") [u]) (EP X pins σ Q) X.xe s := fun a e => by
    subst e
    obtain ⟨as, rd, na⟩ := hd.readsA hs I d x (.ref a) S.any rx
    have hu := g.rm.un
    refine repr_of_reads' rd (any_show d S.any).1 (fun _ => na) g.gd (by have := S.dp; omega) (fun _ _ e => e) (fun h' u tk kp => ?_) S.len
    exact ⟨.str d.shown, H, I.kept (t' := tk) kp, ⟨u, rfl⟩, q⟩
  cases hd with
  | non => cases rx; exact PySem.P.repr_of_none ⟨.str _, H, I.tok _, ⟨_, rfl⟩, q⟩
  | bl b => cases rx; exact PySem.P.repr_of_bool ⟨.str _, H, I.tok _, ⟨_, rfl⟩, q⟩
  | int i =>
    obtain ⟨t, rfl⟩ := rx
    have hz := S.any
    simp only [datB, decide_eq_true_eq] at hz
    exact PySem.P.repr_of_int hz ⟨.str _, H, I.tok _, ⟨_, rfl⟩, q⟩
  | str x =>
    obtain ⟨t, rfl⟩ := rx
    exact PySem.P.repr_of_str ⟨.str _, H, I.tok _, ⟨_, rfl⟩, q⟩ S.len
  | lst _ _ => cases rx; exact big _ rfl
  | tup _ _ => cases rx; exact big _ rfl
  | dct _ => cases rx; exact big _ rfl
  | dctT _ _ => cases rx; exact big _ rfl
theorem ej_reprA {k : Nat} (g : Gx k X) (hs' : KSys X.K) (hm : X.mg "repr" = none) (ha : EJ X Γ B a (.da y) B1) (S : OkA y)
    (hs : starEach [a] X.env = [(false, eval a X.env)] := by rfl) (hg : Gl X "repr" := by rfl) : EJ X Γ B (.Call (.Name "repr" p) [a] [] pos) (.da (.str y.shown)) B1 :=
  ej_callB (call_reprA g hs') hm (aj_cons ha aj_nil hs) (fun gh vs H0 H O r Q q => by
    obtain ⟨v, rfl, h⟩ := rv1 r
    have h : Rp X.K H0 v y := h
    exact ⟨v, y, rfl, h.mono O.ex, S, q _ _ _ To.refl O (Rp.str _)⟩) (hg := hg) (he := hs)
def rTupE (K : PySem.W.Frag) (f : Bool → Bool) : R2 := fun x y H Q => ∃ ds : List PyData, Rp K H x (.tuple ds) ∧ Rp K H y (.tuple []) ∧ Q (.bl (f ds.isEmpty)) H
theorem tup_two {pins : List (Addr × Obj)} {σ : L2.St} {s : Shared} {H : Hp} {ds : List PyData} {x y : V} {v u : Value} (I : Inv X pins σ H s) (hx : Rp X.K H x (.tuple ds)) (hy : Rp X.K H y (.tuple [])) (rx : RelV x v) (ry : RelV y u) :
    ∃ (l b : Addr) (its : Array Value), v = .ref l ∧ u = .ref b ∧ s.heap.IsTuple l its ∧ s.heap.IsTuple b #[] ∧ its.size = ds.length := by
  cases hx with
  | tup h r =>
    cases hy with
    | tup h' r' =>
      cases r'
      cases rx
      cases ry
      obtain ⟨its, rv, p, _⟩ := I.tuple h
      obtain ⟨its', rv', p', _⟩ := I.tuple h'
      cases rv'
      exact ⟨_, _, its.toArray, rfl, rfl, p, p', by have := rv.length; have := r.length; simp; omega⟩
theorem op_neE (hu : X.A.units + 64 < cLine) : OpR X (compareOp .NotEq) (rTupE X.K not) := by
  intro pins s σ H x y v u Q I rx ry h
  obtain ⟨ds, hx, hy, q⟩ := h
  obtain ⟨l, b, its, rfl, rfl, h1, h2, hl⟩ := tup_two I hx hy rx ry
  have k := SeqAt.RcNeAt.tuples (A := X.A) (e := fun _ => true) h1 h2 (by omega) (fun j _ z => absurd z (by simp))
  refine k X.prog X.w _ _ ⟨.bl _, H, I, rfl, ?_⟩
  have e : (!((List.range (min its.size (#[] : Array Value).size)).all (fun _ => true) && its.size == (#[] : Array Value).size)) = !ds.isEmpty := by
    rw [hl]
    cases ds <;> simp
  rw [e]; exact q
theorem tj_neE {ds : List PyData} (hu : X.A.units + 64 < cLine) (ha : EJ X Γ B a (.da (.tuple ds)) B1) (hb : EJ X Γ B1 b (.da (.tuple [])) B2) : TJ X Γ B (.Compare a [.NotEq] [b] pos) (!ds.isEmpty) B2 :=
  tj_cmp ha hb (op_neE hu) (nomark _) fun g v w H0 H O r1 r2 Q q => ⟨ds, Rp.mono O.ex r1, Rp.mono O.ex r2, q H0 H To.refl O⟩
end
end Gd
namespace HT
open PySem PySem.Spec PyProof.Rows L2
section
variable {prog : Program} {w : World} {A : Around} {E : Value → Shared → Prop} {s : Shared}
theorem fm_congr {α β : Type} {f g : α → Option β} : ∀ (l : List α), (∀ x ∈ l, f x = g x) → l.filterMap f = l.filterMap g
  | [], _ => rfl
  | x :: l, h => by
    have e := h x List.mem_cons_self
    have r := fm_congr l fun y hy => h y (List.mem_cons_of_mem _ hy)
    simp only [List.filterMap_cons, e, r]
theorem rev_pick (xs : List Value) : ((List.range xs.length).filterMap fun (k : Nat) => xs.toArray[(((xs.length : Nat) : Int) - 1 + (k : Int) * (-1)).toNat]?) = xs.reverse := by
  have e : ((List.range xs.length).filterMap fun (k : Nat) => xs.toArray[(((xs.length : Nat) : Int) - 1 + (k : Int) * (-1)).toNat]?) = (List.range xs.length).filterMap fun k => xs.reverse[k]? := by
    apply fm_congr
    intro k hk
    have hk := List.mem_range.mp hk
    rw [List.getElem?_reverse hk]
    rw [show (((xs.length : Nat) : Int) - 1 + (k : Int) * (-1)).toNat = xs.length - 1 - k by omega]
    simp
  rw [e]
  have h : ∀ (l : List Value), ((List.range l.length).filterMap fun k => l[k]?) = l := fun l => by
    have g : ∀ n, n ≤ l.length → ((List.range n).filterMap fun k => l[k]?) = l.take n := by
      intro n
      induction n with
      | zero => intro _; rfl
      | succ n ih =>
        intro hn
        rw [List.range_succ, List.filterMap_append, ih (by omega), List.take_add_one, List.getElem?_eq_getElem (by omega)]
        simp [List.getElem?_eq_getElem (show n < l.length by omega)]
    rw [g _ (Nat.le_refl _), List.take_length]
  have := h xs.reverse
  rw [List.length_reverse] at this
  exact this
theorem getItem_tuple_rev {t sl : Addr} {xs : List Value} {vl vu vs : Value} {Q : Value → Shared → Prop} (ht : IsTup s.heap t xs.toArray) (hs : s.heap.IsSliceOf sl vl vu vs) (pl : IsPart vl none) (pu : IsPart vu none) (ps : IsPart vs (some (-1)))
    (h : Q (.ref s.heap.objs.size) { s with heap := s.heap.push { cls := .type "tuple", data := .seq xs.reverse.toArray } })
    (hsz : xs.length ≤ sizeLine) : wpAny (model prog w) A (getItem (.ref t) (.ref sl)) Q E s := by
  have htake : sizeOk (.seq xs.reverse.toArray) := by
    show xs.reverse.toArray.size ≤ sizeLine
    rw [List.size_toArray, List.length_reverse]; exact hsz
  obtain ⟨os, hos, hcs, hds⟩ := id hs
  have hTs : s.TypeIs (.ref sl) "slice" := ⟨os, hos, hcs⟩
  unfold getItem
  try with_reducible refine wpAny_holding ?_
  first | refine wpAny_bind (wpAny_pure ?_) | skip
  refine wpAny_bind (wpAny_sequenceKey ht.typeIs (by decide) ?_)
  refine wpAny_bind (wpAny_callSpecial?_slot (name := Str.ofString "__getitem__") ht.typeIs PyProof.Rows.slot_tuple_getitem
    (wpAny_call_entry PyProof.Rows.slot_tuple_getitem ht.typeIs entry_tuple_getitem ?_ (args_tuple_getitem _ _)))
  show wpAny _ _ (Builtin.Tuple.tupleItemsOf (.ref t) >>= _) _ _ s
  refine wpAny_bind (tupleItemsOf_ ht ?_)
  refine wpAny_bind (wpAny_typeOf hTs ?_)
  rw [if_pos (by decide)]
  have hn : (xs.toArray.size : Int) = ((xs.length : Nat) : Int) := by rw [List.size_toArray]
  refine wpAny_bind (m := Builtin.Slice.sliceApplied (.ref sl) (pure (xs.toArray.size : Int))) ?_
  unfold Builtin.Slice.sliceApplied Builtin.Slice.sliceFields
  refine wpAny_bind (wpAny_bind (wpAny_field hos hds (x := vl) rfl (wpAny_bind (wpAny_field hos hds (x := vu) rfl (wpAny_bind (wpAny_field hos hds (x := vs) rfl (wpAny_pure ?_)))))))
  refine wpAny_bind (slicePart_ ps ?_)
  show wpAny _ _ (if ((-1 : Int) == 0) = true then _ else _) _ _ s
  rw [if_neg (by decide)]
  refine wpAny_bind (slicePart_ pl (wpAny_bind (slicePart_ pu (wpAny_bind (wpAny_pure ?_)))))
  have ea : Builtin.Slice.sliceAdjust none none (-1) (xs.toArray.size : Int) = (((xs.length : Nat) : Int) - 1, -1) := by
    unfold Builtin.Slice.sliceAdjust
    rw [hn]; rfl
  show wpAny _ _ (match Builtin.Slice.sliceAdjust none none (-1) (xs.toArray.size : Int) with | (lo, hi) => pure (lo, (-1 : Int), Builtin.Slice.slicePlaces lo hi (-1))) _ _ s
  rw [ea]
  have ep : Builtin.Slice.slicePlaces (((xs.length : Nat) : Int) - 1) (-1) (-1) = xs.length := by
    unfold Builtin.Slice.slicePlaces
    rw [if_neg (by decide)]
    split
    · rw [show -(-1 : Int) = 1 from rfl, Int.ediv_one]; omega
    · omega
  show wpAny _ _ (pure ((((xs.length : Nat) : Int) - 1), (-1 : Int), Builtin.Slice.slicePlaces (((xs.length : Nat) : Int) - 1) (-1) (-1))) _ _ s
  rw [ep]
  refine wpAny_pure ?_
  have hno : ¬ ((((xs.length : Nat) : Int) - 1 == 0 && (-1 : Int) == 1 && xs.length == xs.toArray.size) = true) := by
    rw [show ((-1 : Int) == 1) = false from rfl, Bool.and_false, Bool.false_and]; decide
  show wpAny _ _ (if (((xs.length : Nat) : Int) - 1 == 0 && (-1 : Int) == 1 && xs.length == xs.toArray.size) = true then _ else _) _ _ s
  rw [if_neg hno, rev_pick]
  first
    | exact wpAny_bind (m := Builtin.Tuple.tupleExact _) (wpAny_newObj_type (wpAny_pure ⟨_, rfl, wpAny_pure h⟩) htake)
    | exact wpAny_bind (m := Builtin.Tuple.tupleExact _) (wpAny_newObj_type (wpAny_bind (wpAny_pure (wpAny_pure ⟨_, rfl, wpAny_pure h⟩))) htake)
    | exact wpAny_bind (wpAny_bind (m := Builtin.Tuple.tupleExact _) (wpAny_newObj_type (wpAny_pure (wpAny_pure ⟨_, rfl, wpAny_pure h⟩)) htake))
    | exact wpAny_bind (wpAny_bind (m := Builtin.Tuple.tupleExact _) (wpAny_newObj_type (wpAny_pure ⟨_, rfl, wpAny_pure h⟩) htake))
end
end HT
namespace Gd
open PySem PySem.Spec PyProof.Rows L2
def tRevT (K : PySem.W.Frag) (te : TE) : TE := fun σ H Q => te σ H fun x H1 => ∃ a xs, x = .ref a ∧ SqT K H1 a xs ∧ ∀ p, H1 p = none → Q (.ref p) (upd H1 p (.tup xs.reverse))
theorem pe_revT {X : Cx} {e : Expr} {te : TE} {k : Nat} {p1 p2 p3 pos : Pos} (he : PE X e te) : PE X (.Subscript e (.Slice none none (some (.UnaryOp .USub (.Constant (.int 1) k p1) p2)) p3) pos) (tRevT X.K te) := by
  refine ⟨fun pins s σ H Q I h => ?_⟩
  refine Subscript_ (thn (he.run pins s σ H _ I h) fun v s1 ⟨x, H1, I1, r1, q1⟩ => ?_)
  obtain ⟨a, xs, ex, hx, q⟩ := q1
  subst ex
  cases r1
  have hst : PO X (some (.UnaryOp .USub (.Constant (.int 1) k p1) p2)) (tPart (tUn (rU fun i => .int (-i)) (tC (.int 1)))) := po_some (pe_un un_neg pe_int)
  refine wpAny_Slice (thn (po_none.run pins s1 σ H1 (fun o H2 => o = none ∧ H2 = H1) I1 ⟨rfl, rfl⟩) fun vl s2 ⟨l, H2, I2, pl, el, e2⟩ => ?_)
  subst el e2
  refine thn (po_none.run pins s2 σ H2 (fun o H3 => o = none ∧ H3 = H2) I2 ⟨rfl, rfl⟩) fun vu s3 ⟨u, H3, I3, pu, eu, e3⟩ => ?_
  subst eu e3
  refine thn (hst.run pins s3 σ H3 (fun o H4 => o = some (-1) ∧ H4 = H3) I3 ⟨1, rfl, -1, rfl, rfl, rfl⟩) fun vs s4 ⟨o, H4, I4, ps, eo, e4⟩ => ?_
  subst eo e4
  have I5 : Inv X pins σ H4 { s4 with heap := s4.heap.push { cls := .type "slice", data := .fields #[vl, vu, vs] } } := I4.kept (t' := s4.toks) fun b ob q => Heap.get?_push_of_some _ q
  obtain ⟨its, r, ht, hz⟩ := I5.tuple hx
  have hlen := r.length
  show wpAny (model X.prog X.w) X.A (subscriptTail e (.Slice none none (some (.UnaryOp .USub (.Constant (.int 1) k p1) p2)) p3) (.ref a) (.ref s4.heap.objs.size)) (EP X pins σ Q) X.xe { s4 with heap := s4.heap.push { cls := .type "slice", data := .fields #[vl, vu, vs] } }
  refine tail_any (ops := [.ref a, .ref s4.heap.objs.size]) ht.typeIs (PyProof.Rows.slot_tuple_getitem.lookup) ?_ (by with_unfolding_all rfl)
  refine HT.getItem_tuple_rev ht (Heap.IsSliceOf.new _ vl vu vs) pl pu ps ?_ (by omega)
  refine ⟨.ref _, _, I5.laid (t' := s4.toks) (o := .tup xs.reverse) (fun b ob q => Heap.get?_push_of_some _ q) (Nat.le_refl _) ?_, rfl, q _ (I5.hok.fresh (Nat.le_refl _))⟩
  exact ⟨by rw [List.length_reverse]; exact hz, _, r.reverse, IsTup.new _ _⟩
section
variable {X : Cx} {Γ : List VD} {B B1 : Bag} {a b e : Expr} {k : Nat} {p p1 p2 p3 pos : Pos} {ds : List PyData} {Φ : Post}
theorem RpAll.rev {K : PySem.W.Frag} {H : Hp} : ∀ {vs : List V} {ds : List PyData}, RpAll K H vs ds → RpAll K H vs.reverse ds.reverse
  | _, _, .nil => .nil
  | _, _, .cons h r => by
    rw [List.reverse_cons, List.reverse_cons]
    exact (RpAll.rev r).app (.cons h .nil)
theorem ej_revT (ha : EJ X Γ B e (.da (.tuple ds)) B1) : EJ X Γ B (.Subscript e (.Slice none none (some (.UnaryOp .USub (.Constant (.int 1) k p1) p2)) p3) pos) (.da (.tuple ds.reverse)) B1 := fun g σ H0 H Ev O Q q =>
  ⟨_, pe_revT (we e), ha g σ H0 H Ev O _ fun v H1 H' t o r => by
    obtain ⟨a, xs, rfl, hx, rs⟩ := rvT r
    refine ⟨a, xs, rfl, seqT o.ex hx, fun n hn => ?_⟩
    obtain ⟨t2, o2⟩ := laid (o := .tup xs.reverse) o hn
    exact q _ _ _ (t.trans t2) o2 (Rp.tup (SqT.of upd_same) (rs.rev.mono t2.ex))⟩
end
end Gd
namespace Gd
open PySem PySem.Spec PyProof.Rows L2
section
variable {X : Cx} {Γ : List VD} {B B1 B2 B3 B' : Bag} {a b e : Expr} {es : List Expr} {d : VD} {y : PyData} {pos p pos' p1 p2 p3 p4 : Pos}
end
end Gd
namespace Gd
open PySem PySem.Spec PyProof.Rows L2 RZ
section
variable {X : Cx} {Γ : List VD} {B B1 B2 B' : Bag} {e a b c : Expr} {elt : Expr} {scope : Scope} {j : Nat} {x : Str} {px : Pos} {ds ys : List PyData} {pos pos' : Pos} {acc : List PyData}
end
end Gd
namespace Gd
open PySem PySem.Spec PyProof.Rows L2
section
variable {X : Cx} {Γ : List VD} {B B1 B2 B' : Bag} {e a b c : Expr} {es : List Expr} {elt : Expr} {scope : Scope} {pos pos' : Pos} {acc : List PyData}
end
end Gd
namespace Gd
open PySem PySem.Spec PyProof.Rows L2
section
variable {P : Program} {w : World} {A : Around} {E : Value → Shared → Prop} {s : Shared} {a : Addr} {l0 : Addr} {l : List Str} {items : Array Value}
end
section
variable {X : Cx} {Γ : List VD} {B B1 : Bag} {b : Expr} {pos p : Pos} {Φ : Post}
end
end Gd
namespace Gd
open PySem PySem.Spec PyProof.Rows L2
section
variable {X : Cx} {Γ : List VD} {B B1 B2 : Bag} {a e : Expr} {pos p p' kp : Pos} {rest : List Stmt} {ds : List PyData}
end
end Gd
namespace Gd
open PySem PySem.Spec PyProof.Rows L2
section
variable {X : Cx} {Γ : List VD} {B B1 B2 : Bag} {a b c elt : Expr} {scope : Scope} {pos p : Pos}
end
end Gd
set_option exponentiation.threshold 20000
namespace Lw
open PySem PySem.Spec PyProof PyProof.Rows L2 Gd Fr
open scoped Rat
end Lw
set_option exponentiation.threshold 20000
namespace Lw
open PySem PySem.Spec PyProof.Rows L2 Gd Fr
open scoped Rat
end Lw
set_option exponentiation.threshold 20000
namespace Lw
open PySem PySem.Spec PyProof.Rows L2 Gd Fr
open scoped Rat
section
variable {b p : Nat} {low high : Int} (F : Fm b p low high)
include F
end
end Lw
set_option exponentiation.threshold 20000
namespace Lw
open PySem PySem.Spec PyProof.Rows L2 Gd Fr
open scoped Rat
section
variable {b p : Nat} {low high : Int} (F : Fm b p low high)
include F
end
section
variable {b p : Nat} {low high : Int} {L : List Stp} {s : Sp}
variable (F : Fm b p low high)
include F
end
end Lw
set_option exponentiation.threshold 20000
namespace Lw
open PySem PySem.Spec PyProof.Rows L2 Gd Fr
open scoped Rat
def wordedB : PyData → Str → Nat → Bool
  | .tuple (.str x :: r), w, n => decide (r.length + 1 = n) && decide (x = w)
  | _, _, _ => false
def intB : PyData → Bool
  | .int _ => true
  | _ => false
inductive R_worded : Rel
  | mk (d : PyData) (w : Str) (n : Nat) (B : Bag) (hn : 1 ≤ n) (hl : n ≤ 100) : R_worded [.da d, .da (.str w), .da (.int (n : Nat))] B (.bool (wordedB d w n)) B
inductive R_anyint : Rel
  | mk (d : PyData) (B : Bag) : R_anyint [.da d] B (.bool (intB d)) B
inductive Pap where
  | in_
  | part (i : Nat) (x y : Pap)
def Pap.d : Pap → PyData
  | .in_ => .tuple [.str "in"]
  | .part i x y => .tuple [.str "part", .int (i : Nat), x.d, y.d]
section
variable {b p : Nat} {low high : Int} {L : List Stp} {s : Sp}
end
structure An (D W : Nat) (d : PyData) : Prop where
  any : datB d = true
  dp : d.depth ≤ D
  bk : d.bulk ≤ W
structure AnA (D W : Nat) (ds : List PyData) : Prop where
  any : datA ds = true
  dp : PyData.depthAll ds ≤ D
  bk : PyData.bulkAll ds ≤ W
theorem An.le {D W D' W' : Nat} {d : PyData} (h : An D W d) (e : D ≤ D') (f : W ≤ W') : An D' W' d := ⟨h.any, Nat.le_trans h.dp e, Nat.le_trans h.bk f⟩
theorem AnA.le {D W D' W' : Nat} {d : List PyData} (h : AnA D W d) (e : D ≤ D') (f : W ≤ W') : AnA D' W' d := ⟨h.any, Nat.le_trans h.dp e, Nat.le_trans h.bk f⟩
theorem An.ok {D W : Nat} {d : PyData} (h : An D W d) (e : D ≤ 60 := by decide) (f : W ≤ 5000 := by decide) : OkA d := ⟨h.any, Nat.le_trans h.dp e, Nat.le_trans h.bk f⟩
theorem AnA.nil {D W : Nat} : AnA D W [] := ⟨by simp only [datA], by simp only [PyData.depthAll]; omega, by simp only [PyData.bulkAll]; omega⟩
theorem AnA.cons {D W W' : Nat} {d : PyData} {ds : List PyData} (h : An D W d) (r : AnA D W' ds) : AnA D (W + 1 + W') (d :: ds) :=
  ⟨by simp only [datA, Bool.and_eq_true]; exact ⟨h.any, r.any⟩, by have := h.dp; have := r.dp; simp only [PyData.depthAll]; omega, by have := h.bk; have := r.bk; simp only [PyData.bulkAll]; omega⟩
theorem An.tup {D W : Nat} {ds : List PyData} (h : AnA D W ds) : An (D + 1) W (.tuple ds) := ⟨by simp only [datB]; exact h.any, by have := h.dp; simp only [PyData.depth]; omega, by have := h.bk; simp only [PyData.bulk]; omega⟩
theorem An.lst {D W : Nat} {ds : List PyData} (h : AnA D W ds) : An (D + 1) W (.list ds) := ⟨by simp only [datB]; exact h.any, by have := h.dp; simp only [PyData.depth]; omega, by have := h.bk; simp only [PyData.bulk]; omega⟩
theorem An.tup_inv {D W : Nat} {ds : List PyData} (h : An (D + 1) W (.tuple ds)) : AnA D W ds := ⟨by have := h.any; simp only [datB] at this; exact this, by have := h.dp; simp only [PyData.depth] at this; omega, by have := h.bk; simp only [PyData.bulk] at this; omega⟩
theorem AnA.mem {D W : Nat} : ∀ {ds : List PyData}, AnA D W ds → ∀ d ∈ ds, An D W d
  | [], _, _, h => by cases h
  | x :: xs, h, d, hd => by
    have a := h.any
    have b := h.dp
    have c := h.bk
    simp only [datA, Bool.and_eq_true] at a
    simp only [PyData.depthAll] at b
    simp only [PyData.bulkAll] at c
    rcases List.mem_cons.mp hd with rfl | hd
    · exact ⟨a.1, by omega, by omega⟩
    · exact AnA.mem (ds := xs) ⟨a.2, by omega, by omega⟩ d hd
theorem AnA.app {D W W' : Nat} : ∀ {ds es : List PyData}, AnA D W ds → AnA D W' es → AnA D (W + W') (ds ++ es)
  | [], es, _, h => h.le (Nat.le_refl _) (by omega)
  | x :: xs, es, h, h' => by
    have a := h.any
    have b := h.dp
    have c := h.bk
    simp only [datA, Bool.and_eq_true] at a
    simp only [PyData.depthAll] at b
    simp only [PyData.bulkAll] at c
    have r := AnA.app (D := D) (W := W - (x.bulk + 1)) (ds := xs) ⟨a.2, by omega, by omega⟩ h'
    rw [List.cons_append]
    exact (AnA.cons (D := D) (W := x.bulk) ⟨a.1, by omega, Nat.le_refl _⟩ r).le (Nat.le_refl _) (by omega)
theorem AnA.sub {D W : Nat} : ∀ {ds es : List PyData}, es.Sublist ds → AnA D W ds → AnA D W es := by
  intro ds es h
  induction h generalizing W with
  | slnil => exact fun h => h
  | @cons l1 l2 a h ih =>
    intro k
    have a1 := k.any
    have b1 := k.dp
    have c1 := k.bk
    simp only [datA, Bool.and_eq_true] at a1
    simp only [PyData.depthAll] at b1
    simp only [PyData.bulkAll] at c1
    exact ih ⟨a1.2, by omega, by omega⟩
  | @cons_cons l1 l2 a h ih =>
    intro k
    have a1 := k.any
    have b1 := k.dp
    have c1 := k.bk
    simp only [datA, Bool.and_eq_true] at a1
    simp only [PyData.depthAll] at b1
    simp only [PyData.bulkAll] at c1
    have r := ih (W := W - (a.bulk + 1)) ⟨a1.2, by omega, by omega⟩
    exact (AnA.cons (D := D) (W := a.bulk) ⟨a1.1, by omega, Nat.le_refl _⟩ r).le (Nat.le_refl _) (by omega)
theorem AnA.rev {D W : Nat} : ∀ {ds : List PyData}, AnA D W ds → AnA D W ds.reverse
  | [], h => h
  | x :: xs, h => by
    have a := h.any
    have b := h.dp
    have c := h.bk
    simp only [datA, Bool.and_eq_true] at a
    simp only [PyData.depthAll] at b
    simp only [PyData.bulkAll] at c
    rw [List.reverse_cons]
    have r := AnA.rev (D := D) (W := W - (x.bulk + 1)) (ds := xs) ⟨a.2, by omega, by omega⟩
    exact (r.app (AnA.cons (D := D) (W := x.bulk) ⟨a.1, by omega, Nat.le_refl _⟩ (AnA.nil (W := 0)))).le (Nat.le_refl _) (by omega)
theorem An.int {D W n : Nat} {i : Int} (h : Bd n i) (e : n ≤ 1920 := by decide) : An D W (.int i) := ⟨by
  have := nice_int h e
  simp only [nice] at this
  simp only [datB]; exact this, by simp only [PyData.depth]; omega, by simp only [PyData.bulk]; omega⟩
theorem An.bool {D W : Nat} {i : Bool} : An D W (.bool i) := ⟨by simp only [datB], by simp only [PyData.depth]; omega, by simp only [PyData.bulk]; omega⟩
theorem An.none {D W : Nat} : An D W .none := ⟨by simp only [datB], by simp only [PyData.depth]; omega, by simp only [PyData.bulk]; omega⟩
theorem An.dict {D W : Nat} (h : 1 ≤ D) : An D W (.dict []) := ⟨by simp only [datB, List.isEmpty_nil, Bool.true_or], by simp only [PyData.depth, PyData.depthKv]; omega, by simp only [PyData.bulk, PyData.bulkKv]; omega⟩
theorem An.str {D W : Nat} {x : Str} (h : PyData.strOk x = true) (h2 : x.cps.size ≤ W) : An D W (.str x) := ⟨by simp only [datB]; exact h, by simp only [PyData.depth]; omega, by simp only [PyData.bulk]; exact h2⟩
end Lw
namespace Lw
open PySem PySem.Spec PyProof.Rows L2 Gd Fr
def Pap.dep : Pap → Nat
  | .in_ => 1
  | .part _ x y => max x.dep y.dep + 1
theorem Pap.sh : ∀ (x : Pap) {n : Nat}, x.dep ≤ n → Sh n x.d
  | .in_, n + 1, _ => Sh.tup fun e he => by rw [List.mem_singleton.mp he]; exact (Sh.str (x := "in") (by decide +kernel)).mono (Nat.zero_le _)
  | .in_, 0, h => by simp only [Pap.dep] at h; omega
  | .part i x y, 0, h => by simp only [Pap.dep] at h; omega
  | .part i x y, n + 1, h => by
    simp only [Pap.dep] at h
    refine Sh.tup fun e he => ?_
    simp only [List.mem_cons, List.not_mem_nil, or_false] at he
    rcases he with rfl | rfl | rfl | rfl
    · exact (Sh.str (x := "part") (by decide +kernel)).mono (Nat.zero_le _)
    · exact (Sh.int _).mono (Nat.zero_le _)
    · exact Pap.sh x (by omega)
    · exact Pap.sh y (by omega)
end Lw
namespace Lw
open PySem PySem.Spec PyProof.Rows L2 Gd Fr
section
variable {b p : Nat} {low high : Int} {L : List Stp} {s : Sp}
end
end Lw
set_option exponentiation.threshold 20000
namespace Lw
open PySem PySem.Spec PyProof.Rows L2 Gd Fr
open scoped Rat
def Pap.ok : Pap → Prop
  | .in_ => True
  | .part i x y => i ≤ 8 ∧ x.ok ∧ y.ok
theorem an_str {D W : Nat} {x : Str} (h : PyData.strOk x = true := by decide +kernel) (h2 : x.cps.size ≤ W := by decide) : An D W (.str x) := An.str h h2
theorem small_int {D W : Nat} {i : Int} (h0 : -100 ≤ i) (h1 : i ≤ 100) : An D W (.int i) := An.int (n := 8) (by unfold Bd; omega)
theorem an_part {n W : Nat} {i x y : PyData} (hi : An n 0 i) (hx : An n W x) (hy : An n W y) : An (n + 1) (8 + 2 * W) (.tuple [.str "part", i, x, y]) :=
  (An.tup (AnA.cons (an_str (D := n) (W := 4)) (AnA.cons hi (AnA.cons hx (AnA.cons hy (AnA.nil (W := 0))))))).le (Nat.le_refl _) (by omega)
def wp : Nat → Nat
  | 0 => 0
  | n + 1 => 8 + 2 * wp n
theorem Pap.an : ∀ (x : Pap) {n : Nat}, x.dep ≤ n → x.ok → An n (wp n) x.d
  | .in_, 0, h, _ => by simp only [Pap.dep] at h; omega
  | .in_, n + 1, _, _ => (An.tup (AnA.cons (an_str (D := n) (W := 2)) (AnA.nil (W := 0)))).le (Nat.le_refl _) (by simp only [wp]; omega)
  | .part i x y, 0, h, _ => by simp only [Pap.dep] at h; omega
  | .part i x y, n + 1, h, ok => by
    simp only [Pap.dep] at h
    obtain ⟨h1, h2, h3⟩ := ok
    exact an_part (small_int (by omega) (by omega)) (x.an (by omega) h2) (y.an (by omega) h3)
inductive PB : Nat → PyData → Prop
  | none (n : Nat) : PB n .none
  | inw (n : Nat) : PB n (.str "in")
  | partw (n : Nat) : PB n (.str "part")
  | int (n i : Nat) (h : i ≤ 8) : PB n (.int (i : Nat))
  | pap (n : Nat) (x : Pap) (h : x.dep ≤ n) (ok : x.ok) : PB n x.d
theorem Pap.items (x : Pap) {n : Nat} (h : x.dep ≤ n + 1) (ok : x.ok) : ∃ ds : List PyData, x.d = .tuple ds ∧ ds ≠ [] ∧ ds.length ≤ 4 ∧ AnA n (wp (n + 1)) ds ∧ ∀ d ∈ ds, PB n d := by
  have a := x.an h ok
  cases x with
  | in_ => exact ⟨_, rfl, by simp, by simp, a.tup_inv, fun d hd => by rw [List.mem_singleton.mp hd]; exact .inw n⟩
  | part i x y =>
    obtain ⟨h1, h2, h3⟩ := ok
    simp only [Pap.dep] at h
    refine ⟨_, rfl, by simp, by simp, a.tup_inv, fun d hd => ?_⟩
    simp only [List.mem_cons, List.not_mem_nil, or_false] at hd
    rcases hd with rfl | rfl | rfl | rfl
    · exact .partw n
    · exact .int n i h1
    · exact .pap n x (by omega) h2
    · exact .pap n y (by omega) h3
theorem len_bulk : ∀ ds : List PyData, ds.length ≤ PyData.bulkAll ds
  | [] => Nat.zero_le _
  | x :: xs => by
    have := len_bulk xs
    simp only [PyData.bulkAll, List.length_cons]; omega
end Lw
namespace Lw
open PySem PySem.Spec PyProof.Rows L2 Gd Fr
def wq : Nat → Nat
  | 0 => 0
  | n + 1 => 24 + 2 * wq n
theorem Pap.nd : ∀ (x : Pap) {n : Nat}, x.dep ≤ n → x.ok → Nd (n + 1) (wq n) x.d
  | .in_, 0, h, _ => by simp only [Pap.dep] at h; omega
  | .in_, n + 1, _, _ => (Nd.tuple (NdA.cons ((Nd.str (x := "in") (by decide +kernel) (by decide)).le (D' := n + 1) (W' := 20) (by omega) (Nat.le_refl _)) (NdA.nil (W := 0)))).le (Nat.le_refl _) (by simp only [wq]; omega)
  | .part i x y, 0, h, _ => by simp only [Pap.dep] at h; omega
  | .part i x y, n + 1, h, ok => by
    simp only [Pap.dep] at h
    obtain ⟨h1, h2, h3⟩ := ok
    have a := x.nd (n := n) (by omega) h2
    have b := y.nd (n := n) (by omega) h3
    exact (Nd.tuple (NdA.cons ((Nd.str (x := "part") (by decide +kernel) (by decide)).le (D' := n + 1) (W' := 20) (by omega) (Nat.le_refl _)) (NdA.cons ((Nd.int (n := 8) (i := (i : Nat)) (by unfold Bd; omega)).le (D' := n + 1) (W' := 0) (by omega) (Nat.le_refl _)) (NdA.cons a (NdA.cons b (NdA.nil (W := 0))))))).le (Nat.le_refl _) (by simp only [wq]; omega)
end Lw
set_option exponentiation.threshold 20000
namespace Lw
open PySem PySem.Spec PyProof.Rows L2 Gd Fr
open scoped Rat
def bendW : List Str := ["num", "inf", "nan", "span", "none", "inexact", "tiny", "over", "invalid", "by", "even", "up", "down", "zero", "away", "input", "told", "if", "add", "take", "times", "root", "fused", "size", "least", "greatest", "opposite", "few", "near", ""]
theorem bendW_facts : ∀ x ∈ bendW, (PyData.strOk x = true ∧ x.cps.size ≤ 10) ∧ (PyData.strOk (x ++ "s") = true ∧ (x ++ "s").cps.size ≤ 20) ∧ (PyData.strOk (cutS x none (some (-1))) = true ∧ (cutS x none (some (-1))).cps.size ≤ 20) ∧ (PyData.strOk (Txt.upper x) = true ∧ (Txt.upper x).cps.size ≤ 20) := by
  have key : bendW.all (fun x => (PyData.strOk x && decide (x.cps.size ≤ 10)) && ((PyData.strOk (x ++ "s") && decide ((x ++ "s").cps.size ≤ 20)) && ((PyData.strOk (cutS x none (some (-1))) && decide ((cutS x none (some (-1))).cps.size ≤ 20)) && (PyData.strOk (Txt.upper x) && decide ((Txt.upper x).cps.size ≤ 20))))) = true := by decide +kernel
  intro x hx
  have := List.all_eq_true.mp key x hx
  simp only [Bool.and_eq_true, decide_eq_true_eq] at this
  exact this
mutual
def bendB : PyData → Bool
  | .int i => decide (i.natAbs.log2 < 1900)
  | .str x => bendW.contains x
  | .tuple xs => bendA xs
  | d => datB d
def bendA : List PyData → Bool
  | [] => true
  | x :: xs => bendB x && bendA xs
end
mutual
theorem bendB_dat : ∀ d : PyData, bendB d = true → datB d = true
  | .none, h => by simp only [datB]
  | .bool _, h => by simp only [datB]
  | .int i, h => by simp only [bendB, decide_eq_true_eq] at h; simp only [datB, decide_eq_true_eq]; omega
  | .str x, h => by
    simp only [bendB] at h
    simp only [datB]
    exact (bendW_facts x (by simpa using h)).1.1
  | .list xs, h => by simpa only [bendB] using h
  | .tuple xs, h => by
    simp only [bendB] at h
    simp only [datB]
    exact bendA_dat xs h
  | .dict xs, h => by simpa only [bendB] using h
theorem bendA_dat : ∀ ds : List PyData, bendA ds = true → datA ds = true
  | [], _ => by simp only [datA]
  | x :: xs, h => by
    simp only [bendA, Bool.and_eq_true] at h
    simp only [datA, Bool.and_eq_true]
    exact ⟨bendB_dat x h.1, bendA_dat xs h.2⟩
end
theorem bendA_mem : ∀ {ds : List PyData}, bendA ds = true → ∀ d ∈ ds, bendB d = true
  | x :: xs, h, d, hd => by
    simp only [bendA, Bool.and_eq_true] at h
    rcases List.mem_cons.mp hd with rfl | hd
    · exact h.1
    · exact bendA_mem h.2 d hd
structure BN (n W : Nat) (d : PyData) : Prop where
  ok : bendB d = true
  dp : d.depth ≤ n
  bk : d.bulk ≤ W
theorem BN.an {n W : Nat} {d : PyData} (h : BN n W d) : An n W d := ⟨bendB_dat d h.ok, h.dp, h.bk⟩
theorem BN.tup {n W : Nat} {ds : List PyData} (h : BN n W (.tuple ds)) : (ds ≠ [] → 1 ≤ n) ∧ AnA (n - 1) W ds ∧ ∀ d ∈ ds, BN (n - 1) W d := by
  have h1 := h.ok
  have h2 := h.dp
  have h3 := h.bk
  simp only [bendB] at h1
  simp only [PyData.depth] at h2
  simp only [PyData.bulk] at h3
  have a : AnA (n - 1) W ds := ⟨bendA_dat ds h1, by omega, h3⟩
  exact ⟨fun _ => by omega, a, fun d hd => ⟨bendA_mem h1 d hd, (a.mem d hd).dp, (a.mem d hd).bk⟩⟩
theorem cutP_sub (ds : List PyData) (l u : Option Int) : (cutP ds l u).Sublist ds := (List.take_sublist _ _).trans (List.drop_sublist _ _)
theorem cutP_len (ds : List PyData) (l u : Option Int) : (cutP ds l u).length ≤ ds.length := (cutP_sub ds l u).length_le
theorem bd_add1 {n : Nat} {i j : Int} (h : Bd n i) (k : Bd n j) : Bd (n + 1) (i + j) := by
  unfold Bd at *
  have e := Int.natAbs_add_le i j
  have : 2 ^ (n + 1) = 2 ^ n * 2 := Nat.pow_succ ..
  omega
def LenOk : PyData → Prop
  | .tuple ds => ds.length ≤ 1000
  | _ => True
theorem An.len {D W : Nat} {d : PyData} (h : An D W d) (e : W ≤ 1000) : LenOk d := by
  cases d with
  | tuple ds =>
    have := h.bk
    simp only [PyData.bulk] at this
    exact Nat.le_trans (len_bulk ds) (by omega)
  | _ => trivial
end Lw
set_option exponentiation.threshold 20000
namespace Lw
open PySem PySem.Spec PyProof.Rows L2 Gd Fr
open scoped Rat
def okN (b p : Nat) (low high s c e : Int) : Bool := decide ((s = 0 ∨ s = 1) ∧ (0 ≤ c ∧ c < ((b ^ p : Nat) : Int) ∧ low ≤ e ∧ (e = low ∨ ((b ^ (p - 1) : Nat) : Int) ≤ c)) ∧ e ≤ high)
def jNum (b p : Nat) (low high : Int) : PyData → Bool
  | .tuple [.str w, .int s, .int c, .int e] => decide (w = "num") && okN b p low high s c e
  | _ => false
inductive R_fb (f : Nat → Nat → Int → Int → PyData → Bool) : Rel
  | mk (b p : Nat) (low high : Int) (d : PyData) (B : Bag) (F : Fm b p low high) (hd : datB d = true) : R_fb f [.da (fmP b p low high), .da d] B (.bool (f b p low high d)) B
section
variable {X : Cx} {Γ : List VD} {B B1 B2 : Bag} {a b : Expr} {pos : Pos}
end
theorem worded_inv {d : PyData} {w : Str} {n : Nat} (h : wordedB d w n = true) : ∃ r : List PyData, d = .tuple (.str w :: r) ∧ r.length + 1 = n := by
  cases d with
  | tuple ds =>
    cases ds with
    | nil => cases h
    | cons y r =>
      cases y with
      | str x =>
        have h : (decide (r.length + 1 = n) && decide (x = w)) = true := h
        rw [Bool.and_eq_true, decide_eq_true_eq, decide_eq_true_eq] at h
        obtain ⟨h1, rfl⟩ := h
        exact ⟨r, rfl, h1⟩
      | _ => cases h
  | _ => cases h
theorem worded4 {d : PyData} {w : Str} (h : wordedB d w 4 = true) : ∃ x y z, d = .tuple [.str w, x, y, z] := by
  obtain ⟨r, rfl, h⟩ := worded_inv h
  match r, h with
  | [x, y, z], _ => exact ⟨x, y, z, rfl⟩
theorem intB_inv {d : PyData} (h : intB d = true) : ∃ i, d = .int i := by cases d <;> first | exact ⟨_, rfl⟩ | cases h
theorem jNum_no {b p : Nat} {low high : Int} {d : PyData} (h : wordedB d "num" 4 = false) : jNum b p low high d = false := by
  unfold jNum
  split
  · rename_i w s c e
    have h : (decide (3 + 1 = 4) && decide (w = "num")) = false := h
    rw [decide_eq_true (by rfl), Bool.true_and] at h
    rw [h]; rfl
  · rfl
theorem jNum_int {b p : Nat} {low high : Int} {x y z : PyData} (h : (intB x && (intB y && intB z)) = false) : jNum b p low high (.tuple [.str "num", x, y, z]) = false := by
  unfold jNum
  split
  · rename_i w s c e q
    injection q with q
    simp only [List.cons.injEq] at q
    obtain ⟨_, rfl, rfl, rfl, _⟩ := q
    cases h
  · rfl
theorem datA_mem : ∀ {ds : List PyData}, datA ds = true → ∀ d ∈ ds, datB d = true
  | x :: xs, h, d, hd => by
    simp only [datA, Bool.and_eq_true] at h
    rcases List.mem_cons.mp hd with rfl | hd
    · exact h.1
    · exact datA_mem h.2 d hd
theorem e01_in (s : Int) : (!([.int 0, .int 1] : List PyData).any fun z => PyData.eqv z (.int s)) = decide (¬ (s = 0 ∨ s = 1)) := by
  simp only [List.any_cons, List.any_nil, PyData.eqv, Bool.or_false]
  by_cases h0 : s = 0
  · subst h0; rfl
  · by_cases h1 : s = 1
    · subst h1; rfl
    · have a : decide (¬ (s = 0 ∨ s = 1)) = true := decide_eq_true (by omega)
      rw [a]
      simp; omega
theorem okN_up {b p : Nat} {low high s c e : Int} (F : Fm b p low high) (hs : s = 0 ∨ s = 1) (h0 : 0 ≤ c) (h1 : low ≤ e) (h2 : e ≤ high) : (decide (c < ((b ^ p : Nat) : Int)) && (decide (e = low) || decide (((b ^ p : Nat) : Int) ≤ c * (b : Int)))) = okN b p low high s c e := by
  have p2 := F.p2; have b2 := F.b2
  have eb : b ^ p = b ^ (p - 1) * b := by rw [← Nat.pow_succ]; exact congrArg (b ^ ·) (by omega)
  have k : ((b ^ p : Nat) : Int) ≤ c * (b : Int) ↔ ((b ^ (p - 1) : Nat) : Int) ≤ c := by
    rw [eb, Int.natCast_mul]
    exact ⟨fun h => Int.le_of_mul_le_mul_right h (by omega), fun h => Int.mul_le_mul_of_nonneg_right h (by omega)⟩
  unfold okN
  rw [← Bool.decide_or, ← Bool.decide_and]
  refine decide_eq_decide.mpr ?_
  rw [k]
  omega
theorem va_bend {b p : Nat} {low high : Int} (F : Fm b p low high) {v : Va} (hv : Vok b p low high v) : BN 1 7 v.d := by
  have bp := F.bp; have lo := F.lo; have hi := F.hi
  have k : ∀ {i : Int} {n : Nat}, Bd n i → n ≤ 1899 → 1 ≤ n → bendB (.int i) = true := fun {i n} h e e1 => by
    simp only [bendB, decide_eq_true_eq]
    have := PySem.Flt.log2_lt_of (Nat.succ_pos n) (h.le (Nat.le_succ n))
    omega
  have mk : ∀ {w : Str} {r : List PyData}, bendW.contains w = true → bendA r = true → bendB (.tuple (.str w :: r)) = true := fun h h2 => by
    simp only [bendB, bendA, Bool.and_eq_true]; exact ⟨h, h2⟩
  cases v with
  | nan => exact ⟨mk (by decide +kernel) (by simp only [bendA]), by decide, by decide⟩
  | inf s =>
    refine ⟨mk (by decide +kernel) ?_, by simp only [Va.d, Va.l, PyData.depth, PyData.depthAll]; omega, ?_⟩
    · simp only [bendA, Bool.and_true]
      rcases hv with rfl | rfl <;> exact k (n := 2) (by unfold Bd; decide) (by decide) (by decide)
    · simp only [Va.d, Va.l, PyData.bulk, PyData.bulkAll]; decide
  | num s c e =>
    obtain ⟨hs, c0, c1, l1, l2⟩ := hv
    refine ⟨mk (by decide +kernel) ?_, by simp only [Va.d, Va.l, PyData.depth, PyData.depthAll]; omega, ?_⟩
    · simp only [bendA, Bool.and_true, Bool.and_eq_true]
      refine ⟨?_, ?_, ?_⟩
      · rcases hs with rfl | rfl <;> exact k (n := 2) (by unfold Bd; decide) (by decide) (by decide)
      · exact k (n := 700) (by unfold Bd; omega) (by decide) (by decide)
      · exact k (n := 40) (by unfold Bd; omega) (by decide) (by decide)
    · simp only [Va.d, Va.l, PyData.bulk, PyData.bulkAll]; decide
end Lw
namespace Lw
open PySem PySem.Spec PyProof.Rows L2 Gd Fr
theorem BN.le {n W n' W' : Nat} {d : PyData} (h : BN n W d) (e : n ≤ n') (f : W ≤ W') : BN n' W' d := ⟨h.ok, Nat.le_trans h.dp e, Nat.le_trans h.bk f⟩
structure BNA (n W : Nat) (ds : List PyData) : Prop where
  ok : bendA ds = true
  dp : PyData.depthAll ds ≤ n
  bk : PyData.bulkAll ds ≤ W
theorem BNA.nil {n W : Nat} : BNA n W [] := ⟨by simp only [bendA], by simp only [PyData.depthAll]; omega, by simp only [PyData.bulkAll]; omega⟩
theorem BNA.cons {n W W' : Nat} {d : PyData} {ds : List PyData} (h : BN n W d) (r : BNA n W' ds) : BNA n (W + 1 + W') (d :: ds) :=
  ⟨by simp only [bendA, Bool.and_eq_true]; exact ⟨h.ok, r.ok⟩, by have := h.dp; have := r.dp; simp only [PyData.depthAll]; omega, by have := h.bk; have := r.bk; simp only [PyData.bulkAll]; omega⟩
theorem BNA.of {n W : Nat} : ∀ {ds : List PyData} {k : Nat}, (∀ d ∈ ds, BN n W d) → ds.length ≤ k → BNA n (k * (W + 1)) ds
  | [], k, _, _ => BNA.nil
  | d :: ds, 0, _, h => by simp at h
  | d :: ds, k + 1, h, hl => by
    have a := BNA.cons (h d List.mem_cons_self) (BNA.of (k := k) (fun x hx => h x (List.mem_cons_of_mem _ hx)) (by simpa using hl))
    have e : (k + 1) * (W + 1) = k * (W + 1) + (W + 1) := Nat.succ_mul _ _
    exact ⟨a.ok, a.dp, by have := a.bk; omega⟩
theorem BN.mktup {n W : Nat} {ds : List PyData} (h : BNA n W ds) : BN (n + 1) W (.tuple ds) := ⟨by simp only [bendB]; exact h.ok, by have := h.dp; simp only [PyData.depth]; omega, by have := h.bk; simp only [PyData.bulk]; omega⟩
theorem BN.mklst {n W : Nat} {ds : List PyData} (h : BNA n W ds) : BN (n + 1) W (.list ds) := ⟨by simp only [bendB, datB]; exact bendA_dat ds h.ok, by have := h.dp; simp only [PyData.depth]; omega, by have := h.bk; simp only [PyData.bulk]; omega⟩
theorem BN.word {n W : Nat} {x : Str} (h : bendW.contains x = true := by decide +kernel) (h2 : x.cps.size ≤ W := by decide) : BN n W (.str x) := ⟨by simp only [bendB]; exact h, by simp only [PyData.depth]; omega, by simp only [PyData.bulk]; exact h2⟩
end Lw
namespace Gd
open PySem PySem.Spec PyProof.Rows L2
section
variable {X : Cx} {Γ : List VD} {B B1 B2 : Bag} {a b : Expr} {pos p p' : Pos}
def tupB : PyData → Bool
  | .tuple _ => true
  | _ => false
theorem tupB_inv {d : PyData} (h : tupB d = true) : ∃ ds, d = .tuple ds := by cases d <;> first | exact ⟨_, rfl⟩ | cases h
theorem ej_isT {y : PyData} (hm : X.mg "isinstance" = none) (hmT : X.mg "tuple" = none) (ha : EJ X Γ B a (.da y) B1) (hgT : Gl X "tuple" := by rfl)
    (hs : starEach [a, .Name "tuple" p'] X.env = (false, eval a X.env) :: starEach [.Name "tuple" p'] X.env := by rfl) (hs2 : starEach [.Name "tuple" p'] X.env = (false, eval (.Name "tuple" p') X.env) :: starEach [] X.env := by rfl)
    (hpl : (backTo pos (starEach [.Name "tuple" p'] X.env)).any (·.1) = false := by rfl) (hg : Gl X "isinstance" := by rfl) :
    EJ X Γ B (.Call (.Name "isinstance" p) [a, .Name "tuple" p'] [] pos) (.da (.bool (tupB y))) B1 := by
  cases y with
  | none => exact ej_isi (T := "tuple") (r := false) hm hmT ha rfl (by decide +kernel) (by decide +kernel) hgT (by decide) (by decide) hs hs2 hpl hg
  | bool i => exact ej_isi (T := "tuple") (r := false) hm hmT ha rfl (by decide +kernel) (by decide +kernel) hgT (by decide) (by decide) hs hs2 hpl hg
  | int i => exact ej_isi (T := "tuple") (r := false) hm hmT ha rfl (by decide +kernel) (by decide +kernel) hgT (by decide) (by decide) hs hs2 hpl hg
  | str i => exact ej_isi (T := "tuple") (r := false) hm hmT ha rfl (by decide +kernel) (by decide +kernel) hgT (by decide) (by decide) hs hs2 hpl hg
  | list i => exact ej_isi (T := "tuple") (r := false) hm hmT ha rfl (by decide +kernel) (by decide +kernel) hgT (by decide) (by decide) hs hs2 hpl hg
  | tuple i => exact ej_isi (T := "tuple") (r := true) hm hmT ha rfl (by decide +kernel) (by decide +kernel) hgT (by decide) (by decide) hs hs2 hpl hg
  | dict i => exact ej_isi (T := "tuple") (r := false) hm hmT ha rfl (by decide +kernel) (by decide +kernel) hgT (by decide) (by decide) hs hs2 hpl hg
end
end Gd
namespace Lw
open PySem PySem.Spec PyProof.Rows L2 Gd Fr
end Lw
set_option exponentiation.threshold 20000
namespace Lw
open PySem PySem.Spec PyProof PyProof.Rows L2 Gd Fr
def strB : PyData → Bool
  | .str _ => true
  | _ => false
theorem strs_of : ∀ {ds : List PyData}, (∀ d ∈ ds, strB d = true) → ∃ ss : List Str, ds = ss.map .str
  | [], _ => ⟨[], rfl⟩
  | d :: ds, h => by
    obtain ⟨ss, e⟩ := strs_of (ds := ds) fun x hx => h x (List.mem_cons_of_mem _ hx)
    have h1 := h d List.mem_cons_self
    cases d with
    | str x => exact ⟨x :: ss, by rw [e]; rfl⟩
    | _ => cases h1
end Lw
namespace Lw
open PySem PySem.Spec PyProof PyProof.Rows L2 Gd Fr
end Lw
namespace Lw
open PySem PySem.Spec PyProof PyProof.Rows L2 Gd Fr
end Lw
namespace Lw
open PySem PySem.Spec PyProof PyProof.Rows L2 Gd Fr
end Lw
namespace Lw
open PySem PySem.Spec PyProof PyProof.Rows L2 Gd Fr
end Lw
namespace Lw
open PySem PySem.Spec PyProof PyProof.Rows L2 Gd Fr
theorem num_bend {s c e : Int} (hs : Bd 10 s) (hc : Bd 705 c) (he : Bd 40 e) : BN 1 7 (.tuple [.str "num", .int s, .int c, .int e]) := by
  have k : ∀ {i : Int} {n : Nat}, Bd n i → n ≤ 1899 → bendB (.int i) = true := fun {i n} h e => by
    simp only [bendB, decide_eq_true_eq]
    have := PySem.Flt.log2_lt_of (Nat.succ_pos n) (h.le (Nat.le_succ n))
    omega
  refine ⟨?_, by simp only [PyData.depth, PyData.depthAll]; omega, by simp only [PyData.bulk, PyData.bulkAll]; decide⟩
  have h0 : bendB (.str "num") = true := by decide +kernel
  simp only [bendB, bendA, Bool.and_eq_true, Bool.and_true] at h0 ⊢
  have k1 := k hs (by decide)
  have k2 := k hc (by decide)
  have k3 := k he (by decide)
  simp only [bendB] at k1 k2 k3
  exact ⟨h0, k1, k2, k3⟩
theorem An.item {D W : Nat} {x y : PyData} (h : An D W (.tuple [x, y])) (e : W ≤ 1000) : LenOk y := by
  have h2 := h.dp
  cases D with
  | zero => simp only [PyData.depth] at h2; omega
  | succ D => exact ((An.tup_inv h).mem y (by simp)).len e
end Lw
set_option exponentiation.threshold 20000
namespace Lw
open PySem PySem.Spec PyProof PyProof.Rows L2 Gd Fr
end Lw
namespace Gd
open PySem PySem.Spec PyProof.Rows L2
section
variable {X : Cx} {Γ : List VD} {B B1 B2 : Bag} {a b : Expr} {pos : Pos}
end
section
variable {X : Cx} {Γ : List VD} {B B1 B2 : Bag} {a b c d : Expr} {pos : Pos} {ta tb tc td : TE}
end
end Gd
namespace Lw
open PySem PySem.Spec PyProof PyProof.Rows L2 Gd Fr
end Lw
namespace Lw
open PySem PySem.Spec PyProof PyProof.Rows L2 Gd Fr
end Lw
namespace Gd
open PySem PySem.Spec PyProof.Rows L2
theorem tuple_eq_declines_dict (l b : Addr) (items : Array Value) (n : Nat) (dd dd2 : Option Addr) (sl sl2 : Array (Option Value)) (dt : Data) :
    Meets (Builtin.«tuple.__eq__» ⟨[.ref l, .ref b], []⟩) (fun _ R s => s.heap.get? l = some { cls := .type "tuple", dict := dd, data := .seq items n, slots := sl } ∧ s.heap.get? b = some { cls := .type "dict", dict := dd2, data := dt, slots := sl2 } ∧ R (.ok (.ret .notImplemented)) s) :=
  .of_wp fun prog w A R s h => by
    obtain ⟨hp, g, d, tk, os⟩ := s
    obtain ⟨hl, hb, h⟩ := h
    have f1 := flag_seq_dict
    have f2 := sub_dict_tuple
    wp_walk using wpAny_loadPart' hl
    exact ⟨_, rfl, h⟩
theorem dict_eq_declines_tuple (l b : Addr) (items : Array Value) (n : Nat) (dd dd2 : Option Addr) (sl sl2 : Array (Option Value)) (dt : Data) :
    Meets (Builtin.«dict.__eq__» ⟨[.ref b, .ref l], []⟩) (fun _ R s => s.heap.get? l = some { cls := .type "tuple", dict := dd, data := .seq items n, slots := sl } ∧ s.heap.get? b = some { cls := .type "dict", dict := dd2, data := dt, slots := sl2 } ∧ R (.ok (.ret .notImplemented)) s) :=
  .of_wp fun prog w A R s h => by
    obtain ⟨hp, g, d, tk, os⟩ := s
    obtain ⟨hl, hb, h⟩ := h
    have f1 := flag_seq_dict
    unfold Builtin.«dict.__eq__»
    wp_walk using wpAny_loadPart' hl
    show wpAny _ _ (isSubtype (Value.type "tuple") (Value.type "dict")) _ _ _
    rw [F.sub_tuple_dict]
    wp_walk
    exact ⟨_, rfl, h⟩
theorem rc_dict_tuple {A : Around} {s : Shared} {l b : Addr} {items : Array Value} {dd2 : Option Addr} {sl2 : Array (Option Value)} {dt : Data} (hl : s.heap.IsTuple l items) (hb : s.heap.get? b = some { cls := .type "dict", dict := dd2, data := dt, slots := sl2 }) (hu : A.units < cLine) : SeqAt.RcAt A s (.ref b) (.ref l) false := by
  intro prog w E Q h
  obtain ⟨⟨cls, dd, data, sl⟩, ho, hc, n, hd⟩ := hl
  simp only at hc hd
  subst hc hd
  have hne : b ≠ l := fun z => by rw [z, ho] at hb; simp at hb
  refine SeqAt.rc_eq_decline_or ⟨_, hb, rfl⟩ ⟨_, ho, rfl⟩ (by decide) F.sub_tuple_dict F.slot_dict_eq F.slot_tuple_eq_refl (fun x hq => ?_) (fun x hq => ?_) (fun x hq => wpAny_isSame_ref_other hne hb ho (by simp) hq) (.inr hu) h
  · exact call_meets F.slot_dict_eq ⟨_, hb, rfl⟩ F.entry_dict_eq (F.args_dict_eq_2 (.ref b) (.ref l)) (dict_eq_declines_tuple l b items n dd dd2 sl sl2 dt) ⟨ho, hb, hq⟩
  · exact call_meets F.slot_tuple_eq_refl ⟨_, ho, rfl⟩ F.entry_tuple_eq (F.args_tuple_eq_2 (.ref l) (.ref b)) (tuple_eq_declines_dict l b items n dd dd2 sl sl2 dt) ⟨ho, hb, hq⟩
section
variable {X : Cx} {Γ : List VD} {B B1 B2 : Bag} {a b : Expr} {pos : Pos}
def rDctT (K : PySem.W.Frag) : R2 := fun x y H Q => ∃ ds : List PyData, Rp K H x (.dict []) ∧ Rp K H y (.tuple ds) ∧ Q (.bl false) H
theorem op_eqDT (hu : X.A.units + 64 < cLine) : OpR X (compareOp .Eq) (rDctT X.K) := by
  intro pins s σ H x y v u Q I rx ry h
  obtain ⟨ds, hx, hy, q⟩ := h
  obtain ⟨a, rfl, h0⟩ := hx.dict0
  cases rx
  cases hy with
  | tup h' r' =>
    cases ry
    obtain ⟨its, rv, p, _⟩ := I.tuple h'
    obtain ⟨o, ho, hc⟩ : ∃ o, s.heap.get? a = some o ∧ o.cls = .type "dict" := by
      rcases h0 with h | h
      · obtain ⟨_, hd, vs, r0, o, es, ep, h1, h2, h3, _, h5, _⟩ := dk_of I.hok h
        exact ⟨o, h1, h2.1⟩
      · obtain ⟨_, hd, xs, r0, o, es, ep, h1, h2, h3, h5, _⟩ := dt_of I.hok h
        exact ⟨o, h1, h2.1⟩
    obtain ⟨c, dd, dt, sl⟩ := o
    simp only at hc
    subst hc
    exact rc_dict_tuple p ho (by omega) X.prog X.w _ _ ⟨.bl _, H, I, rfl, q⟩
theorem ej_eqDT {ds : List PyData} (hu : X.A.units + 64 < cLine) (ha : EJ X Γ B a (.da (.dict [])) B1) (hb : EJ X Γ B1 b (.da (.tuple ds)) B2) : EJ X Γ B (.Compare a [.Eq] [b] pos) (.da (.bool false)) B2 :=
  ej_bin ha hb (fun _ _ h1 h2 => pe_cmpR (op_eqDT hu) h1 h2 (nomark _)) fun g v w H0 H O r1 r2 Q q => ⟨ds, Rp.mono O.ex r1, Rp.mono O.ex r2, q _ H0 H To.refl O (Rp.bl _)⟩
end
end Gd
set_option exponentiation.threshold 20000
namespace Lw
open PySem PySem.Spec PyProof PyProof.Rows L2 Gd Fr
open scoped Rat
noncomputable def psK (b p : Nat) (low high : Int) : Nat → Rat → Option (List Va)
  | 0, _ => some []
  | K + 1, x => if x = 0 then some [] else if (rdV b p low high "even" x 0).isInf = true then none else (psK b p low high K (x - (rdV b p low high "even" x 0).wQ b)).map fun L => rdV b p low high "even" x 0 :: L
def psD : Option (List Va) → PyData
  | none => .none
  | some L => .tuple (L.map Va.d)
def psB (b p : Nat) : Nat := 2 * b ^ (p - 1)
structure PsN (b : Nat) (low : Int) (M : Nat) (x : Rat) : Prop where
  ex : ∃ N : Int, x = (N : Rat) * pw b low ∧ N.natAbs < M
theorem PsN.le {b M M' : Nat} {low : Int} {x : Rat} (h : PsN b low M x) (e : M ≤ M') : PsN b low M' x := by
  obtain ⟨N, h1, h2⟩ := h.ex
  exact ⟨N, h1, by omega⟩
theorem PsN.add {b M M' : Nat} {low : Int} {x y : Rat} (h : PsN b low M x) (k : PsN b low M' y) : PsN b low (M + M') (x + y) := by
  obtain ⟨N, h1, h2⟩ := h.ex
  obtain ⟨N', k1, k2⟩ := k.ex
  refine ⟨N + N', ?_, by have := Int.natAbs_add_le N N'; omega⟩
  rw [h1, k1, Rat.intCast_add]; grind
theorem PsN.qz {b p M n : Nat} {low high : Int} (F : Fm b p low high) {x : Rat} (h : PsN b low M x) (hM : M ≤ 2 ^ n) : Qz (n + 2340) (1 + 2340) x := by
  obtain ⟨N, h1, h2⟩ := h.ex
  rw [h1]
  exact Qz.mul (qz_i (by unfold Bd; omega)) (F.qz (Int.le_refl _) F.lh)
structure PsS (b p : Nat) (low : Int) (K : Nat) (x : Rat) : Prop where
  ex : ∃ N : Int, x = (N : Rat) * pw b low ∧ N.natAbs < psB b p ^ K ∧ N.natAbs < 2 ^ 3000
theorem PsS.qz {b p K : Nat} {low high : Int} (F : Fm b p low high) {x : Rat} (h : PsS b p low K x) : Qz 5340 2341 x := by
  obtain ⟨N, h1, _, h2⟩ := h.ex
  exact PsN.qz (n := 3000) F ⟨N, h1, h2⟩ (Nat.le_refl _)
theorem PsS.zero {b p : Nat} {low : Int} {x : Rat} (h : PsS b p low 0 x) : x = 0 := by
  obtain ⟨N, h1, h2, _⟩ := h.ex
  have : N = 0 := by simp at h2; omega
  rw [h1, this, Rat.intCast_zero, Rat.zero_mul]
theorem step_K {b p : Nat} {low high : Int} (F : Fm b p low high) {x : Rat} {K : Nat} (hx : PsS b p low (K + 1) x) (h : (rdV b p low high "even" x 0).isInf = false) : PsS b p low K (x - (rdV b p low high "even" x 0).wQ b) := by
  have h2 := F.b2
  have p2 := F.p2
  obtain ⟨N, hN, hK, hM⟩ := hx.ex
  obtain ⟨w1, w2, w3, ⟨k, w4⟩, _⟩ := rd_worth F (.inl rfl) near_inf h
  have he := eQ_is (p := p) h2 low (absQ x)
  have er := pk_err F (way := "even") (by decide) (s := if x = 0 then 0 else sgn x) (absQ_nonneg x)
  have hpos : 0 < psB b p := by unfold psB; have : 0 < b ^ (p - 1) := Nat.pow_pos (by omega); omega
  have l0 := pw_pos h2 low
  have ax : absQ x = ((N.natAbs : Int) : Rat) * pw b low := by rw [hN, absQ_mul_pos _ l0, absQ_cast]
  rw [mult_up h2 he.1] at w4
  have hd : x - (rdV b p low high "even" x 0).wQ b = ((N - k * ((b ^ (eQ b p low (absQ x) - low).toNat : Nat) : Int) : Int) : Rat) * pw b low := by
    rw [w4]
    conv => lhs; lhs; rw [hN]
    rw [Rat.intCast_sub]; grind
  refine ⟨_, hd, ?_⟩
  rw [hd, absQ_mul_pos _ l0, absQ_cast] at w3
  generalize N - k * ((b ^ (eQ b p low (absQ x) - low).toNat : Nat) : Int) = N' at *
  rcases he.2.2 with e | e
  · have r0 : rQ b (eQ b p low (absQ x)) (absQ x) = 0 := by
      refine mult_r h2 (N.natAbs : Int) ?_
      rw [e]; exact ax
    rw [pk_same F r0] at w3
    have z : absQ x - absQ x = 0 := by grind
    rw [z, absQ_0] at w3
    have : ((N'.natAbs : Int) : Rat) = 0 := by
      have := Rat.mul_eq_zero.mp w3
      rcases this with q | q
      · exact q
      · exact absurd q (pw_ne h2 low)
    have n0 : N'.natAbs = 0 := by exact_mod_cast this
    rw [n0]; exact ⟨Nat.pow_pos hpos, Nat.pow_pos (by decide)⟩
  · have eE : errQ b "even" (eQ b p low (absQ x)) = pw b (eQ b p low (absQ x)) * (1 / 2) := if_pos (.inl rfl)
    rw [← w3, eE] at er
    have e1 : (p : Int) + eQ b p low (absQ x) - 1 = ((p - 1 : Nat) : Int) + eQ b p low (absQ x) := by omega
    rw [e1, pw_p h2, Rat.intCast_natCast] at e
    have bp : (0 : Rat) < ((b ^ (p - 1) : Nat) : Rat) := by rw [← pw_nat]; exact pw_pos h2 _
    have key : ((N'.natAbs : Int) : Rat) * ((psB b p : Nat) : Rat) ≤ ((N.natAbs : Int) : Rat) := by
      have q1 : ((N'.natAbs : Int) : Rat) * pw b low * (2 * ((b ^ (p - 1) : Nat) : Rat)) ≤ pw b (eQ b p low (absQ x)) * (1 / 2) * (2 * ((b ^ (p - 1) : Nat) : Rat)) := Rat.mul_le_mul_of_nonneg_right er (by grind)
      have q2 : pw b (eQ b p low (absQ x)) * (1 / 2) * (2 * ((b ^ (p - 1) : Nat) : Rat)) = ((b ^ (p - 1) : Nat) : Rat) * pw b (eQ b p low (absQ x)) := by grind
      have q3 : ((psB b p : Nat) : Rat) = 2 * ((b ^ (p - 1) : Nat) : Rat) := by unfold psB; rw [Rat.natCast_mul]; rfl
      rw [q3]
      have q4 : ((N'.natAbs : Int) : Rat) * (2 * ((b ^ (p - 1) : Nat) : Rat)) * pw b low ≤ ((N.natAbs : Int) : Rat) * pw b low := by
        have : ((N'.natAbs : Int) : Rat) * (2 * ((b ^ (p - 1) : Nat) : Rat)) * pw b low = ((N'.natAbs : Int) : Rat) * pw b low * (2 * ((b ^ (p - 1) : Nat) : Rat)) := by grind
        rw [this, ← ax]
        rw [q2] at q1
        exact Rat.le_trans q1 e
      exact Rat.not_lt.mp fun z => by
        have := (Rat.mul_lt_mul_right l0).mpr z
        exact absurd q4 (Rat.not_le.mpr this)
    have key2 : N'.natAbs * psB b p ≤ N.natAbs := by exact_mod_cast key
    rw [Nat.pow_succ] at hK
    refine ⟨Nat.lt_of_mul_lt_mul_right (Nat.lt_of_le_of_lt key2 hK), ?_⟩
    have : N'.natAbs ≤ N'.natAbs * psB b p := Nat.le_mul_of_pos_right _ hpos
    omega
theorem psK_ok {b p : Nat} {low high : Int} (F : Fm b p low high) : ∀ (K : Nat) (x : Rat), PsS b p low K x → ∀ L, psK b p low high K x = some L → sumQ b L = x ∧ L.length ≤ K ∧ ∀ v ∈ L, Vcan b p low high v ∧ v.isNum = true
  | 0, x, h, L, e => by
    injection e with e
    subst e
    exact ⟨h.zero.symm, Nat.le_refl _, fun _ h => nomatch h⟩
  | K + 1, x, h, L, e => by
    unfold psK at e
    by_cases h0 : x = 0
    · rw [if_pos h0] at e
      injection e with e
      subst e
      exact ⟨h0.symm, Nat.zero_le _, fun _ h => nomatch h⟩
    · rw [if_neg h0] at e
      cases hi : (rdV b p low high "even" x 0).isInf with
      | true => rw [hi, if_pos rfl] at e; cases e
      | false =>
        rw [hi, if_neg Bool.false_ne_true] at e
        obtain ⟨L2, e2, rfl⟩ := Option.map_eq_some_iff.mp e
        obtain ⟨a1, a2, a3⟩ := psK_ok F K _ (step_K F h hi) L2 e2
        refine ⟨?_, by rw [List.length_cons]; omega, fun v hv => ?_⟩
        · show (rdV b p low high "even" x 0).wQ b + sumQ b L2 = x
          rw [a1]; grind
        · rcases List.mem_cons.mp hv with rfl | hv
          · refine ⟨(rdV_can F (.inl rfl)).1, ?_⟩
            obtain ⟨_, _, _, _, s', c, e', q⟩ := rd_worth F (way := "even") (x := x) (s := 0) (.inl rfl) near_inf hi
            rw [q]; rfl
          · exact a3 v hv
inductive R_psumof : Rel
  | mk (b p : Nat) (low high : Int) (vs : List Va) (t : Bool) (B : Bag) (F : Fm b p low high) (h : VsOk b p low high vs) (hn : ∀ v ∈ vs, v.isNum = true) (hs : PsS b p low 60 (sumQ b vs)) : R_psumof [.da (fmP b p low high), .da (lisD t (vs.map Va.d))] B (psD (psK b p low high 60 (sumQ b vs))) B
inductive R_lpsum : Rel
  | mk (b p : Nat) (low high : Int) (x : Rat) (B : Bag) (F : Fm b p low high) (hs : PsS b p low 60 x) : R_lpsum [.da (fmP b p low high), .da (fq x)] B (psD (psK b p low high 60 x)) B
inductive R_total : Rel
  | mk (b p : Nat) (low high : Int) (vs : List Va) (B : Bag) (F : Fm b p low high) (hv : ∀ v ∈ vs, Vok b p low high v) (hl : vs.length ≤ 1000) (hn : ∀ v ∈ vs, v.isNum = true) (hs : ∀ k, PsS b p low 60 (sumQ b (vs.take k))) : R_total [.da (fmP b p low high), .da (.list (vs.map Va.d))] B (fq (sumQ b vs)) B
open Classical in
noncomputable def isTo : Option (List Va) → PyData → Bool
  | none, _ => false
  | some L, d => decide (d = .tuple (L.map Va.d))
inductive R_isps : Rel
  | mk (b p : Nat) (low high : Int) (vs : List Va) (d : PyData) (B : Bag) (F : Fm b p low high) (h : VsOk b p low high vs) (hn : ∀ v ∈ vs, v.isNum = true) (hs : PsS b p low 60 (sumQ b vs)) (hd : OkA d) (hl : LenOk d) :
      R_isps [.da (fmP b p low high), .da (.list (vs.map Va.d)), .da d] B (.bool (isTo (psK b p low high 60 (sumQ b vs)) d)) B
theorem sumQ_take (b : Nat) (vs : List Va) {k : Nat} {v : Va} (h : vs[k]? = some v) : sumQ b (vs.take (k + 1)) = sumQ b (vs.take k) + v.wQ b := by
  rw [List.take_add_one, h]
  unfold sumQ
  rw [List.map_append, sR_app]
  show _ + (v.wQ b + 0) = _
  grind
theorem jNum_inv {b p : Nat} {low high : Int} {d : PyData} (h : jNum b p low high d = true) : ∃ v : Va, d = v.d ∧ Vcan b p low high v ∧ v.isNum = true := by
  unfold jNum at h
  split at h
  · rename_i w s c e
    rw [Bool.and_eq_true, decide_eq_true_iff] at h
    obtain ⟨rfl, h⟩ := h
    unfold okN at h
    have h := of_decide_eq_true h
    exact ⟨.num s c e, rfl, ⟨h.1, h.2.1, h.2.2⟩, rfl⟩
  · cases h
theorem jNum_can {b p : Nat} {low high : Int} {v : Va} (h : Vcan b p low high v) (hn : v.isNum = true) : jNum b p low high v.d = true := by
  cases v with
  | num s c e =>
    show (decide (("num" : Str) = "num") && okN b p low high s c e) = true
    rw [decide_eq_true rfl, Bool.true_and]
    unfold okN
    exact decide_eq_true ⟨h.1, h.2.1, h.2.2⟩
  | _ => cases hn
theorem jNums_inv {b p : Nat} {low high : Int} : ∀ {ds : List PyData}, ds.all (jNum b p low high) = true → ∃ L : List Va, ds = L.map Va.d
  | [], _ => ⟨[], rfl⟩
  | d :: ds, h => by
    rw [List.all_cons, Bool.and_eq_true] at h
    obtain ⟨v, rfl, _⟩ := jNum_inv h.1
    obtain ⟨L, rfl⟩ := jNums_inv h.2
    exact ⟨v :: L, rfl⟩
theorem map_d_inj : ∀ {L M : List Va}, L.map Va.d = M.map Va.d → L = M
  | [], [], _ => rfl
  | [], _ :: _, h => by cases h
  | _ :: _, [], h => by cases h
  | u :: L, v :: M, h => by
    rw [List.map_cons, List.map_cons] at h
    injection h with h1 h2
    rw [vad_inj h1, map_d_inj h2]
theorem eqv_vaL : ∀ (L M : List Va), PyData.eqvAll (L.map Va.d) (M.map Va.d) = decide (L = M)
  | [], [] => by simp [PyData.eqvAll]
  | [], _ :: _ => by simp [PyData.eqvAll]
  | _ :: _, [] => by simp [PyData.eqvAll]
  | u :: L, v :: M => by
    simp only [List.map_cons, PyData.eqvAll, eqv_va, eqv_vaL L M]
    by_cases h1 : u = v <;> by_cases h2 : L = M <;> simp [h1, h2]
theorem vaL_shaped (L : List Va) : SeqAt.shaped (.tuple (L.map Va.d)) = true ∧ SeqAt.shaped (.list (L.map Va.d)) = true := by
  have one : ∀ v : Va, v.d.canLay0 = true ∧ v.d.depth ≤ 1 := fun v => by
    cases v <;> exact ⟨by simp only [Va.d, Va.l, PyData.canLay0, PyData.canLayAll0, Bool.and_true]; decide +kernel, by simp only [Va.d, Va.l, PyData.depth, PyData.depthAll]; decide⟩
  have key : PyData.canLayAll0 (L.map Va.d) = true ∧ PyData.depthAll (L.map Va.d) ≤ 1 := by
    induction L with
    | nil => exact ⟨by simp only [List.map_nil, PyData.canLayAll0], by simp only [List.map_nil, PyData.depthAll]; omega⟩
    | cons v L ih =>
      refine ⟨by simp only [List.map_cons, PyData.canLayAll0, (one v).1, ih.1, Bool.and_true], ?_⟩
      have := (one v).2
      have := ih.2
      simp only [List.map_cons, PyData.depthAll]; omega
  have k2 := key.2
  refine ⟨?_, ?_⟩
  · unfold SeqAt.shaped
    rw [show (PyData.tuple (L.map Va.d)).canLay0 = true by simp only [PyData.canLay0]; exact key.1, Bool.true_and, decide_eq_true_eq]
    simp only [PyData.depth]
    omega
  · unfold SeqAt.shaped
    rw [show (PyData.list (L.map Va.d)).canLay0 = true by simp only [PyData.canLay0]; exact key.1, Bool.true_and, decide_eq_true_eq]
    simp only [PyData.depth]
    omega
theorem psD_shaped (o : Option (List Va)) : SeqAt.shaped (psD o) = true := by
  cases o with
  | none => rfl
  | some L => exact (vaL_shaped L).1
theorem isTo_eqv (o : Option (List Va)) (L : List Va) : PyData.eqv (.tuple (L.map Va.d)) (psD o) = isTo o (.tuple (L.map Va.d)) := by
  cases o with
  | none => rfl
  | some M =>
    show PyData.eqvAll (L.map Va.d) (M.map Va.d) = _
    rw [eqv_vaL]
    unfold isTo
    refine decide_eq_decide.mpr ⟨fun h => by rw [h], fun h => ?_⟩
    injection h with h
    exact map_d_inj h
theorem isTo_not {b p : Nat} {low high : Int} (F : Fm b p low high) {x : Rat} (hs : PsS b p low 60 x) {d : PyData} (h : ∀ ds, d = .tuple ds → ds.all (jNum b p low high) = false) : isTo (psK b p low high 60 x) d = false := by
  cases e : psK b p low high 60 x with
  | none => rfl
  | some L =>
    obtain ⟨_, _, h3⟩ := psK_ok F 60 x hs L e
    unfold isTo
    refine @decide_eq_false _ (_) fun z => ?_
    have := h _ z
    have a : (L.map Va.d).all (jNum b p low high) = true := by
      rw [List.all_eq_true]
      intro d hd
      obtain ⟨v, hv, rfl⟩ := List.mem_map.mp hd
      exact jNum_can (h3 v hv).1 (h3 v hv).2
    rw [a] at this; cases this
end Lw
set_option exponentiation.threshold 20000
namespace Gd
open PySem PySem.Spec PyProof.Rows L2
theorem Cal.up {P : Program} {w : World} {K : PySem.W.Frag} {mg : Str → Option Value} {base : Heap} {x : Str} {k k' : Nat} {R : Rel} (c : Cal P w K mg base x k R) (h : k ≤ k') : Cal P w K mg base x k' R := by
  obtain ⟨f, fd, ps, F, h1, h2, h3⟩ := c
  exact ⟨f, fd, ps, F.le h, h1, h2, h3⟩
theorem Cal.ref {P : Program} {w : World} {K : PySem.W.Frag} {mg : Str → Option Value} {base : Heap} {x : Str} {k : Nat} {R : Rel} (c : Cal P w K mg base x k R) : ∃ f0, mg x = some (.ref f0) := by
  obtain ⟨f, fd, ps, F, h1, h2, h3⟩ := c
  exact ⟨f, h1⟩
end Gd
namespace Lw
open PySem PySem.Spec PyProof PyProof.Rows L2 Gd Fr
open scoped Rat
theorem bendI {i : Int} {n : Nat} (h : Bd n i) (e : n ≤ 1899) : bendB (.int i) = true := by
  simp only [bendB, decide_eq_true_eq]
  have := PySem.Flt.log2_lt_of (Nat.succ_pos n) (h.le (Nat.le_succ n))
  omega
theorem int_bn {n W : Nat} {i : Int} {k : Nat} (h : Bd k i) (e : k ≤ 1899 := by decide) : BN n W (.int i) := ⟨bendI h e, by simp only [PyData.depth]; omega, by simp only [PyData.bulk]; omega⟩
end Lw
set_option exponentiation.threshold 20000
namespace Lw
open PySem PySem.Spec PyProof PyProof.Rows L2 Gd Fr
open scoped Rat
def trueD (s e : Int) : PyData := .tuple [.str "num", .int s, .bool true, .int e]
def lstD (s c e : Int) : PyData := .list [.str "num", .int s, .int c, .int e]
def aroD (pre : List Va) (x : PyData) (post : List Va) : PyData := .tuple (pre.map Va.d ++ [x] ++ post.map Va.d)
inductive NsT (L : List Va) : PyData → Prop
  | vas (M : List Va) : NsT L (.tuple (M.map Va.d))
  | lst : NsT L (.list (L.map Va.d))
  | non : NsT L .none
  | sum : NsT L (.str "sum")
  | dct : NsT L (.dict [])
  | tru (pre post : List Va) (s c e : Int) (h : L = pre ++ .num s c e :: post) : NsT L (aroD pre (trueD s e) post)
  | inl (pre post : List Va) (s c e : Int) (h : L = pre ++ .num s c e :: post) : NsT L (aroD pre (lstD s c e) post)
theorem eqv_mid (x : PyData) (v : Va) (post : List Va) : ∀ pre : List Va, PyData.eqvAll (pre.map Va.d ++ [x] ++ post.map Va.d) ((pre ++ v :: post).map Va.d) = PyData.eqv x v.d
  | [] => by
    show PyData.eqvAll (x :: post.map Va.d) (v.d :: post.map Va.d) = _
    simp only [PyData.eqvAll, eqv_vaL, decide_true, Bool.and_true]
  | u :: pre => by
    show PyData.eqvAll (u.d :: (pre.map Va.d ++ [x] ++ post.map Va.d)) (u.d :: (pre ++ v :: post).map Va.d) = _
    simp only [PyData.eqvAll, eqv_va, decide_true, Bool.true_and]
    exact eqv_mid x v post pre
theorem eqv_tru (s c e : Int) : PyData.eqv (trueD s e) (Va.num s c e).d = true → c = 1 := by
  intro h
  simp only [trueD, Va.d, Va.l, PyData.eqv, PyData.eqvAll, Bool.and_true, Bool.and_eq_true] at h
  have h := h.2.2.1
  revert h
  simp
  exact fun h => h.symm
theorem eqv_inl (s c e : Int) : PyData.eqv (lstD s c e) (Va.num s c e).d = false := by
  simp only [lstD, Va.d, Va.l, PyData.eqv]
theorem mid_ne {pre post : List Va} {x : PyData} {v : Va} {L : List Va} (hL : L = pre ++ v :: post) (hx : x ≠ v.d) : aroD pre x post ≠ .tuple (L.map Va.d) := by
  intro h
  unfold aroD at h
  injection h with h
  rw [hL, List.map_append, List.append_assoc] at h
  have h := List.append_cancel_left h
  rw [List.map_cons] at h
  injection h with h _
  exact hx h
theorem shaped_mid {pre post : List Va} {x : PyData} (hx : x.canLay0 = true) (hd : x.depth ≤ 2) : SeqAt.shaped (aroD pre x post) = true := by
  have one : ∀ v : Va, v.d.canLay0 = true ∧ v.d.depth ≤ 1 := fun v => by
    cases v <;> exact ⟨by simp only [Va.d, Va.l, PyData.canLay0, PyData.canLayAll0, Bool.and_true]; decide +kernel, by simp only [Va.d, Va.l, PyData.depth, PyData.depthAll]; decide⟩
  have key : ∀ ds : List PyData, (∀ d ∈ ds, d.canLay0 = true ∧ d.depth ≤ 2) → PyData.canLayAll0 ds = true ∧ PyData.depthAll ds ≤ 2 := fun ds => by
    induction ds with
    | nil => intro _; exact ⟨by simp only [PyData.canLayAll0], by simp only [PyData.depthAll]; omega⟩
    | cons d ds ih =>
      intro h
      obtain ⟨a1, a2⟩ := ih fun z hz => h z (List.mem_cons_of_mem _ hz)
      obtain ⟨b1, b2⟩ := h d List.mem_cons_self
      exact ⟨by simp only [PyData.canLayAll0, a1, b1, Bool.and_true], by simp only [PyData.depthAll]; omega⟩
  obtain ⟨k1, k2⟩ := key (pre.map Va.d ++ [x] ++ post.map Va.d) fun d h => by
    rcases List.mem_append.mp h with h | h
    · rcases List.mem_append.mp h with h | h
      · obtain ⟨v, _, rfl⟩ := List.mem_map.mp h; exact ⟨(one v).1, Nat.le_succ_of_le (one v).2⟩
      · rw [List.mem_singleton.mp h]; exact ⟨hx, hd⟩
    · obtain ⟨v, _, rfl⟩ := List.mem_map.mp h; exact ⟨(one v).1, Nat.le_succ_of_le (one v).2⟩
  unfold SeqAt.shaped aroD
  rw [show (PyData.tuple (pre.map Va.d ++ [x] ++ post.map Va.d)).canLay0 = true by simp only [PyData.canLay0]; exact k1, Bool.true_and, decide_eq_true_eq]
  simp only [PyData.depth]
  omega
def szS (x : Str) : Nat := x.cps.size
theorem sz_app (x y : Str) : szS (x ++ y) = szS x + szS y := by
  show (x.cps ++ y.cps).size = _
  rw [Array.size_append]; rfl
theorem sz_join (sep : Str) : ∀ l : List Str, szS (Str.join sep l) = (l.map szS).sum + (l.length - 1) * szS sep
  | [] => by
    simp only [Str.join]
    have : szS Str.empty = 0 := by decide +kernel
    rw [this]; simp
  | [x] => by simp [Str.join]
  | x :: y :: r => by
    have ih := sz_join sep (y :: r)
    simp only [Str.join]
    first
      | rw [sz_app, sz_app, ih]
      | rw [sz_app, sz_app, ← Str.join, ih]
    simp only [List.map_cons, List.sum_cons, List.length_cons, Nat.add_sub_cancel]
    rw [Nat.succ_mul]
    omega
theorem shownAll_map : ∀ ds : List PyData, PyData.shownAll ds = ds.map PyData.shown
  | [] => by simp only [PyData.shownAll, List.map_nil]
  | d :: ds => by simp only [PyData.shownAll, List.map_cons, shownAll_map ds]
theorem sz_tuple (ds : List PyData) : szS (PyData.tuple ds).shown = 1 + ((ds.map fun d => szS d.shown).sum + (ds.length - 1) * 2) + (if ds.length = 1 then 2 else 1) := by
  have e : (PyData.tuple ds).shown = tupleText (ds.map PyData.shown) := by rw [← shownAll_map]; simp only [PyData.shown]
  rw [e]
  unfold tupleText
  rw [sz_app, sz_app, sz_join, List.length_map, List.map_map]
  have e1 : szS (Str.ofString "(") = 1 := by decide +kernel
  have e2 : szS (Str.ofString ", ") = 2 := by decide +kernel
  rw [e1, e2]
  by_cases h : ds.length = 1
  · rw [if_pos h, if_pos (by rw [h]; rfl)]
    have e3 : szS (Str.ofString ",)") = 2 := by decide +kernel
    rw [e3]; rfl
  · rw [if_neg h, if_neg (by simpa using h)]
    have e3 : szS (Str.ofString ")") = 1 := by decide +kernel
    rw [e3]; rfl
theorem tru_shown {pre post : List Va} {s c e : Int} {L : List Va} (hL : L = pre ++ .num s c e :: post) (hc : c = 1) : (aroD pre (trueD s e) post).shown ≠ (PyData.tuple (L.map Va.d)).shown := by
  intro h
  subst hc hL
  have h := congrArg szS h
  unfold aroD at h
  rw [sz_tuple, sz_tuple] at h
  have el : (pre.map Va.d ++ [trueD s e] ++ post.map Va.d).length = ((pre ++ .num s 1 e :: post).map Va.d).length := by simp
  rw [el] at h
  have e2 : ((pre.map Va.d ++ [trueD s e] ++ post.map Va.d).map fun d => szS d.shown).sum = ((pre.map Va.d).map fun d => szS d.shown).sum + szS (trueD s e).shown + ((post.map Va.d).map fun d => szS d.shown).sum := by
    rw [List.map_append, List.map_append, List.sum_append, List.sum_append]; simp
  have e3 : (((pre ++ .num s 1 e :: post).map Va.d).map fun d => szS d.shown).sum = ((pre.map Va.d).map fun d => szS d.shown).sum + szS (Va.num s 1 e).d.shown + ((post.map Va.d).map fun d => szS d.shown).sum := by
    rw [List.map_append, List.map_append, List.sum_append]; simp; omega
  rw [e2, e3] at h
  have e4 : szS (trueD s e).shown = szS (Va.num s 1 e).d.shown + 3 := by
    show szS (PyData.tuple [.str "num", .int s, .bool true, .int e]).shown = szS (PyData.tuple [.str "num", .int s, .int 1, .int e]).shown + 3
    rw [sz_tuple, sz_tuple]
    have a1 : szS (PyData.bool true).shown = 4 := by decide +kernel
    have a2 : szS (PyData.int 1).shown = 1 := by decide +kernel
    simp only [List.map_cons, List.map_nil, List.sum_cons, List.sum_nil, List.length_cons, List.length_nil, a1, a2]
    omega
  omega
inductive R_ns : Rel
  | mk (L : List Va) (d : PyData) (B : Bag) (h : NsT L d) (hd : OkA d) (hL : OkA (.tuple (L.map Va.d))) : R_ns [.da d, .da (.tuple (L.map Va.d))] B (.bool (isTo (some L) d)) B
theorem isTo_ne {L : List Va} {d : PyData} (h : d ≠ .tuple (L.map Va.d)) : isTo (some L) d = false := by
  unfold isTo
  exact @decide_eq_false _ (_) h
theorem isTo_vas (L M : List Va) : isTo (some L) (.tuple (M.map Va.d)) = decide (M = L) := by
  unfold isTo
  by_cases h : M = L
  · rw [decide_eq_true h]; exact @decide_eq_true _ (_) (by rw [h])
  · rw [decide_eq_false h]
    refine @decide_eq_false _ (_) fun z => h ?_
    injection z with z
    exact map_d_inj z
def Pre_mixed3 (Γ : List VD) (B : Bag) : Prop := ∃ t ds, Γ = [.bag, .da (lisD t ds)] ∧ ds.length ≤ 200 ∧ Bok B
def Pre_ns (Γ : List VD) (B : Bag) : Prop := ∃ (b p : Nat) (low high : Int) (L : List Va), Γ = [.bag, .da (fmP b p low high), .da (.tuple (L.map Va.d))] ∧ Fm b p low high ∧ Bok B ∧ L.length ≤ 60 ∧ ∀ v ∈ L, Vcan b p low high v ∧ v.isNum = true
def Post_ns (Γ : List VD) (_ : Bag) (r : PyData) (B' : Bag) : Prop := Bok B' ∧ ∀ (g0 g1 : VD) (L : List Va), Γ = [g0, g1, .da (.tuple (L.map Va.d))] → ∃ ds, r = .list ds ∧ ds.length ≤ 7 ∧ ∀ d ∈ ds, NsT L d ∧ OkA d ∧ LenOk d
structure NsQ (L : List Va) (d : PyData) : Prop where
  t : NsT L d
  a : OkA d
  l : LenOk d
theorem nums_ok {ds : List PyData} (h : ∀ d ∈ ds, BN 2 10 d) (hl : ds.length ≤ 100) : (OkA (.tuple ds) ∧ LenOk (.tuple ds)) ∧ OkA (.list ds) := by
  have a := BNA.of (k := 100) h hl
  refine ⟨⟨((BN.mktup a).le (n' := 3) (W' := 1100) (Nat.le_refl _) (by omega)).an.ok, ?_⟩, ((BN.mklst a).le (n' := 3) (W' := 1100) (Nat.le_refl _) (by omega)).an.ok⟩
  show ds.length ≤ 1000; omega
theorem can_bn {b p : Nat} {low high : Int} (F : Fm b p low high) {v : Va} (h : Vcan b p low high v) : BN 2 10 v.d := (va_bend F h.ok).le (by decide) (by decide)
theorem nsq_vas {L M : List Va} (h : ∀ v ∈ M, BN 2 10 v.d) (hl : M.length ≤ 100) : NsQ L (.tuple (M.map Va.d)) := by
  obtain ⟨⟨a, b⟩, _⟩ := nums_ok (ds := M.map Va.d) (fun d hd => by obtain ⟨v, hv, rfl⟩ := List.mem_map.mp hd; exact h v hv) (by rw [List.length_map]; exact hl)
  exact ⟨.vas M, a, b⟩
theorem nsq_mid {L pre post : List Va} {s c e : Int} (hL : L = pre ++ .num s c e :: post) (h : ∀ v ∈ L, BN 2 10 v.d) (hl : L.length ≤ 99) (hs : Bd 10 s) (hc : Bd 705 c) (he : Bd 40 e) :
    NsQ L (aroD pre (trueD s e) post) ∧ NsQ L (aroD pre (lstD s c e) post) := by
  have hx : ∀ x : PyData, BN 2 10 x → (OkA (aroD pre x post) ∧ LenOk (aroD pre x post)) := fun x hb => (nums_ok (ds := pre.map Va.d ++ [x] ++ post.map Va.d) (fun d hd => by
    rcases List.mem_append.mp hd with hd | hd
    · rcases List.mem_append.mp hd with hd | hd
      · obtain ⟨v, hv, rfl⟩ := List.mem_map.mp hd; exact h v (by rw [hL]; exact List.mem_append_left _ hv)
      · rw [List.mem_singleton.mp hd]; exact hb
    · obtain ⟨v, hv, rfl⟩ := List.mem_map.mp hd; exact h v (by rw [hL]; exact List.mem_append_right _ (List.mem_cons_of_mem _ hv))) (by rw [hL] at hl; simp at hl ⊢; omega)).1
  have b1 : BN 0 3 (.str "num") := BN.word
  have i : ∀ {z : Int} {k : Nat}, Bd k z → k ≤ 1899 → BN 0 0 (.int z) := fun h e => int_bn h e
  have bt : BN 0 0 (.bool true) := ⟨by simp only [bendB, datB], by simp only [PyData.depth]; omega, by simp only [PyData.bulk]; omega⟩
  have ht := hx (trueD s e) ((BN.mktup (BNA.cons b1 (BNA.cons (i hs (by decide)) (BNA.cons bt (BNA.cons (i he (by decide)) (BNA.nil (W := 0))))))).le (by decide) (by decide))
  have hl2 := hx (lstD s c e) ((BN.mklst (BNA.cons b1 (BNA.cons (i hs (by decide)) (BNA.cons (i hc (by decide)) (BNA.cons (i he (by decide)) (BNA.nil (W := 0))))))).le (by decide) (by decide))
  exact ⟨⟨.tru pre post s c e hL, ht.1, ht.2⟩, ⟨.inl pre post s c e hL, hl2.1, hl2.2⟩⟩
end Lw
namespace Gd
open PySem PySem.Spec PyProof.Rows L2
section
variable {X : Cx} {Γ : List VD} {B B1 B2 : Bag} {a b e : Expr} {pos p p' : Pos} {rest : List Stmt} {ds : List PyData}
theorem ej_repLn {k : Nat} (ha : EJ X Γ B a (.da (.list ds)) B1) (hb : EJ X Γ B1 b (.da (.int (k : Int))) B2) (hl : ds.length ≤ 1000) (hk : k ≤ 1000) :
    EJ X Γ B (.BinOp a .Mult b pos) (.da (.list (List.replicate k ds).flatten)) B2 :=
  ej_bin ha hb (fun _ _ h1 h2 => pe_op op_rep h1 h2) fun g v w H0 H O r1 r2 Q q => by
    obtain ⟨p, xs, rfl, hx, rs⟩ := rvL r1
    obtain rfl := rvI r2
    have hxl : xs.length = ds.length := rs.length
    refine ⟨p, (k : Int), xs, rfl, rfl, O.ex _ _ hx, by omega, by omega, ?_, fun m hm => ?_⟩
    · rw [sizeLine_eq, Int.toNat_natCast]
      have : xs.length * k ≤ 1000 * 1000 := Nat.mul_le_mul (by omega) hk
      omega
    · rw [Int.toNat_natCast]
      obtain ⟨t2, o2⟩ := laid (o := .lst (List.replicate k xs).flatten) O hm
      have rep : ∀ k : Nat, RpAll X.K H0 (List.replicate k xs).flatten (List.replicate k ds).flatten := fun k => by
        induction k with
        | zero => exact .nil
        | succ k ih => rw [List.replicate_succ, List.replicate_succ, List.flatten_cons, List.flatten_cons]; exact rs.app ih
      exact q _ _ _ t2 o2 (Rp.lst upd_same ((rep k).mono t2.ex))
theorem sj_cont {Es : En} (h : Es.ct Γ B) : SJ X Γ B (.Continue pos :: rest) Es := fun g σ H0 H Ev O D G => ⟨_, pss_cons ps_continue (ws rest), G.ct Γ B σ H0 H h To.refl Ev O⟩
theorem sj_unpackOwn {Es : En} (j i : Nat) {ts : List Expr} {k k2 : Nat} {pt pt2 pl : Pos} (hc : X.calm = true) (hΓ : i < Γ.length) (hij : i ≠ j)
    (h1 : EX X Γ B a fun y B1 => OwJ X i ((Γ.set j (.da y)).set i .no) B1 [] rest { nx := fun Γ' B' acc => Es.nx (Γ'.set i (.da (.list acc))) B', fx := Es.nx, rt := Es.rt, bk := fun Γ' B' acc => Es.bk (Γ'.set i (.da (.list acc))) B', ct := fun Γ' B' acc => Es.ct (Γ'.set i (.da (.list acc))) B', fc := Es.ct })
    (hg : PGs X ts (gNames [j, i])) (hn : (assignEach ts X.env).length = 2 := by rfl) (hst : (assignEach ts X.env).findIdx? (·.1) = none := by rfl)
    (s1 : starEach (a :: [.List [] pl]) X.env = (false, eval a X.env) :: starEach [.List [] pl] X.env := by rfl) (s2 : starEach (.List [] pl :: []) X.env = (false, eval (.List [] pl) X.env) :: starEach [] X.env := by rfl)
    (g1 : swapsWithSole [.Tuple ts k pt] (.Tuple [a, .List [] pl] k2 pt2) pos.line X.env = pure false := by rfl) (g2 : swappedStores [.Tuple ts k pt] (.Tuple [a, .List [] pl] k2 pt2) X.env = pure none := by rfl)
    (g3 : (assignEach [.Tuple ts k pt] X.env).map (·.2) = [assign (.Tuple ts k pt) X.env] := by rfl) :
    SJ X Γ B (.Assign [.Tuple ts k pt] (.Tuple [a, .List [] pl] k2 pt2) pos :: rest) Es := fun g σ H0 H Ev O D G =>
  ⟨_, pss_cons (ps_asg (pe_tup (pa_cons (we a) (pa_cons (pe_lst pa_nil) pa_nil s2) s1)) (pg_tup hc hg hn hst) g1 g2 g3) (ws rest), by
    refine h1 g σ H0 H Ev O _ fun v1 H1 H1' y B1 hy t o r1 => ?_
    refine ⟨by decide, fun A n => ?_⟩
    have n1 : H1 A = none := o.ex.free n
    have off := off_none o n
    have n0 := new_start t o off n
    refine ⟨Nat.le_of_lt (small1000 (Nat.le_of_ble_eq_true rfl)), fun m hm => ?_⟩
    have hmA : m ≠ A := fun z => by rw [z, upd_same] at hm; cases hm
    have hm1 : H1' m = none := by rw [upd_ne hmA] at hm; exact hm
    obtain ⟨_, _, o1⟩ := hid (o := .lst []) o n
    obtain ⟨_, _, o2⟩ := hid (o := .tup [v1, .ref A]) o1 hm
    refine ⟨m, [v1, .ref A], rfl, SqT.of upd_same, rfl, _, _, rfl, _, _, rfl, rfl, ?_⟩
    have hi' : i < (σ.set j (some v1)).length := by rw [List.length_set, Ev.len]; exact hΓ
    have ev : EnvD X.K g H1 ((σ.set j (some v1)).set i (some (.ref A))) ((Γ.set j (.da y)).set i .no) := ((Ev.mono t.ex).set (d := .da y) j r1).set (d := .no) i trivial
    refine hy g _ H0 H A H1 _ ⟨⟨t.ex, fun b u f q1 q2 => ?_⟩, n0, off, ev, List.getElem?_set_self hi', n1, ⟨[], by rw [upd_ne (Ne.symm hmA), upd_same], .nil⟩, o2⟩ D ⟨?_, ?_, ?_, ?_, ?_, ?_, ?_⟩
    · obtain ⟨p1, p2⟩ := t.un b u f q1 q2
      have hA : b ≠ A := fun z => by rw [z, n] at p2; cases p2
      have hM : b ≠ m := fun z => by rw [z, hm1] at p2; cases p2
      exact ⟨p1, by rw [upd_ne hM, upd_ne hA]; exact p2⟩
    · intro Γ' B' acc σ' H2 H2' q w _
      obtain ⟨H3, t3, e3, o3⟩ := w.freeze
      exact G.nx _ _ _ _ _ q t3 e3 o3
    · intro Γ' B' σ' H2 H2' q t2 e2 o2
      exact G.nx _ _ _ _ _ q t2 e2 o2
    · intro r B' v H2 H2' q t2 o2 rv
      exact G.rt _ _ _ _ _ q t2 o2 rv
    · intro Γ' B' acc σ' H2 H2' q w _
      obtain ⟨H3, t3, e3, o3⟩ := w.freeze
      exact G.bk _ _ _ _ _ q t3 e3 o3
    · intro Γ' B' acc σ' H2 H2' q w _
      obtain ⟨H3, t3, e3, o3⟩ := w.freeze
      exact G.ct _ _ _ _ _ q t3 e3 o3
    · intro _ _ _ _ _ _ q; exact q.elim
    · intro Γ' B' σ' H2 H2' q t2 e2 o2
      exact G.ct _ _ _ _ _ q t2 e2 o2⟩
end
end Gd
set_option exponentiation.threshold 20000
namespace Lw
open PySem PySem.Spec PyProof PyProof.Rows L2 Gd Fr
open scoped Rat
def nearM (t : F4) : Nat := t.1 ^ t.2.1 * t.1 ^ (t.2.2.2 - t.2.2.1).toNat
theorem near_big : nearL.all (fun t => decide (16 * nearM t < psB t.1 t.2.1 ^ 60) && decide (16 * nearM t < 2 ^ 3000)) = true := by decide +kernel
theorem num_psn {t : F4} (ht : t ∈ nearL) {v : Va} (hv : Vcan t.1 t.2.1 t.2.2.1 t.2.2.2 v) (hn : v.isNum = true) : PsN t.1 t.2.2.1 (nearM t) (v.wQ t.1) := by
  have F := nearL_in ht
  have F : Fm t.1 t.2.1 t.2.2.1 t.2.2.2 := F
  obtain ⟨s, c, e, rfl⟩ : ∃ s c e, v = .num s c e := by cases v <;> first | exact ⟨_, _, _, rfl⟩ | cases hn
  obtain ⟨hs, ⟨a1, a2, a3, a4⟩, a5⟩ := hv
  refine ⟨_, wQ_mult F.b2 a3, ?_⟩
  rw [Int.natAbs_mul, Int.natAbs_natCast]
  have h1 : (if s = 1 then -c else c).natAbs < t.1 ^ t.2.1 := by split <;> omega
  have h2 : t.1 ^ (e - t.2.2.1).toNat ≤ t.1 ^ (t.2.2.2 - t.2.2.1).toNat := Nat.pow_le_pow_right (by have := F.b2; omega) (by omega)
  have h3 : 0 < t.1 ^ (t.2.2.2 - t.2.2.1).toNat := Nat.pow_pos (by have := F.b2; omega)
  unfold nearM
  exact Nat.lt_of_le_of_lt (Nat.mul_le_mul_left _ h2) (Nat.mul_lt_mul_of_pos_right h1 h3)
theorem sum_psn {t : F4} (ht : t ∈ nearL) : ∀ vs : List Va, (∀ v ∈ vs, Vcan t.1 t.2.1 t.2.2.1 t.2.2.2 v ∧ v.isNum = true) → PsN t.1 t.2.2.1 (vs.length * nearM t + 1) (sumQ t.1 vs)
  | [], _ => ⟨0, by show (0 : Rat) = _; rw [Rat.intCast_zero, Rat.zero_mul], by simp⟩
  | v :: vs, h => by
    have a := num_psn ht (h v List.mem_cons_self).1 (h v List.mem_cons_self).2
    have b := sum_psn ht vs fun u hu => h u (List.mem_cons_of_mem _ hu)
    have c := a.add b
    refine PsN.le (show PsN _ _ _ (sumQ t.1 (v :: vs)) from c) ?_
    rw [List.length_cons, Nat.succ_mul]; omega
theorem sum_pss {t : F4} (ht : t ∈ nearL) {vs : List Va} (h : ∀ v ∈ vs, Vcan t.1 t.2.1 t.2.2.1 t.2.2.2 v ∧ v.isNum = true) (hl : vs.length ≤ 15) : PsS t.1 t.2.1 t.2.2.1 60 (sumQ t.1 vs) := by
  obtain ⟨N, h1, h2⟩ := (sum_psn ht vs h).ex
  have hb := List.all_eq_true.mp near_big t ht
  rw [Bool.and_eq_true, decide_eq_true_iff, decide_eq_true_iff] at hb
  have hM : 0 < nearM t := by
    have F : Fm t.1 t.2.1 t.2.2.1 t.2.2.2 := nearL_in ht
    unfold nearM
    exact Nat.mul_pos (Nat.pow_pos (by have := F.b2; omega)) (Nat.pow_pos (by have := F.b2; omega))
  have h3 : vs.length * nearM t ≤ 15 * nearM t := Nat.mul_le_mul_right _ hl
  exact ⟨N, h1, by omega, by omega⟩
theorem sumQ_perm (b : Nat) {vs us : List Va} (h : vs.Perm us) : sumQ b vs = sumQ b us := sR_perm (h.map _)
theorem opp_num {v : Va} (h : v.isNum = true) : v.opp.isNum = true := by cases v <;> first | rfl | cases h
theorem psD_nd {b p : Nat} {low high : Int} (F : Fm b p low high) {x : Rat} (hs : PsS b p low 60 x) : Nd 3 2470 (psD (psK b p low high 60 x)) := by
  cases e : psK b p low high 60 x with
  | none => exact ⟨by simp only [psD, nice], by simp only [psD, PyData.depth]; omega, by simp only [psD, PyData.bulk]; omega⟩
  | some L =>
    obtain ⟨_, h2, h3⟩ := psK_ok F 60 x hs L e
    have key : ∀ M : List Va, (∀ v ∈ M, Vcan b p low high v) → NdA 2 (M.length * 41) (M.map Va.d) := fun M => by
      induction M with
      | nil => intro _; exact NdA.nil
      | cons v M ih =>
        intro h
        have a := NdA.cons ((va_nd F (h v List.mem_cons_self).ok).le (D' := 2) (W' := 40) (by decide) (by decide)) (ih fun u hu => h u (List.mem_cons_of_mem _ hu))
        refine a.le (Nat.le_refl _) ?_
        rw [List.length_cons, Nat.succ_mul]; omega
    exact (Nd.tuple (key L fun v hv => (h3 v hv).1)).le (by decide) (by have : L.length * 41 ≤ 60 * 41 := Nat.mul_le_mul_right _ h2; omega)
end Lw
set_option exponentiation.threshold 20000
namespace K51
open PySem PySem.Spec PyProof.Rows L2 Gd Fr Lw
open scoped Rat

def topS (i : Nat) : Stmt := PySem.Challenge.pw_nearestheld_k51_what_many_lack.main.body.getD i (.Pass ⟨0, 0, 0, 0⟩)
variable {P : Program} {w : World} {K : PySem.W.Frag} {mg : Str → Option Value} {base : Heap}

abbrev s_integer_power : Stmt := topS 2
theorem sc_integer_power : FnScope ["base", "e", "power"] ["base", "e"] (defScope s_integer_power) := ⟨rfl, rfl, rfl, by decide +kernel, rfl, by decide +kernel, by decide +kernel⟩

theorem c_of_integer_power (T : At K mg "integer_power" s_integer_power ["base", "e"]) : Cal P w K mg base "integer_power" 4 R_pow :=
  cal_at T sc_integer_power (by rintro _ _ _ _ ⟨⟩; rfl) fun f cd0 A out s H E G Γ B r B' hR => by
  obtain ⟨b, e, B, hb, he⟩ := hR
  refine sj_set 2 G.nd ej_int ?_
  refine sj_while G.nd (fun Γ' B' => ∃ k m j : Nat, Γ' = [.da (.int ((b ^ k : Nat) : Int)), .da (.int m), .da (.int ((b ^ j : Nat) : Int))] ∧ j + k * m = e ∧ B' = B) (fun Γ' _ => (intAt Γ' 1).toNat)
    ⟨1, e, 0, by rw [Nat.pow_one]; rfl, by omega, rfl⟩ ?_
  rintro Γ' B' ⟨k, m, j, rfl, hk, rfl⟩
  refine ⟨_, tj_gt (ej_dat 1) ej_int, fun h => ?_, fun h => ?_⟩
  · have hm : 0 < m := by have := of_decide_eq_true h; omega
    obtain ⟨k1, j1⟩ := k_le hk hm
    refine sj_ifM (fun Γ' B2 => ∃ j' : Nat, Γ' = [.da (.int ((b ^ k : Nat) : Int)), .da (.int m), .da (.int ((b ^ j' : Nat) : Int))] ∧ j' + (k + k) * (m / 2) = e ∧ B2 = B') (tj_eqI G.hu (ej_mod (ej_dat 1) ej_int (by decide)) ej_int) (fun h1 => ?_) (fun h1 => ?_) ?_
    · refine sj_set 2 G.nd (ej_mul (ej_dat 2) (ej_dat 0) (cm (bd_pow j hb) (bd_pow k hb) (by omega))) (sj_nil ?_)
      rw [pow_up]
      exact ⟨j + k, rfl, turn_odd hk (by have := of_decide_eq_true h1; omega), rfl⟩
    · exact sj_nil ⟨j, rfl, turn_even hk (by have := of_decide_eq_false h1; omega), rfl⟩
    · rintro Γ2 B2 ⟨j', rfl, hj', rfl⟩
      refine sj_set 0 G.nd (ej_mul (ej_dat 0) (ej_dat 0) (cm (bd_pow k hb) (bd_pow k hb) (by omega))) ?_
      refine sj_set 1 G.nd (ej_fdiv (ej_dat 1) ej_int (cdv (show Bd 2 2 from by unfold Bd; decide) (by decide))) (sj_nil ?_)
      rw [pow_sq, half]
      exact ⟨⟨k + k, m / 2, j', rfl, hj', rfl⟩, show ((m / 2 : Nat) : Int).toNat < (m : Int).toNat by omega⟩
  · have hm : ¬ 0 < m := by have := of_decide_eq_false h; omega
    have := j_end hk hm
    subst this
    exact sj_ret (ej_dat 2) ⟨rfl, rfl⟩

abbrev s_is_integer : Stmt := topS 3
theorem sc_is_integer : FnScope ["thing"] ["thing"] (defScope s_is_integer) := ⟨rfl, rfl, rfl, by decide +kernel, rfl, by decide +kernel, by decide +kernel⟩

theorem c_of_is_integer (m_isinstance : mg "isinstance" = none) (m_int : mg "int" = none) (m_bool : mg "bool" = none) (T : At K mg "is_integer" s_is_integer ["thing"]) : Cal P w K mg base "is_integer" 4 R_anyint :=
  cal_at T sc_is_integer (by rintro _ _ _ _ ⟨⟩; rfl) fun f cd0 A out s H E0 G Γ B r B' hR => by
  obtain ⟨d, B⟩ := hR
  cases d with
  | int i => exact sj_ret (ej_and (x := true) (y := true) (ej_isi (T := "int") (r := true) m_isinstance m_int (ej_dat (d := .int i) 0)) fun _ => ej_one (ej_not (x := false) (ej_isi (T := "bool") (r := false) m_isinstance m_bool (ej_dat (d := .int i) 0)))) ⟨rfl, rfl⟩
  | bool i => exact sj_ret (ej_and (x := true) (y := false) (ej_isi (T := "int") (r := true) m_isinstance m_int (ej_dat (d := .bool i) 0)) fun _ => ej_one (ej_not (x := true) (ej_isi (T := "bool") (r := true) m_isinstance m_bool (ej_dat (d := .bool i) 0)))) ⟨rfl, rfl⟩
  | none => exact sj_ret (ej_and (x := false) (y := true) (ej_isi (T := "int") (r := false) m_isinstance m_int (ej_dat (d := .none) 0)) fun h => Bool.noConfusion h) ⟨rfl, rfl⟩
  | str x => exact sj_ret (ej_and (x := false) (y := true) (ej_isi (T := "int") (r := false) m_isinstance m_int (ej_dat (d := .str x) 0)) fun h => Bool.noConfusion h) ⟨rfl, rfl⟩
  | list x => exact sj_ret (ej_and (x := false) (y := true) (ej_isi (T := "int") (r := false) m_isinstance m_int (ej_dat (d := .list x) 0)) fun h => Bool.noConfusion h) ⟨rfl, rfl⟩
  | tuple x => exact sj_ret (ej_and (x := false) (y := true) (ej_isi (T := "int") (r := false) m_isinstance m_int (ej_dat (d := .tuple x) 0)) fun h => Bool.noConfusion h) ⟨rfl, rfl⟩
  | dict x => exact sj_ret (ej_and (x := false) (y := true) (ej_isi (T := "int") (r := false) m_isinstance m_int (ej_dat (d := .dict x) 0)) fun h => Bool.noConfusion h) ⟨rfl, rfl⟩

abbrev s_is_number : Stmt := topS 4
theorem sc_is_number : FnScope ["form", "thing", "base", "digits", "low", "high", "_", "s", "c", "e", "beyond", "part"] ["form", "thing"] (defScope s_is_number) := ⟨rfl, rfl, rfl, by decide +kernel, rfl, by decide +kernel, by decide +kernel⟩

theorem c_of_is_number /-H-/ (m_all : mg "all" = none) (c_integer_power : Cal P w K mg base "integer_power" 4 R_pow) (c_is_worded : Cal P w K mg base "is_worded" 4 R_worded) (c_is_integer : Cal P w K mg base "is_integer" 4 R_anyint) /-E-/ (T : At K mg "is_number" s_is_number ["form", "thing"]) : Cal P w K mg base "is_number" 6 (R_fb jNum) :=
  cal_at T sc_is_number (by rintro _ _ _ _ ⟨⟩; rfl) fun f cd0 A out s H E0 G Γ B r B' hR => by
  obtain ⟨b, p, low, high, d, B, F, hd⟩ := hR
  have p7 := F.p7; have flo := F.lo; have fhi := F.hi; have lh := F.lh; have p2 := F.p2
  have Pw := F.pows; have pl2 := Pw.l2; have ge := Pw.ge
  have ew := R_worded.mk d "num" 4 B (by decide) (by decide)
  by_cases c : wordedB d "num" 4 = true
  · obtain ⟨x, y, z, rfl⟩ := worded4 c
    rw [c] at ew
    refine sj_when (x := !([intB x, intB y, intB z].all id)) (tj_w (wj_or (x := false) (y := !([intB x, intB y, intB z].all id)) (tj_not (x := true) (tj_val (ej_call c_is_worded (G.le (by decide)) (aj_cons (ej_dat (d := .tuple [.str "num", x, y, z]) 1) (aj_cons ej_str (aj_cons ej_int aj_nil))) ew))) fun _ => wj_or1 (tj_not (tj_val (ej_all (bs := [intB x, intB y, intB z]) G.calm m_all (ej_lcT (j := 11) (x := "part") G.nd G.calm (blkOk_by (N := ["form", "thing", "base", "digits", "low", "high", "_", "s", "c", "e", "beyond", "part"]) (sc := defScope s_is_number) (by decide +kernel)) (fun _ _ _ _ _ => pg_name (i := 11) G.nd rfl (Or.inl rfl))
      (rj_lcT (ds := [x, y, z]) (ys := [.bool (intB x), .bool (intB y), .bool (intB z)]) (fun _ => B) (ej_is (ej_sliceT (ej_dat (d := .tuple [.str "num", x, y, z]) 1) (oj_some ej_int) oj_none) rfl) rfl (Nat.le_of_ble_eq_true rfl) (fun i y' z' hi hz s0 H0 C cl fp => by
        have e : z' = .bool (intB y') := by
          match i, hi, hz with
          | 0, hi, hz => cases hi; cases hz; rfl
          | 1, hi, hz => cases hi; cases hz; rfl
          | 2, hi, hz => cases hi; cases hz; rfl
        subst e
        exact ej_call c_is_integer ⟨G.gd, G.rm.mono (by decide), G.nd, G.calm⟩ (aj_cons (ej_dat (d := y') 11) aj_nil) (R_anyint.mk y' B))))))))) (fun h => ?_) (fun h => ?_)
    · have h : (intB x && (intB y && intB z)) = false := by
        simp only [List.all_cons, List.all_nil, id, Bool.and_true, Bool.not_eq_true'] at h; exact h
      rw [jNum_int h]
      exact sj_ret ej_bl ⟨rfl, rfl⟩
    · have h : (intB x && (intB y && intB z)) = true := by
        simp only [List.all_cons, List.all_nil, id, Bool.and_true, Bool.not_eq_false'] at h; exact h
      rw [Bool.and_eq_true, Bool.and_eq_true] at h
      obtain ⟨hx, hy, hz⟩ := h
      obtain ⟨sn, rfl⟩ := intB_inv hx
      obtain ⟨cc, rfl⟩ := intB_inv hy
      obtain ⟨e, rfl⟩ := intB_inv hz
      have bc : Bd 1920 cc := by
        simp only [datB, datA, Bool.and_eq_true, decide_eq_true_eq] at hd
        exact lt_of_log2 hd.2.2.1
      refine sj_unpack [2, 3, 4, 5] G.calm (ej_dat (d := .tuple [.int b, .int p, .int low, .int high]) 0) (pgs_cons (pgN 2 G.nd) (pgs_cons (pgN 3 G.nd) (pgs_cons (pgN 4 G.nd) (pgs_cons (pgN 5 G.nd) pgs_nil)))) rfl ?_
      refine sj_unpack [6, 7, 8, 9] G.calm (ej_dat (d := .tuple [.str "num", .int sn, .int cc, .int e]) 1) (pgs_cons (pgN 6 G.nd) (pgs_cons (pgN 7 G.nd) (pgs_cons (pgN 8 G.nd) (pgs_cons (pgN 9 G.nd) pgs_nil)))) rfl ?_
      refine sj_when (x := decide (¬ (sn = 0 ∨ sn = 1)) || (decide (cc < 0) || (decide (e < low) || decide (high < e)))) (tj_w (wj_or (tj_is (tj_ninD G.hu (ej_dat (d := .int sn) 7) (ej_tupD (ad_cons ej_int (ad_cons ej_int ad_nil)) (Nat.le_of_ble_eq_true rfl)) rfl (by decide +kernel) (Nat.zero_le _)) (e01_in sn)) fun _ => wj_or (tj_lt (ej_dat (d := .int cc) 8) ej_int) fun _ => wj_or (tj_lt (ej_dat (d := .int e) 9) (ej_dat (d := .int low) 4)) fun _ => wj_or1 (tj_gt (ej_dat (d := .int e) 9) (ej_dat (d := .int high) 5)))) (fun h => ?_) (fun h => ?_)
      · have : okN b p low high sn cc e = false := by
          unfold okN
          refine decide_eq_false ?_
          simp only [Bool.or_eq_true, decide_eq_true_eq] at h
          omega
        refine sj_ret ej_bl ⟨?_, rfl⟩
        show PyData.bool false = .bool (decide (("num" : Str) = "num") && okN b p low high sn cc e)
        rw [this, Bool.and_false]
      · simp only [Bool.or_eq_false_iff, decide_eq_false_iff_not] at h
        obtain ⟨h1, h2, h3, h4⟩ := h
        refine sj_set 10 G.nd (d := .da (.int ((b ^ p : Nat) : Int))) (ej_call c_integer_power (G.le (by decide)) (aj_cons (ej_dat (d := .int b) 2) (aj_cons (ej_dat (d := .int p) 3) aj_nil)) (R_pow.mk b p B F.b6 (by omega))) ?_
        refine sj_ret (ej_and (ej_lt (ej_dat (d := .int cc) 8) (ej_dat 10)) fun _ => ej_one (ej_or (ej_eqI G.hu (ej_dat (d := .int e) 9) (ej_dat (d := .int low) 4)) fun _ => ej_one (ej_ge (ej_mul (ej_dat (d := .int cc) 8) (ej_dat (d := .int b) 2) (cm (n := 1920) (m := 6) bc (by have := F.b6; unfold Bd; omega) (by decide))) (ej_dat 10)))) ⟨?_, rfl⟩
        show PyData.bool _ = .bool (decide (("num" : Str) = "num") && okN b p low high sn cc e)
        rw [decide_eq_true (rfl : ("num" : Str) = "num"), Bool.true_and]
        exact congrArg PyData.bool (okN_up F (Decidable.not_not.mp h1) (by omega) (by omega) (by omega))
  · have c : wordedB d "num" 4 = false := by simpa using c
    rw [c] at ew
    rw [jNum_no c]
    exact sj_when (x := true) (tj_w (wj_orT (tj_not (x := false) (tj_val (ej_call c_is_worded (G.le (by decide)) (aj_cons (ej_dat (d := d) 1) (aj_cons ej_str (aj_cons ej_int aj_nil))) ew))))) (fun _ => sj_ret ej_bl ⟨rfl, rfl⟩) (fun h => Bool.noConfusion h)

abbrev s_is_worded : Stmt := topS 5
theorem sc_is_worded : FnScope ["thing", "word", "many"] ["thing", "word", "many"] (defScope s_is_worded) := ⟨rfl, rfl, rfl, by decide +kernel, rfl, by decide +kernel, by decide +kernel⟩

theorem c_of_is_worded (m_isinstance : mg "isinstance" = none) (m_tuple : mg "tuple" = none) (m_str : mg "str" = none) (m_len : mg "len" = none) (T : At K mg "is_worded" s_is_worded ["thing", "word", "many"]) : Cal P w K mg base "is_worded" 4 R_worded :=
  cal_at T sc_is_worded (by rintro _ _ _ _ ⟨⟩; rfl) fun f cd0 A out s H E0 G Γ B r B' hR => by
  obtain ⟨d, wd, n, B, hn, hl⟩ := hR
  cases d with
  | none => exact sj_when (x := true) (tj_w (wj_orT (tj_is (tj_not (tj_val (ej_isi (T := "tuple") (r := false) m_isinstance m_tuple (ej_dat (d := .none) 0)))) rfl))) (fun _ => sj_ret ej_bl ⟨rfl, rfl⟩) (fun h => Bool.noConfusion h)
  | bool i => exact sj_when (x := true) (tj_w (wj_orT (tj_is (tj_not (tj_val (ej_isi (T := "tuple") (r := false) m_isinstance m_tuple (ej_dat (d := .bool i) 0)))) rfl))) (fun _ => sj_ret ej_bl ⟨rfl, rfl⟩) (fun h => Bool.noConfusion h)
  | int i => exact sj_when (x := true) (tj_w (wj_orT (tj_is (tj_not (tj_val (ej_isi (T := "tuple") (r := false) m_isinstance m_tuple (ej_dat (d := .int i) 0)))) rfl))) (fun _ => sj_ret ej_bl ⟨rfl, rfl⟩) (fun h => Bool.noConfusion h)
  | str x => exact sj_when (x := true) (tj_w (wj_orT (tj_is (tj_not (tj_val (ej_isi (T := "tuple") (r := false) m_isinstance m_tuple (ej_dat (d := .str x) 0)))) rfl))) (fun _ => sj_ret ej_bl ⟨rfl, rfl⟩) (fun h => Bool.noConfusion h)
  | list x => exact sj_when (x := true) (tj_w (wj_orT (tj_is (tj_not (tj_val (ej_isi (T := "tuple") (r := false) m_isinstance m_tuple (ej_dat (d := .list x) 0)))) rfl))) (fun _ => sj_ret ej_bl ⟨rfl, rfl⟩) (fun h => Bool.noConfusion h)
  | dict x => exact sj_when (x := true) (tj_w (wj_orT (tj_is (tj_not (tj_val (ej_isi (T := "tuple") (r := false) m_isinstance m_tuple (ej_dat (d := .dict x) 0)))) rfl))) (fun _ => sj_ret ej_bl ⟨rfl, rfl⟩) (fun h => Bool.noConfusion h)
  | tuple ds =>
    by_cases c : ds.length = n
    · refine sj_when (x := false) (tj_w (wj_or (x := false) (y := false) (tj_is (tj_not (tj_val (ej_isi (T := "tuple") (r := true) m_isinstance m_tuple (ej_dat (d := .tuple ds) 0)))) rfl) fun _ => (wj_or1 (tj_is (tj_neI G.hu (ej_lenT m_len (ej_dat (d := .tuple ds) 0)) (ej_dat 2)) (by rw [c]; simp))))) (fun h => Bool.noConfusion h) (fun _ => ?_)
      cases ds with
      | nil => simp only [List.length_nil] at c; omega
      | cons y r =>
        have e : ∀ x : Str, wordedB (.tuple (.str x :: r)) wd n = decide (x = wd) := fun x => by
          show (decide (r.length + 1 = n) && decide (x = wd)) = _
          rw [decide_eq_true (show r.length + 1 = n from c), Bool.true_and]
        cases y with
        | none => exact sj_ret (ej_and (x := false) (y := true) (ej_isi (T := "str") (r := false) m_isinstance m_str (ej_at (ds := .none :: r) (y := .none) (ej_dat (d := .tuple (.none :: r)) 0) (atI_head rfl))) fun h => Bool.noConfusion h) ⟨rfl, rfl⟩
        | bool i => exact sj_ret (ej_and (x := false) (y := true) (ej_isi (T := "str") (r := false) m_isinstance m_str (ej_at (ds := .bool i :: r) (y := .bool i) (ej_dat (d := .tuple (.bool i :: r)) 0) (atI_head rfl))) fun h => Bool.noConfusion h) ⟨rfl, rfl⟩
        | int i => exact sj_ret (ej_and (x := false) (y := true) (ej_isi (T := "str") (r := false) m_isinstance m_str (ej_at (ds := .int i :: r) (y := .int i) (ej_dat (d := .tuple (.int i :: r)) 0) (atI_head rfl))) fun h => Bool.noConfusion h) ⟨rfl, rfl⟩
        | list i => exact sj_ret (ej_and (x := false) (y := true) (ej_isi (T := "str") (r := false) m_isinstance m_str (ej_at (ds := .list i :: r) (y := .list i) (ej_dat (d := .tuple (.list i :: r)) 0) (atI_head rfl))) fun h => Bool.noConfusion h) ⟨rfl, rfl⟩
        | tuple i => exact sj_ret (ej_and (x := false) (y := true) (ej_isi (T := "str") (r := false) m_isinstance m_str (ej_at (ds := .tuple i :: r) (y := .tuple i) (ej_dat (d := .tuple (.tuple i :: r)) 0) (atI_head rfl))) fun h => Bool.noConfusion h) ⟨rfl, rfl⟩
        | dict i => exact sj_ret (ej_and (x := false) (y := true) (ej_isi (T := "str") (r := false) m_isinstance m_str (ej_at (ds := .dict i :: r) (y := .dict i) (ej_dat (d := .tuple (.dict i :: r)) 0) (atI_head rfl))) fun h => Bool.noConfusion h) ⟨rfl, rfl⟩
        | str x =>
          rw [e]
          exact sj_ret (ej_and (x := true) (y := decide (x = wd)) (ej_isi (T := "str") (r := true) m_isinstance m_str (ej_at (ds := .str x :: r) (y := .str x) (ej_dat (d := .tuple (.str x :: r)) 0) (atI_head rfl))) fun _ => ej_one (ej_eqS (ej_at (ds := .str x :: r) (y := .str x) (ej_dat (d := .tuple (.str x :: r)) 0) (atI_head rfl)) (ej_dat 1))) ⟨by rw [Bool.true_and], rfl⟩
    · refine sj_when (x := true) (tj_w (wj_or (x := false) (y := true) (tj_is (tj_not (tj_val (ej_isi (T := "tuple") (r := true) m_isinstance m_tuple (ej_dat (d := .tuple ds) 0)))) rfl) fun _ => (wj_or1 (tj_is (tj_neI G.hu (ej_lenT m_len (ej_dat (d := .tuple ds) 0)) (ej_dat 2)) (by rw [decide_eq_false (fun z => c (by omega))]; rfl))))) (fun _ => sj_ret ej_bl ⟨?_, rfl⟩) (fun h => Bool.noConfusion h)
      cases ds with
      | nil => rfl
      | cons y r =>
        cases y with
        | str x =>
          show PyData.bool false = .bool (decide (r.length + 1 = n) && decide (x = wd))
          rw [decide_eq_false (show ¬ r.length + 1 = n from c)]; rfl
        | _ => rfl

abbrev s_reduced : Stmt := topS 7
theorem sc_reduced : FnScope ["n", "d", "ahead", "behind", "twos", "common"] ["n", "d"] (defScope s_reduced) := ⟨rfl, rfl, rfl, by decide +kernel, rfl, by decide +kernel, by decide +kernel⟩

theorem c_of_reduced (m_gcd : mg "gcd" = some (.builtin "math.gcd")) (m_min : mg "min" = none) (c_u_twos_in : Cal P w K mg base "_twos_in" 1 R_twos) (T : At K mg "reduced" s_reduced ["n", "d"]) : Cal P w K mg base "reduced" 3 R_reduced :=
  cal_at T sc_reduced (by rintro _ _ _ _ ⟨⟩; rfl) fun f cd0 A out s H E G Γ B r B' hR => by
  obtain ⟨n, d, B, hd, hb⟩ := hR
  refine sj_when (tj_eqI G.hu (ej_dat 0) ej_int) (fun h => ?_) (fun h => ?_)
  · have h0 : n = 0 := of_decide_eq_true h
    subst h0
    exact sj_ret (ej_tupD (ad_cons ej_int (ad_cons ej_int ad_nil)) (Nat.le_of_ble_eq_true rfl)) ⟨by rw [Rat.zero_divInt]; rfl, rfl⟩
  · have hn : n ≠ 0 := of_decide_eq_false h
    obtain ⟨i, a, rfl⟩ := tw_ex hn
    obtain ⟨j, b, rfl⟩ := tw_ex hd
    refine sj_par 2 3 G.nd G.calm (aj_cons (ej_call c_u_twos_in (G.le (by decide)) (aj_cons (ej_dat 0) aj_nil) (R_twos.mk i a B)) (aj_cons (ej_call c_u_twos_in (G.le (by decide)) (aj_cons (ej_dat 1) aj_nil) (R_twos.mk j b B)) aj_nil)) ?_ (by decide) (by rfl)
    obtain ⟨t, hi, hj, ht, em⟩ : ∃ t : Nat, t ≤ i ∧ t ≤ j ∧ (t = i ∨ t = j) ∧ min (i : Int) (j : Int) = (t : Int) := ⟨min i j, by omega, by omega, by omega, by omega⟩
    refine sj_set 4 G.nd (ej_is (ej_min G.calm m_min (ej_dat 2) (ej_dat 3)) (congrArg PyData.int em)) ?_
    refine sj_par 0 1 G.nd G.calm (aj_cons (ej_is (ej_shr (ej_dat 0) (ej_dat 4)) (congrArg PyData.int (tw_shr hi a))) (aj_cons (ej_is (ej_shr (ej_dat 1) (ej_dat 4)) (congrArg PyData.int (tw_shr hj b))) aj_nil)) ?_ (by decide) (by rfl)
    have ek : (j : Int) - (t : Int) = ((j - t : Nat) : Int) := by omega
    have e0 : tw (j - t) b / 2 ^ (j - t) = tw 0 b := by rw [tw_shr (Nat.le_refl _), Nat.sub_self]
    refine sj_set 5 G.nd (ej_gcd m_gcd (ej_dat 0) (ej_is (ej_shr (ej_dat 1) (ej_is (ej_sub (ej_dat 3) (ej_dat 4)) (congrArg PyData.int ek))) (congrArg PyData.int e0))) ?_
    have hd' : tw (j - t) b ≠ 0 := tw_ne _ _
    have eg : Nat.gcd (tw (i - t) a).natAbs (tw 0 b).natAbs = Nat.gcd (tw (i - t) a).natAbs (tw (j - t) b).natAbs := by
      refine (gcd_odd _ b ?_).symm
      rcases ht with rfl | rfl
      · left; rw [Nat.sub_self]; exact tw_odd a
      · right; exact Nat.sub_self _
    rw [eg, divInt_tw hi hj a b]
    have hb' : Bd 8900 (tw (j - t) b) := bd_tw hb (Nat.sub_le _ _)
    have cx : ∀ m, CDivX m (com (tw (i - t) a) (tw (j - t) b)) := fun m => cdx (com_bd hd' hb') (com_ne hd')
    refine sj_if (tj_lt (ej_dat 1) ej_int) (fun h => ?_) (fun h => ?_)
    · refine sj_set 5 G.nd (ej_neg (ej_dat 5)) (sj_nil ?_)
      have e : -((Nat.gcd (tw (i - t) a).natAbs (tw (j - t) b).natAbs : Nat) : Int) = com (tw (i - t) a) (tw (j - t) b) := (if_pos (of_decide_eq_true h)).symm
      rw [e]
      exact sj_ret (ej_tupD (ad_cons (ej_fdivX (ej_dat 0) (ej_dat 5) (cx _)) (ad_cons (ej_fdivX (ej_dat 1) (ej_dat 5) (cx _)) ad_nil)) (Nat.le_of_ble_eq_true rfl)) ⟨by rw [red_num hd', red_den hd']; rfl, rfl⟩
    · refine sj_nil ?_
      have e : ((Nat.gcd (tw (i - t) a).natAbs (tw (j - t) b).natAbs : Nat) : Int) = com (tw (i - t) a) (tw (j - t) b) := (if_neg (of_decide_eq_false h)).symm
      rw [e]
      exact sj_ret (ej_tupD (ad_cons (ej_fdivX (ej_dat 0) (ej_dat 5) (cx _)) (ad_cons (ej_fdivX (ej_dat 1) (ej_dat 5) (cx _)) ad_nil)) (Nat.le_of_ble_eq_true rfl)) ⟨by rw [red_num hd', red_den hd']; rfl, rfl⟩

abbrev s_added : Stmt := topS 8
theorem sc_added : FnScope ["one", "other", "common", "left", "right", "n", "rest"] ["one", "other"] (defScope s_added) := ⟨rfl, rfl, rfl, by decide +kernel, rfl, by decide +kernel, by decide +kernel⟩

theorem c_of_added (m_gcd : mg "gcd" = some (.builtin "math.gcd")) (c_reduced : Cal P w K mg base "reduced" 3 R_reduced) (T : At K mg "added" s_added ["one", "other"]) : Cal P w K mg base "added" 4 (R_two (· + ·)) :=
  cal_at T sc_added (by rintro _ _ _ _ ⟨⟩; rfl) fun f cd0 A out s H E G Γ B r B' hR => by
  obtain ⟨n, d, m, c, x, y, B, hx, hy, h1, h2, h3⟩ := hR
  obtain ⟨gp, bg, bl, br, el, er, fin⟩ := add_by x y hx hy
  refine sj_set 2 G.nd (ej_gcd m_gcd (ej_at (ej_dat (d := fq x) 0)) (ej_at (ej_dat (d := fq y) 1))) ?_
  refine sj_par 3 4 G.nd G.calm (aj_cons (ej_is (ej_fdiv (ej_at (ej_dat (d := fq x) 0)) (ej_dat 2) (cdv bg gp (by omega))) (congrArg PyData.int el)) (aj_cons (ej_is (ej_fdiv (ej_at (ej_dat (d := fq y) 1)) (ej_dat 2) (cdv bg gp (by omega))) (congrArg PyData.int er)) aj_nil)) ?_ (by decide) (by rfl)
  refine sj_unpack [5, 6] G.calm (ej_call c_reduced (G.le (by decide)) (aj_cons (ej_add (ej_mul (ej_at (ej_dat (d := fq x) 0)) (ej_dat 4) (cmz hx.nu br)) (ej_mul (ej_at (ej_dat (d := fq y) 1)) (ej_dat 3) (cmz hy.nu bl))) (aj_cons (ej_dat 2) aj_nil)) (R_reduced.mk _ _ _ (Int.ne_of_gt gp) (bg.le (by omega)))) (pgs_cons (pg_name (i := 5) G.nd rfl (Or.inl rfl)) (pgs_cons (pg_name (i := 6) G.nd rfl (Or.inl rfl)) pgs_nil)) rfl ?_
  have b3 := (divInt_bd (n := x.num * ((addR x y : Nat) : Int) + y.num * ((addL x y : Nat) : Int)) (Int.ne_of_gt gp) (Bd.add (hx.nu.mul br) (hy.nu.mul bl)) bg).2
  exact sj_ret (ej_tupD (ad_cons (ej_dat 5) (ad_cons (ej_mul (ej_mul (ej_dat 3) (ej_dat 4) (cmz bl br)) (ej_dat 6) (cmz (bl.mul br) b3)) ad_nil)) (Nat.le_of_ble_eq_true rfl)) ⟨fin, rfl⟩

abbrev s_lessened : Stmt := topS 9
theorem sc_lessened : FnScope ["one", "other"] ["one", "other"] (defScope s_lessened) := ⟨rfl, rfl, rfl, by decide +kernel, rfl, by decide +kernel, by decide +kernel⟩

theorem c_of_lessened (c_added : Cal P w K mg base "added" 4 (R_two (· + ·))) (T : At K mg "lessened" s_lessened ["one", "other"]) : Cal P w K mg base "lessened" 5 (R_two (· - ·)) :=
  cal_at T sc_lessened (by rintro _ _ _ _ ⟨⟩; rfl) fun f cd0 A out s H E G Γ B r B' hR => by
  obtain ⟨n, d, m, c, x, y, B, hx, hy, h1, h2, h3⟩ := hR
  have e : (.tuple [.int (-y.num), .int (y.den : Int)] : PyData) = fq (-y) := by unfold fq; rw [Rat.neg_num, Rat.neg_den]
  exact sj_ret (ej_call c_added (G.le (by decide)) (aj_cons (ej_dat 0) (aj_cons (ej_is (ej_tupD (ad_cons (ej_neg (ej_at (ej_dat (d := fq y) 1))) (ad_cons (ej_at (ej_dat (d := fq y) 1)) ad_nil)) (Nat.le_of_ble_eq_true rfl)) e) aj_nil)) (R_two.mk n d m c x (-y) B hx hy.neg h1 h2 h3)) ⟨by show fq _ = fq _; rw [Rat.sub_eq_add_neg], rfl⟩

abbrev s_times : Stmt := topS 10
theorem sc_times : FnScope ["one", "other", "first", "right", "second", "left"] ["one", "other"] (defScope s_times) := ⟨rfl, rfl, rfl, by decide +kernel, rfl, by decide +kernel, by decide +kernel⟩

theorem c_of_times (c_reduced : Cal P w K mg base "reduced" 3 R_reduced) (T : At K mg "times" s_times ["one", "other"]) : Cal P w K mg base "times" 4 (R_two (· * ·)) :=
  cal_at T sc_times (by rintro _ _ _ _ ⟨⟩; rfl) fun f cd0 A out s H E G Γ B r B' hR => by
  obtain ⟨n, d, m, c, x, y, B, hx, hy, h1, h2, h3⟩ := hR
  obtain ⟨b1, b2⟩ := divInt_bd (den_ne y) hx.nu hy.de
  obtain ⟨b3, b4⟩ := divInt_bd (den_ne x) hy.nu hx.de
  refine sj_unpack [2, 3] (ds := [.int (x.num /. (y.den : Int)).num, .int ((x.num /. (y.den : Int)).den : Int)]) G.calm (ej_call c_reduced (G.le (by decide)) (aj_cons (ej_at (ej_dat (d := fq x) 0)) (aj_cons (ej_at (ej_dat (d := fq y) 1)) aj_nil)) (R_reduced.mk _ _ _ (den_ne y) (hy.de.le (by omega)))) (pgs_cons (pg_name (i := 2) G.nd rfl (Or.inl rfl)) (pgs_cons (pg_name (i := 3) G.nd rfl (Or.inl rfl)) pgs_nil)) rfl ?_
  refine sj_unpack [4, 5] (ds := [.int (y.num /. (x.den : Int)).num, .int ((y.num /. (x.den : Int)).den : Int)]) G.calm (ej_call c_reduced (G.le (by decide)) (aj_cons (ej_at (ej_dat (d := fq y) 1)) (aj_cons (ej_at (ej_dat (d := fq x) 0)) aj_nil)) (R_reduced.mk _ _ _ (den_ne x) (hx.de.le (by omega)))) (pgs_cons (pg_name (i := 4) G.nd rfl (Or.inl rfl)) (pgs_cons (pg_name (i := 5) G.nd rfl (Or.inl rfl)) pgs_nil)) rfl ?_
  exact sj_ret (ej_tupD (ad_cons (ej_mul (ej_dat 2) (ej_dat 4) (cmz b1 b3)) (ad_cons (ej_mul (ej_dat 5) (ej_dat 3) (cmz b4 b2)) ad_nil)) (Nat.le_of_ble_eq_true rfl)) ⟨mul_by x y, rfl⟩

abbrev s_size_of : Stmt := topS 11
theorem sc_size_of : FnScope ["one"] ["one"] (defScope s_size_of) := ⟨rfl, rfl, rfl, by decide +kernel, rfl, by decide +kernel, by decide +kernel⟩

theorem c_of_size_of (m_abs : mg "abs" = none) (T : At K mg "size_of" s_size_of ["one"]) : Cal P w K mg base "size_of" 4 (R_one fun x => fq (absQ x)) :=
  cal_at T sc_size_of (by rintro _ _ _ _ ⟨⟩; rfl) fun f cd0 A out s H E G Γ B r B' hR => by
  obtain ⟨x, B⟩ := hR
  refine sj_ret (ej_tupD (ad_cons (ej_abs m_abs (ej_at (ej_dat 0))) (ad_cons (ej_at (ej_dat 0)) ad_nil)) (Nat.le_of_ble_eq_true rfl)) ⟨?_, rfl⟩
  unfold fq
  rw [(absQ_num x).1, (absQ_num x).2]

abbrev s_power_of : Stmt := topS 12
theorem sc_power_of : FnScope ["base", "e"] ["base", "e"] (defScope s_power_of) := ⟨rfl, rfl, rfl, by decide +kernel, rfl, by decide +kernel, by decide +kernel⟩

theorem c_of_power_of (c_integer_power : Cal P w K mg base "integer_power" 4 R_pow) (T : At K mg "power_of" s_power_of ["base", "e"]) : Cal P w K mg base "power_of" 5 R_power_of :=
  cal_at T sc_power_of (by rintro _ _ _ _ ⟨⟩; rfl) fun f cd0 A out s H E G Γ B r B' hR => by
  obtain ⟨b, e, B, h0, hb, h1, h2⟩ := hR
  refine sj_when (tj_lt (ej_dat 1) ej_int) (fun h => ?_) (fun h => ?_)
  · have he : e < 0 := of_decide_eq_true h
    have hn : -e = ((-e).toNat : Int) := by omega
    refine sj_ret (ej_tupD (ad_cons ej_int (ad_cons (ej_call c_integer_power (G.le (by decide)) (aj_cons (ej_dat 0) (aj_cons (ej_is (ej_neg (ej_dat 1)) (congrArg PyData.int hn)) aj_nil)) (R_pow.mk b (-e).toNat B hb (by omega))) ad_nil)) (Nat.le_of_ble_eq_true rfl)) ⟨?_, rfl⟩
    unfold pw
    rw [if_pos he, fq_inv (Nat.pow_pos h0)]
  · have he : ¬ e < 0 := of_decide_eq_false h
    have hn : e = (e.toNat : Int) := by omega
    refine sj_ret (ej_tupD (ad_cons (ej_call c_integer_power (G.le (by decide)) (aj_cons (ej_dat 0) (aj_cons (ej_is (ej_dat 1) (congrArg PyData.int hn)) aj_nil)) (R_pow.mk b e.toNat B hb (by omega))) (ad_cons ej_int ad_nil)) (Nat.le_of_ble_eq_true rfl)) ⟨?_, rfl⟩
    unfold pw
    rw [if_neg he, fq_nat]


abbrev s_sign_of_fraction : Stmt := topS 13
theorem sc_sign_of_fraction : FnScope ["one"] ["one"] (defScope s_sign_of_fraction) := ⟨rfl, rfl, rfl, by decide +kernel, rfl, by decide +kernel, by decide +kernel⟩

theorem c_of_sign_of_fraction (T : At K mg "sign_of_fraction" s_sign_of_fraction ["one"]) : Cal P w K mg base "sign_of_fraction" 4 (R_one fun x => .int (sgn x)) :=
  cal_at T sc_sign_of_fraction (by rintro _ _ _ _ ⟨⟩; rfl) fun f cd0 A out s H E G Γ B r B' hR => by
  obtain ⟨x, B⟩ := hR
  refine sj_ret (ej_ifI (tj_lt (ej_at (ej_dat 0)) ej_int) (fun _ => ej_int) fun _ => ej_int) ⟨?_, rfl⟩
  unfold sgn
  by_cases h : x.num < 0
  · rw [if_pos h, decide_eq_true h]; rfl
  · rw [if_neg h, decide_eq_false h]; rfl

abbrev s_part_of : Stmt := topS 14
theorem sc_part_of : FnScope ["left", "whole"] ["left", "whole"] (defScope s_part_of) := ⟨rfl, rfl, rfl, by decide +kernel, rfl, by decide +kernel, by decide +kernel⟩

theorem c_of_part_of (T : At K mg "part_of" s_part_of ["left", "whole"]) : Cal P w K mg base "part_of" 4 R_part :=
  cal_at T sc_part_of (by rintro _ _ _ _ ⟨⟩; rfl) fun f cd0 A out s H E G Γ B r B' hR => by
  obtain ⟨l, m, B, n, hl, hn⟩ := hR
  have cm2 : CMulW 2 l := cm (n := 2) (by unfold Bd; decide) hl (by omega)
  refine sj_when (tj_eqI G.hu (ej_dat 0) ej_int) (fun h => ?_) (fun h => ?_)
  · exact sj_ret ej_int ⟨by unfold pt; rw [if_pos (of_decide_eq_true h)], rfl⟩
  · refine sj_when (tj_lt (ej_mul ej_int (ej_dat 0) cm2) (ej_dat 1)) (fun h2 => ?_) (fun h2 => ?_)
    · exact sj_ret ej_int ⟨by unfold pt; rw [if_neg (of_decide_eq_false h), if_pos (of_decide_eq_true h2)], rfl⟩
    · refine sj_ret (ej_ifI (tj_eqI G.hu (ej_mul ej_int (ej_dat 0) cm2) (ej_dat 1)) (fun _ => ej_int) fun _ => ej_int) ⟨?_, rfl⟩
      unfold pt
      rw [if_neg (of_decide_eq_false h), if_neg (of_decide_eq_false h2)]
      by_cases h3 : 2 * l = m
      · rw [if_pos h3, decide_eq_true h3]; rfl
      · rw [if_neg h3, decide_eq_false h3]; rfl

abbrev s_is_taken_outward : Stmt := topS 15
theorem sc_is_taken_outward : FnScope ["way", "s", "c", "part"] ["way", "s", "c", "part"] (defScope s_is_taken_outward) := ⟨rfl, rfl, rfl, by decide +kernel, rfl, by decide +kernel, by decide +kernel⟩

theorem c_of_is_taken_outward (T : At K mg "is_taken_outward" s_is_taken_outward ["way", "s", "c", "part"]) : Cal P w K mg base "is_taken_outward" 4 R_outw :=
  cal_at T sc_is_taken_outward (by rintro _ _ _ _ ⟨⟩; rfl) fun f cd0 A out s H E G Γ B r B' hR => by
  obtain ⟨way, s, c, part, B⟩ := hR
  refine sj_when (tj_w (wj_or (tj_eqI G.hu (ej_dat 3) ej_int) fun _ => (wj_or1 (tj_eqS (ej_dat 0) ej_str)))) (fun h => ?_) (fun h => ?_)
  · have h : part = 0 ∨ way = "zero" := by simpa using h
    exact sj_ret ej_bl ⟨by unfold outw; rw [if_pos h], rfl⟩
  · have h : ¬ (part = 0 ∨ way = "zero") := by simpa using h
    unfold outw
    rw [if_neg h]
    refine sj_when (tj_eqS (ej_dat 0) ej_str) (fun h => ?_) (fun h => ?_)
    · exact sj_ret (ej_eqI G.hu (ej_dat 1) ej_int) ⟨by rw [if_pos (of_decide_eq_true h)], rfl⟩
    · rw [if_neg (of_decide_eq_false h)]
      refine sj_when (tj_eqS (ej_dat 0) ej_str) (fun h => ?_) (fun h => ?_)
      · exact sj_ret (ej_eqI G.hu (ej_dat 1) ej_int) ⟨by rw [if_pos (of_decide_eq_true h)], rfl⟩
      · rw [if_neg (of_decide_eq_false h)]
        refine sj_when (tj_eqI G.hu (ej_dat 3) ej_int) (fun h => ?_) (fun h => ?_)
        · exact sj_ret (ej_or (ej_eqS (ej_dat 0) ej_str) fun _ => (ej_one (ej_eqI G.hu (ej_mod (ej_dat 2) ej_int (by decide)) ej_int))) ⟨by rw [if_pos (of_decide_eq_true h)], rfl⟩
        · exact sj_ret (ej_eqI G.hu (ej_dat 3) ej_int) ⟨by rw [if_neg (of_decide_eq_false h)], rfl⟩

abbrev s_power_below : Stmt := topS 16
theorem sc_power_below : FnScope ["base", "one", "n", "d"] ["base", "one"] (defScope s_power_below) := ⟨rfl, rfl, rfl, by decide +kernel, rfl, by decide +kernel, by decide +kernel⟩

theorem c_of_power_below (c_u_power_within : Cal P w K mg base "_power_within" 4 R_within) (T : At K mg "power_below" s_power_below ["base", "one"]) : Cal P w K mg base "power_below" 5 R_pbelow :=
  cal_at T sc_power_below (by rintro _ _ _ _ ⟨⟩; rfl) fun f cd0 A out s H E G Γ B r B' hR => by
  obtain ⟨b, q, k, n, d, B, h2, h0, hq, hn, hd, h1, h3⟩ := hR
  have hn0 : 0 < q.num := by
    have : 0 ≤ q.num := Rat.num_nonneg.mpr (Rat.le_of_lt h0)
    have : q.num ≠ 0 := fun z => absurd h0 (by rw [Rat.num_eq_zero.mp z]; decide)
    omega
  have hd0 := den_pos q
  have eN : q.num = (q.num.toNat : Int) := by omega
  refine sj_unpack [2, 3] G.calm (ej_dat (d := .tuple [.int q.num, .int (q.den : Int)]) 1) (pgs_cons (pg_name (i := 2) G.nd rfl (Or.inl rfl)) (pgs_cons (pg_name (i := 3) G.nd rfl (Or.inl rfl)) pgs_nil)) rfl ?_
  refine sj_when (tj_ge (ej_dat 2) (ej_dat 3)) (fun h => ?_) (fun h => ?_)
  · have hge : (q.den : Int) ≤ q.num := of_decide_eq_true h
    have hk : 0 ≤ k := by
      refine Decidable.byContradiction fun hk => ?_
      have h4 : pw b (k + 1) ≤ pw b 0 := pw_mono h2 (by omega)
      rw [show (0 : Int) = ((0 : Nat) : Int) - (0 : Nat) by omega] at h4
      have := (lt_pw_iff h2 q 0 0).mp (ltle h3 h4)
      rw [Nat.pow_zero] at this; omega
    have ek : k = (k.toNat : Int) := by omega
    have a1 := (pw_le_iff h2 q 0 k.toNat).mp (by rw [show ((k.toNat : Nat) : Int) - (0 : Nat) = k by omega]; exact h1)
    have a3 := (lt_pw_iff h2 q 0 (k.toNat + 1)).mp (by rw [show ((k.toNat + 1 : Nat) : Int) - (0 : Nat) = k + 1 by omega]; exact h3)
    rw [Nat.pow_zero, eN] at a1 a3
    have b1 : q.den * b ^ k.toNat ≤ q.num.toNat := by
      have : ((q.den * b ^ k.toNat : Nat) : Int) ≤ (q.num.toNat : Int) := by rw [Int.natCast_mul]; omega
      omega
    have b3 : q.num.toNat < q.den * b ^ (k.toNat + 1) := by
      have : (q.num.toNat : Int) < ((q.den * b ^ (k.toNat + 1) : Nat) : Int) := by rw [Int.natCast_mul]; omega
      omega
    have hq2 := hq.nu
    have hw : q.num.toNat / q.den < 2 ^ 8900 := by
      unfold Bd at hq2
      have : 2 ^ n ≤ 2 ^ 8900 := Nat.pow_le_pow_right (by decide) hn
      exact Nat.lt_of_le_of_lt (Nat.div_le_self _ _) (by omega)
    have ew : q.num / (q.den : Int) = ((q.num.toNat / q.den : Nat) : Int) := by rw [Int.natCast_ediv, ← eN]
    rw [ek]
    refine sj_ret (ej_call c_u_power_within (G.le (by decide)) (aj_cons (ej_dat 0) (aj_cons (ej_is (ej_fdiv (ej_dat 2) (ej_dat 3) (cdv hq.de hd0 (by omega))) (congrArg PyData.int ew)) aj_nil)) (R_within.mk b _ k.toNat B h2 hw ?_ ?_)) ⟨rfl, rfl⟩
    · exact (Nat.le_div_iff_mul_le q.den_pos).mpr (by rw [Nat.mul_comm]; exact b1)
    · exact (Nat.div_lt_iff_lt_mul q.den_pos).mpr (by rw [Nat.mul_comm]; exact b3)
  · have hlt : q.num < (q.den : Int) := by have := of_decide_eq_false h; omega
    have hk : k < 0 := by
      refine Decidable.byContradiction fun hk => ?_
      have h4 : pw b 0 ≤ pw b k := pw_mono h2 (by omega)
      rw [show (0 : Int) = ((0 : Nat) : Int) - (0 : Nat) by omega] at h4
      have := (pw_le_iff h2 q 0 0).mp (Rat.le_trans h4 h1)
      rw [Nat.pow_zero] at this; omega
    generalize hm : (-1 - k).toNat = m
    have ek : k = -1 - (m : Int) := by omega
    have a1 := (pw_le_iff h2 q (m + 1) 0).mp (by rw [show ((0 : Nat) : Int) - (m + 1 : Nat) = k by omega]; exact h1)
    have a3 := (lt_pw_iff h2 q m 0).mp (by rw [show ((0 : Nat) : Int) - (m : Nat) = k + 1 by omega]; exact h3)
    rw [Nat.pow_zero, eN] at a1 a3
    have b1 : q.den ≤ q.num.toNat * b ^ (m + 1) := by
      have : (q.den : Int) ≤ ((q.num.toNat * b ^ (m + 1) : Nat) : Int) := by rw [Int.natCast_mul]; omega
      omega
    have b3 : q.num.toNat * b ^ m < q.den := by
      have : ((q.num.toNat * b ^ m : Nat) : Int) < (q.den : Int) := by rw [Int.natCast_mul]; omega
      omega
    have hq2 := hq.de
    have hn1 : 0 < q.num.toNat := by omega
    have hw : (q.den - 1) / q.num.toNat < 2 ^ 8900 := by
      unfold Bd at hq2
      rw [Int.natAbs_natCast] at hq2
      have : 2 ^ d ≤ 2 ^ 8900 := Nat.pow_le_pow_right (by decide) hd
      exact Nat.lt_of_le_of_lt (Nat.div_le_self _ _) (by omega)
    have ew : ((q.den : Int) - 1) / q.num = (((q.den - 1) / q.num.toNat : Nat) : Int) := by
      rw [Int.natCast_ediv, ← eN]; congr 1; have := q.den_pos; omega
    rw [ek]
    refine sj_ret (ej_sub (ej_neg ej_int) (ej_call c_u_power_within (G.le (by decide)) (aj_cons (ej_dat 0) (aj_cons (ej_is (ej_fdiv (ej_sub (ej_dat 3) ej_int) (ej_dat 2) (cdv hq.nu hn0 (by omega))) (congrArg PyData.int ew)) aj_nil)) (R_within.mk b _ m B h2 hw ?_ ?_))) ⟨rfl, rfl⟩
    · exact (Nat.le_div_iff_mul_le hn1).mpr (by rw [Nat.mul_comm]; omega)
    · exact (Nat.div_lt_iff_lt_mul hn1).mpr (by rw [Nat.mul_comm]; omega)

abbrev s_u_power_within : Stmt := topS 17
theorem sc_u_power_within : FnScope ["base", "whole", "squares", "power", "k", "left", "square"] ["base", "whole"] (defScope s_u_power_within) := ⟨rfl, rfl, rfl, by decide +kernel, rfl, by decide +kernel, by decide +kernel⟩

theorem c_of_u_power_within (m_rev : mg "reversed" = none) (T : At K mg "_power_within" s_u_power_within ["base", "whole"]) : Cal P w K mg base "_power_within" 4 R_within :=
  cal_at T sc_u_power_within (by rintro _ _ _ _ ⟨⟩; rfl) fun f cd0 A out s H E G Γ B r B' hR => by
  obtain ⟨b, wh, k0, B, h2, hw, h1, h3⟩ := hR
  refine sj_own 2 G.nd (fj_lstD ad_nil (by decide)) (by exact Nat.le_of_ble_eq_true rfl) ?_
  refine ow_set 3 G.nd (by decide) (ej_dat 0) ?_
  refine ow_while (fun Γ' B' acc => ∃ j : Nat, Γ' = [.da (.int b), .da (.int wh), .no, .da (.int ((b ^ 2 ^ j : Nat) : Int)), .no, .no, .no] ∧ B' = B ∧ acc = sqs b j ∧ ∀ i, i < j → b ^ 2 ^ i ≤ wh) (fun Γ' _ _ => (wh + 1 : Nat) - (intAt Γ' 3).toNat)
    ⟨0, by rw [Nat.pow_zero, Nat.pow_one]; rfl, rfl, rfl, fun i hi => absurd hi (by omega)⟩ ?_
  rintro Γ' B' acc ⟨j, rfl, rfl, rfl, hj⟩
  have hj14 := few_sq h2 hw hj
  refine ⟨_, tj_le (ej_dat 3) (ej_dat 1), fun h => ?_, fun h => ?_⟩
  · have hle : b ^ 2 ^ j ≤ wh := by have := of_decide_eq_true h; omega
    have hbd : Bd 8900 ((b ^ 2 ^ j : Nat) : Int) := Bd.nat (Nat.lt_of_le_of_lt hle hw)
    refine ow_app G.nd (ej_dat 3) (by rw [sqs_len]; omega) ?_
    refine ow_set 3 G.nd (by decide) (ej_mul (ej_dat 3) (ej_dat 3) (cmz hbd hbd)) (ow_nil ⟨⟨j + 1, ?_, rfl, sqs_succ b j, fun i hi => ?_⟩, ?_⟩)
    · rw [sq_next]; rfl
    · by_cases e : i = j
      · subst e; exact hle
      · exact hj i (by omega)
    · show (wh + 1 : Nat) - (((b ^ 2 ^ j : Nat) : Int) * ((b ^ 2 ^ j : Nat) : Int)).toNat < (wh + 1 : Nat) - (((b ^ 2 ^ j : Nat) : Int)).toNat
      rw [sq_next, Int.toNat_natCast, Int.toNat_natCast]
      have : b ^ 2 ^ j < b ^ 2 ^ (j + 1) := Nat.pow_lt_pow_right (by omega) (Nat.pow_lt_pow_right (by decide) (by omega))
      omega
  · have hgt : wh < b ^ 2 ^ j := by have := of_decide_eq_false h; omega
    have w1 : 1 ≤ wh := Nat.le_trans (Nat.pow_pos (by omega)) h1
    refine ow_end ?_
    refine sj_par 4 5 G.nd G.calm (aj_cons ej_int (aj_cons (ej_dat 1) aj_nil)) ?_ (by decide) (by rfl)
    refine sj_forRev (ds := sqs b j) 6 G.nd G.calm m_rev (fun i Γ' B2 => ∃ (k l : Nat) (z : VD), Γ' = [.da (.int b), .da (.int wh), .da (.list (sqs b j)), .da (.int ((b ^ 2 ^ j : Nat) : Int)), .da (.int k), .da (.int l), z] ∧ B2 = B' ∧
      l = wh / b ^ (k * 2 ^ (j - i)) ∧ l < b ^ 2 ^ (j - i) ∧ 1 ≤ l) (ej_dat 2) ⟨0, wh, .no, rfl, rfl, by rw [Nat.zero_mul, Nat.pow_zero, Nat.div_one], hgt, w1⟩ (fun i y Γ' B2 hi hy hP => ?_) (fun Γ' B2 hP => ?_)
    · obtain ⟨k, l, z, rfl, rfl, e1, e2, e3⟩ := hP
      rw [sqs_len] at hi hy
      obtain rfl := sqs_at hy
      have em : j - i = (j - 1 - i) + 1 := by omega
      have em' : j - (i + 1) = j - 1 - i := by omega
      rw [em] at e1 e2
      have hbs : Bd 8900 ((b ^ 2 ^ (j - 1 - i) : Nat) : Int) := Bd.nat (Nat.lt_of_le_of_lt (hj _ (by omega)) hw)
      have hps : 0 < b ^ 2 ^ (j - 1 - i) := Nat.pow_pos (by omega)
      refine sj_set 4 G.nd (ej_mulC ej_int (ej_dat 4) (.inl (by decide))) ?_
      refine sj_ifM (fun Γ3 B3 => ∃ (k l : Nat) (z : VD), Γ3 = [.da (.int b), .da (.int wh), .da (.list (sqs b j)), .da (.int ((b ^ 2 ^ j : Nat) : Int)), .da (.int k), .da (.int l), z] ∧ B3 = B2 ∧
        l = wh / b ^ (k * 2 ^ (j - (i + 1))) ∧ l < b ^ 2 ^ (j - (i + 1)) ∧ 1 ≤ l) (tj_le (ej_dat 6) (ej_dat 5)) (fun h => ?_) (fun h => ?_) (fun Γ3 B3 q => sj_nil q)
      · have hs : b ^ 2 ^ (j - 1 - i) ≤ l := by have := of_decide_eq_true h; omega
        obtain ⟨q1, q2, q3⟩ := step_yes h2 e1 e2 e3 hs
        refine sj_set 4 G.nd (ej_add (ej_dat 4) ej_int) ?_
        refine sj_set 5 G.nd (ej_fdiv (ej_dat 5) (ej_dat 6) (cdv hbs (by omega))) (sj_nil ?_)
        rw [em']
        exact ⟨2 * k + 1, l / b ^ 2 ^ (j - 1 - i), _, by rw [← Int.natCast_ediv]; rfl, rfl, q1, q2, q3⟩
      · have hs : ¬ b ^ 2 ^ (j - 1 - i) ≤ l := by have := of_decide_eq_false h; omega
        obtain ⟨q1, q2⟩ := step_no (k := k) e1 hs
        refine sj_nil ?_
        rw [em']
        exact ⟨2 * k, l, _, rfl, rfl, q1, q2, e3⟩
    · obtain ⟨k, l, z, rfl, rfl, e1, e2, e3⟩ := hP
      rw [sqs_len, Nat.sub_self] at e1 e2
      obtain ⟨q1, q2⟩ := log_end h2 e1 e2 e3
      obtain rfl := pow_uniq h2 q1 q2 h1 h3
      exact sj_ret (ej_dat 4) ⟨rfl, rfl⟩

abbrev s_u_twos_in : Stmt := topS 18
theorem sc_u_twos_in : FnScope ["n"] ["n"] (defScope s_u_twos_in) := ⟨rfl, rfl, rfl, by decide +kernel, rfl, by decide +kernel, by decide +kernel⟩

theorem c_of_u_twos_in (T : At K mg "_twos_in" s_u_twos_in ["n"]) : Cal P w K mg base "_twos_in" 1 R_twos :=
  cal_at T sc_u_twos_in (by rintro _ _ _ _ ⟨⟩; rfl) fun f cd0 A out s H E G Γ B r B' hR => by
  obtain ⟨k, a, B⟩ := hR
  exact sj_ret (ej_sub (ej_bits (ej_band (ej_dat 0) (ej_neg (ej_dat 0)))) ej_int) ⟨by rw [tw_low, bits_two], rfl⟩

abbrev s_worth : Stmt := topS 20
theorem sc_worth : FnScope ["form", "number", "_", "s", "c", "e"] ["form", "number"] (defScope s_worth) := ⟨rfl, rfl, rfl, by decide +kernel, rfl, by decide +kernel, by decide +kernel⟩

theorem c_of_worth (c_times : Cal P w K mg base "times" 4 (R_two (· * ·))) (c_power_of : Cal P w K mg base "power_of" 5 R_power_of) (T : At K mg "worth" s_worth ["form", "number"]) : Cal P w K mg base "worth" 6 R_worth :=
  cal_at T sc_worth (by rintro _ _ _ _ ⟨⟩; rfl) fun f cd0 A out s H E G Γ B r B' hR => by
  obtain ⟨b, p, low, high, s, c, e, B, F, hv⟩ := hR
  obtain ⟨h1, h3, h4, h5, h6⟩ := hv
  have b2 := F.b2; have bp := F.bp; have lo := F.lo; have hi := F.hi
  refine sj_unpack [2, 3, 4, 5] G.calm (ej_dat (d := .tuple [.str "num", .int s, .int c, .int e]) 1) (pgs_cons (pg_name (i := 2) G.nd rfl (Or.inl rfl)) (pgs_cons (pg_name (i := 3) G.nd rfl (Or.inl rfl)) (pgs_cons (pg_name (i := 4) G.nd rfl (Or.inl rfl)) (pgs_cons (pg_name (i := 5) G.nd rfl (Or.inl rfl)) pgs_nil)))) rfl ?_
  have hc : Qz 700 1 (((if s = 1 then -c else c : Int)) : Rat) := by
    refine ⟨?_, by rw [Rat.den_intCast]; unfold Bd; decide⟩
    rw [Rat.num_intCast]; unfold Bd
    split <;> omega
  refine sj_ret (ej_call c_times (G.le (by decide)) (aj_cons (ej_is (y := fq ((if s = 1 then -c else c : Int) : Rat)) (ej_tupD (ad_cons (ej_if (d := .da (.int (if s = 1 then -c else c))) (tj_eqI G.hu (ej_dat 3) ej_int) (fun h => ?_) (fun h => ?_)) (ad_cons ej_int ad_nil)) (Nat.le_of_ble_eq_true rfl)) (fq_int _).symm)
    (aj_cons (ej_call c_power_of (G.le (by decide)) (aj_cons (ej_at (ej_dat (d := .tuple [.int b, .int p, .int low, .int high]) 0)) (aj_cons (ej_dat 5) aj_nil)) (R_power_of.mk b e B (by omega) F.b6 (by omega) (by omega))) aj_nil))
    (R_two.mk _ _ _ _ _ _ B hc (F.qz h5 h6) (by decide) (by decide) (by decide))) ⟨rfl, rfl⟩
  · rw [if_pos (of_decide_eq_true h)]; exact ej_neg (ej_dat 4)
  · rw [if_neg (of_decide_eq_false h)]; exact ej_dat 4

abbrev s_zero : Stmt := topS 21
theorem sc_zero : FnScope ["form", "s"] ["form", "s"] (defScope s_zero) := ⟨rfl, rfl, rfl, by decide +kernel, rfl, by decide +kernel, by decide +kernel⟩

theorem c_of_zero (T : At K mg "zero" s_zero ["form", "s"]) : Cal P w K mg base "zero" 4 R_zero :=
  cal_at T sc_zero (by rintro _ _ _ _ ⟨⟩; rfl) fun f cd0 A out s H E G Γ B r B' hR => by
  obtain ⟨b, p, low, high, s, B⟩ := hR
  exact sj_ret (ej_tupD (ad_cons ej_str (ad_cons (ej_dat 1) (ad_cons ej_int (ad_cons (ej_at (ej_dat (d := .tuple [.int b, .int p, .int low, .int high]) 0)) ad_nil)))) (Nat.le_of_ble_eq_true rfl)) ⟨rfl, rfl⟩

abbrev s_rounded : Stmt := topS 23
theorem sc_rounded : FnScope ["form", "way", "x", "s"] ["form", "way", "x", "s"] (defScope s_rounded) := ⟨rfl, rfl, rfl, by decide +kernel, rfl, by decide +kernel, by decide +kernel⟩

theorem c_of_rounded (c_zero : Cal P w K mg base "zero" 4 R_zero) (c_u_outcome : Cal P w K mg base "_outcome" 6 R_outcome) (c_sign_of_fraction : Cal P w K mg base "sign_of_fraction" 4 (R_one fun x => .int (sgn x))) (c_u_spot : Cal P w K mg base "_spot" 6 R_spot) (c_size_of : Cal P w K mg base "size_of" 4 (R_one fun x => fq (absQ x)))
    (T : At K mg "rounded" s_rounded ["form", "way", "x", "s"]) : Cal P w K mg base "rounded" 7 R_rounded :=
  cal_at T sc_rounded (by rintro _ _ _ _ ⟨⟩; rfl) fun f cd0 A out s H E G Γ B r B' hR => by
  obtain ⟨b, p, low, high, way, x, s, n, d, B, F, hw, hs, hx, hn, hd⟩ := hR
  refine sj_when (tj_eqI G.hu (ej_at (ej_dat (d := .tuple [.int x.num, .int (x.den : Int)]) 2)) ej_int) (fun h => ?_) (fun h => ?_)
  · have e : x = 0 := Rat.num_eq_zero.mp (of_decide_eq_true h)
    subst e
    rw [rdP_zero F.b2 F.lh]
    exact sj_ret (ej_tupD (ad_cons (ej_call c_zero (G.le (by decide)) (aj_cons (ej_dat 0) (aj_cons (ej_dat 3) aj_nil)) (R_zero.mk b p low high s B)) (ad_cons (ej_tupD ad_nil (Nat.le_of_ble_eq_true rfl)) ad_nil)) (Nat.le_of_ble_eq_true rfl)) ⟨rfl, rfl⟩
  · have e : x ≠ 0 := fun z => of_decide_eq_false h (Rat.num_eq_zero.mpr z)
    rw [rdP_pos e]
    exact sj_ret (ej_call c_u_outcome (G.le (by decide)) (aj_cons (ej_dat 0) (aj_cons (ej_dat 1) (aj_cons (ej_call c_sign_of_fraction (G.le (by decide)) (aj_cons (ej_dat 2) aj_nil) (R_one.mk x B))
      (aj_cons (ej_call c_u_spot (G.le (by decide)) (aj_cons (ej_dat 0) (aj_cons (ej_call c_size_of (G.le (by decide)) (aj_cons (ej_dat 2) aj_nil) (R_one.mk x B)) aj_nil)) (R_spot.mk b p low high (absQ x) n d B F (absQ_pos e) hx.abs hn hd)) aj_nil)))) (R_outcome.mk b p low high way (sgn x) _ _ _ B F)) ⟨rfl, rfl⟩

abbrev s_u_spot : Stmt := topS 24
theorem sc_u_spot : FnScope ["form", "unsigned", "base", "digits", "low", "_", "e", "up", "down", "whole", "c", "left"] ["form", "unsigned"] (defScope s_u_spot) := ⟨rfl, rfl, rfl, by decide +kernel, rfl, by decide +kernel, by decide +kernel⟩

theorem c_of_u_spot (m_max : mg "max" = none) (m_divmod : mg "divmod" = none) (c_power_below : Cal P w K mg base "power_below" 5 R_pbelow) (c_power_of : Cal P w K mg base "power_of" 5 R_power_of) (c_part_of : Cal P w K mg base "part_of" 4 R_part) (T : At K mg "_spot" s_u_spot ["form", "unsigned"]) : Cal P w K mg base "_spot" 6 R_spot :=
  cal_at T sc_u_spot (by rintro _ _ _ _ ⟨⟩; rfl) fun f cd0 A out s H E G Γ B r B' hR => by
  obtain ⟨b, p, low, high, q, n, d, B, F, h0, hq, hn, hd⟩ := hR
  have b2 := F.b2; have p2 := F.p2; have p7 := F.p7
  have hE := eQ_is (p := p) b2 low q
  have h0' := Rat.le_of_lt h0
  have he := F.e_hi hq h0' hE hn
  have hlo := hE.1
  have flo := F.lo
  refine sj_unpack [2, 3, 4, 5] G.calm (ej_dat (d := .tuple [.int b, .int p, .int low, .int high]) 0) (pgs_cons (pg_name (i := 2) G.nd rfl (Or.inl rfl)) (pgs_cons (pg_name (i := 3) G.nd rfl (Or.inl rfl)) (pgs_cons (pg_name (i := 4) G.nd rfl (Or.inl rfl)) (pgs_cons (pg_name (i := 5) G.nd rfl (Or.inl rfl)) pgs_nil)))) rfl ?_
  obtain ⟨k, k1, k3⟩ := log_ex b2 h0
  refine sj_set 6 G.nd (ej_is (y := .int (eQ b p low q)) (ej_max G.calm m_max (ej_dat 4) (ej_add (ej_sub (ej_call c_power_below (G.le (by decide)) (aj_cons (ej_dat 2) (aj_cons (ej_dat 1) aj_nil)) (R_pbelow.mk b q k n d B b2 h0 hq hn (by omega) k1 k3)) (ej_dat 3)) ej_int)) (congrArg PyData.int (e_of_log b2 k1 k3))) ?_
  generalize eQ b p low q = e at *
  have e1 : fq (pw b (-e)) = .tuple [.int ((b ^ (-e).toNat : Nat) : Int), .int ((b ^ e.toNat : Nat) : Int)] := by
    have := fq_pw b2 (-e)
    rw [Int.neg_neg] at this; exact this
  refine sj_unpack [7, 8] G.calm (ej_is (ej_call c_power_of (G.le (by decide)) (aj_cons (ej_dat 2) (aj_cons (ej_neg (ej_dat 6)) aj_nil)) (R_power_of.mk b (-e) B (by omega) F.b6 (by omega) (by omega))) e1) (pgs_cons (pg_name (i := 7) G.nd rfl (Or.inl rfl)) (pgs_cons (pg_name (i := 8) G.nd rfl (Or.inl rfl)) pgs_nil)) rfl ?_
  have hup : Bd 2340 ((b ^ (-e).toNat : Nat) : Int) := Bd.nat (F.pow_lo hlo)
  have hdn : Bd 9400 ((b ^ e.toNat : Nat) : Int) := by
    rcases F.e_bd hq h0' hE with ⟨z, _, _⟩ | z
    · have hd1 : 1 ≤ q.den := q.den_pos
      exact (Bd.nat (Nat.lt_of_le_of_lt (Nat.le_mul_of_pos_left _ hd1) z)).le (by omega)
    · have h1 : b ^ e.toNat < 2 ^ 2340 := by
        rcases z with z | z
        · have : e.toNat = 0 := by omega
          rw [this, Nat.pow_zero]; exact Nat.one_lt_two_pow (by decide)
        · rw [z]; exact F.pow_hi F.lh
      exact (Bd.nat h1).le (by decide)
  have hD := F.D_bd hq h0' hE hn hd
  have hDp := Dq_pos b2 e q
  refine sj_set 9 G.nd (ej_mul (ej_at (ej_dat (d := .tuple [.int q.num, .int (q.den : Int)]) 1)) (ej_dat 8) (cmz hq.de hdn)) ?_
  refine sj_unpack [10, 11] G.calm (ej_divmod m_divmod (ej_mul (ej_at (ej_dat (d := .tuple [.int q.num, .int (q.den : Int)]) 1)) (ej_dat 7) (cmz hq.nu hup)) (ej_dat (d := .int (Dq b e q)) 9) hDp (lg hD (by decide))) (pgs_cons (pg_name (i := 10) G.nd rfl (Or.inl rfl)) (pgs_cons (pg_name (i := 11) G.nd rfl (Or.inl rfl)) pgs_nil)) rfl ?_
  exact sj_ret (ej_tupD (ad_cons (ej_dat 6) (ad_cons (ej_dat (d := .int (cQ b e q)) 10) (ad_cons (ej_call c_part_of (G.le (by decide)) (aj_cons (ej_dat (d := .int (rQ b e q)) 11) (aj_cons (ej_dat (d := .int (Dq b e q)) 9) aj_nil)) (R_part.mk _ _ B 8900 (hD.mod hDp) (by decide))) ad_nil))) (Nat.le_of_ble_eq_true rfl)) ⟨rfl, rfl⟩

abbrev s_u_nearest : Stmt := topS 25
theorem sc_u_nearest : FnScope ["form", "way", "s", "spot", "base", "digits", "_", "e", "c", "part"] ["form", "way", "s", "spot"] (defScope s_u_nearest) := ⟨rfl, rfl, rfl, by decide +kernel, rfl, by decide +kernel, by decide +kernel⟩

theorem c_of_u_nearest (c_is_taken_outward : Cal P w K mg base "is_taken_outward" 4 R_outw) (c_integer_power : Cal P w K mg base "integer_power" 4 R_pow) (T : At K mg "_nearest" s_u_nearest ["form", "way", "s", "spot"]) : Cal P w K mg base "_nearest" 5 R_nearest :=
  cal_at T sc_u_nearest (by rintro _ _ _ _ ⟨⟩; rfl) fun f cd0 A out s H E G Γ B r B' hR => by
  obtain ⟨b, p, low, high, way, s, e, c, part, B, F⟩ := hR
  have b2 := F.b2; have p2 := F.p2; have p7 := F.p7
  refine sj_unpack [4, 5, 6, 6] G.calm (ej_dat (d := .tuple [.int b, .int p, .int low, .int high]) 0) (pgs_cons (pg_name (i := 4) G.nd rfl (Or.inl rfl)) (pgs_cons (pg_name (i := 5) G.nd rfl (Or.inl rfl)) (pgs_cons (pg_name (i := 6) G.nd rfl (Or.inl rfl)) (pgs_cons (pg_name (i := 6) G.nd rfl (Or.inl rfl)) pgs_nil)))) rfl ?_
  refine sj_unpack [7, 8, 9] G.calm (ej_dat (d := .tuple [.int e, .int c, .int part]) 3) (pgs_cons (pg_name (i := 7) G.nd rfl (Or.inl rfl)) (pgs_cons (pg_name (i := 8) G.nd rfl (Or.inl rfl)) (pgs_cons (pg_name (i := 9) G.nd rfl (Or.inl rfl)) pgs_nil))) rfl ?_
  refine sj_when (tj_not (tj_val (ej_call c_is_taken_outward (G.le (by decide)) (aj_cons (ej_dat 1) (aj_cons (ej_dat 2) (aj_cons (ej_dat 8) (aj_cons (ej_dat 9) aj_nil)))) (R_outw.mk way s c part B)))) (fun h => ?_) (fun h => ?_)
  · have ho : outw way s c part = false := by simpa using h
    rw [ho]
    exact sj_ret (ej_tupD (ad_cons ej_str (ad_cons (ej_dat 2) (ad_cons (ej_dat 8) (ad_cons (ej_dat 7) ad_nil)))) (Nat.le_of_ble_eq_true rfl)) ⟨rfl, rfl⟩
  · have ho : outw way s c part = true := by simpa using h
    rw [ho]
    unfold nb upN
    rw [if_pos rfl]
    refine sj_when (tj_eqI G.hu (ej_add (ej_dat 8) ej_int) (ej_call c_integer_power (G.le (by decide)) (aj_cons (ej_dat 4) (aj_cons (ej_dat 5) aj_nil)) (R_pow.mk b p B F.b6 (by omega)))) (fun h => ?_) (fun h => ?_)
    · rw [if_pos (of_decide_eq_true h)]
      have e1 : (p : Int) - 1 = ((p - 1 : Nat) : Int) := by omega
      exact sj_ret (ej_tupD (ad_cons ej_str (ad_cons (ej_dat 2) (ad_cons (ej_call c_integer_power (G.le (by decide)) (aj_cons (ej_dat 4) (aj_cons (ej_is (ej_sub (ej_dat 5) ej_int) (congrArg PyData.int e1)) aj_nil)) (R_pow.mk b (p - 1) B F.b6 (by omega))) (ad_cons (ej_add (ej_dat 7) ej_int) ad_nil)))) (Nat.le_of_ble_eq_true rfl)) ⟨rfl, rfl⟩
    · rw [if_neg (of_decide_eq_false h)]
      exact sj_ret (ej_tupD (ad_cons ej_str (ad_cons (ej_dat 2) (ad_cons (ej_add (ej_dat 8) ej_int) (ad_cons (ej_dat 7) ad_nil)))) (Nat.le_of_ble_eq_true rfl)) ⟨rfl, rfl⟩

abbrev s_u_outcome : Stmt := topS 26
theorem sc_u_outcome : FnScope ["form", "way", "s", "spot", "base", "digits", "_", "high", "number", "c", "part"] ["form", "way", "s", "spot"] (defScope s_u_outcome) := ⟨rfl, rfl, rfl, by decide +kernel, rfl, by decide +kernel, by decide +kernel⟩

theorem c_of_u_outcome (c_u_nearest : Cal P w K mg base "_nearest" 5 R_nearest) (c_u_too_great : Cal P w K mg base "_too_great" 5 R_toog) (c_integer_power : Cal P w K mg base "integer_power" 4 R_pow) (T : At K mg "_outcome" s_u_outcome ["form", "way", "s", "spot"]) : Cal P w K mg base "_outcome" 6 R_outcome :=
  cal_at T sc_u_outcome (by rintro _ _ _ _ ⟨⟩; rfl) fun f cd0 A out s H E G Γ B r B' hR => by
  obtain ⟨b, p, low, high, way, s, e, c, part, B, F⟩ := hR
  have b2 := F.b2; have p2 := F.p2; have p7 := F.p7
  refine sj_unpack [4, 5, 6, 7] G.calm (ej_dat (d := .tuple [.int b, .int p, .int low, .int high]) 0) (pgs_cons (pg_name (i := 4) G.nd rfl (Or.inl rfl)) (pgs_cons (pg_name (i := 5) G.nd rfl (Or.inl rfl)) (pgs_cons (pg_name (i := 6) G.nd rfl (Or.inl rfl)) (pgs_cons (pg_name (i := 7) G.nd rfl (Or.inl rfl)) pgs_nil)))) rfl ?_
  refine sj_set 8 G.nd (ej_call c_u_nearest (G.le (by decide)) (aj_cons (ej_dat 0) (aj_cons (ej_dat 1) (aj_cons (ej_dat 2) (aj_cons (ej_dat 3) aj_nil)))) (R_nearest.mk b p low high way s e c part B F)) ?_
  unfold outP
  generalize (nb b p (outw way s c part) c e).1 = c'
  generalize (nb b p (outw way s c part) c e).2 = e'
  refine sj_when (tj_gt (ej_at (ej_dat (d := .tuple [.str "num", .int s, .int c', .int e']) 8)) (ej_dat 7)) (fun h => ?_) (fun h => ?_)
  · rw [if_pos (of_decide_eq_true h)]
    exact sj_ret (ej_tupD (ad_cons (ej_call c_u_too_great (G.le (by decide)) (aj_cons (ej_dat 0) (aj_cons (ej_dat 1) (aj_cons (ej_dat 2) aj_nil))) (R_toog.mk b p low high way s B F)) (ad_cons (ej_tupD (ad_cons ej_str (ad_cons ej_str ad_nil)) (Nat.le_of_ble_eq_true rfl)) ad_nil)) (Nat.le_of_ble_eq_true rfl)) ⟨rfl, rfl⟩
  · rw [if_neg (of_decide_eq_false h)]
    refine sj_unpack [6, 9, 10] G.calm (ej_dat (d := .tuple [.int e, .int c, .int part]) 3) (pgs_cons (pg_name (i := 6) G.nd rfl (Or.inl rfl)) (pgs_cons (pg_name (i := 9) G.nd rfl (Or.inl rfl)) (pgs_cons (pg_name (i := 10) G.nd rfl (Or.inl rfl)) pgs_nil))) rfl ?_
    refine sj_when (tj_eqI G.hu (ej_dat 10) ej_int) (fun h => ?_) (fun h => ?_)
    · rw [if_pos (of_decide_eq_true h)]
      exact sj_ret (ej_tupD (ad_cons (ej_dat 8) (ad_cons (ej_tupD ad_nil (Nat.le_of_ble_eq_true rfl)) ad_nil)) (Nat.le_of_ble_eq_true rfl)) ⟨rfl, rfl⟩
    · rw [if_neg (of_decide_eq_false h)]
      have e1 : (p : Int) - 1 = ((p - 1 : Nat) : Int) := by omega
      refine sj_when (tj_lt (ej_dat 9) (ej_call c_integer_power (G.le (by decide)) (aj_cons (ej_dat 4) (aj_cons (ej_is (ej_sub (ej_dat 5) ej_int) (congrArg PyData.int e1)) aj_nil)) (R_pow.mk b (p - 1) B F.b6 (by omega)))) (fun h => ?_) (fun h => ?_)
      · rw [if_pos (of_decide_eq_true h)]
        exact sj_ret (ej_tupD (ad_cons (ej_dat 8) (ad_cons (ej_tupD (ad_cons ej_str (ad_cons ej_str ad_nil)) (Nat.le_of_ble_eq_true rfl)) ad_nil)) (Nat.le_of_ble_eq_true rfl)) ⟨rfl, rfl⟩
      · rw [if_neg (of_decide_eq_false h)]
        exact sj_ret (ej_tupD (ad_cons (ej_dat 8) (ad_cons (ej_tupD (ad_cons ej_str ad_nil) (Nat.le_of_ble_eq_true rfl)) ad_nil)) (Nat.le_of_ble_eq_true rfl)) ⟨rfl, rfl⟩

abbrev s_u_too_great : Stmt := topS 27
theorem sc_u_too_great : FnScope ["form", "way", "s", "base", "digits", "_", "high"] ["form", "way", "s"] (defScope s_u_too_great) := ⟨rfl, rfl, rfl, by decide +kernel, rfl, by decide +kernel, by decide +kernel⟩

theorem c_of_u_too_great (c_integer_power : Cal P w K mg base "integer_power" 4 R_pow) (T : At K mg "_too_great" s_u_too_great ["form", "way", "s"]) : Cal P w K mg base "_too_great" 5 R_toog :=
  cal_at T sc_u_too_great (by rintro _ _ _ _ ⟨⟩; rfl) fun f cd0 A out s H E G Γ B r B' hR => by
  obtain ⟨b, p, low, high, way, s, B, F⟩ := hR
  have b2 := F.b2; have p2 := F.p2; have p7 := F.p7
  refine sj_unpack [3, 4, 5, 6] G.calm (ej_dat (d := .tuple [.int b, .int p, .int low, .int high]) 0) (pgs_cons (pg_name (i := 3) G.nd rfl (Or.inl rfl)) (pgs_cons (pg_name (i := 4) G.nd rfl (Or.inl rfl)) (pgs_cons (pg_name (i := 5) G.nd rfl (Or.inl rfl)) (pgs_cons (pg_name (i := 6) G.nd rfl (Or.inl rfl)) pgs_nil)))) rfl ?_
  refine sj_when (x := isInf way s) (tj_is (tj_w (wj_or (tj_inT (ss := ["even", "away"]) (ej_dat 1) (ej_tupD (ad_cons ej_str (ad_cons ej_str ad_nil)) (Nat.le_of_ble_eq_true rfl))) fun _ => wj_or (tj_w (wj_and (tj_eqS (ej_dat 1) ej_str) fun _ => wj_and1 (tj_eqI G.hu (ej_dat 2) ej_int))) fun _ => wj_or1 (tj_w (wj_and (tj_eqS (ej_dat 1) ej_str) fun _ => wj_and1 (tj_eqI G.hu (ej_dat 2) ej_int))))) (isInf_or way s)) (fun h => ?_) (fun h => ?_)
  · exact sj_ret (ej_tupD (ad_cons ej_str (ad_cons (ej_dat 2) ad_nil)) (Nat.le_of_ble_eq_true rfl)) ⟨by unfold tooG; rw [if_pos h], rfl⟩
  · exact sj_ret (ej_tupD (ad_cons ej_str (ad_cons (ej_dat 2) (ad_cons (ej_sub (ej_call c_integer_power (G.le (by decide)) (aj_cons (ej_dat 3) (aj_cons (ej_dat 4) aj_nil)) (R_pow.mk b p B F.b6 (by omega))) ej_int) (ad_cons (ej_dat 6) ad_nil)))) (Nat.le_of_ble_eq_true rfl)) ⟨by unfold tooG; rw [if_neg (by rw [h]; decide)]; rfl, rfl⟩

abbrev s_is_inf : Stmt := topS 29
theorem sc_is_inf : FnScope ["value"] ["value"] (defScope s_is_inf) := ⟨rfl, rfl, rfl, by decide +kernel, rfl, by decide +kernel, by decide +kernel⟩

theorem c_of_is_inf (T : At K mg "is_inf" s_is_inf ["value"]) : Cal P w K mg base "is_inf" 4 (R_val (fun v => .bool v.isInf) (fun _ => True)) :=
  cal_at T sc_is_inf (by rintro _ _ _ _ ⟨⟩; rfl) fun f cd0 A out s H E G Γ B r B' hR => by
  obtain ⟨v, B, _⟩ := hR
  exact sj_ret (ej_eqS (ej_at (ej_dat (d := .tuple v.l) 0) v.at0) ej_str) ⟨by rw [tag_inf], rfl⟩

abbrev s_exact_sum : Stmt := topS 31
theorem sc_exact_sum : FnScope ["form", "numbers", "number"] ["form", "numbers"] (defScope s_exact_sum) := ⟨rfl, rfl, rfl, by decide +kernel, rfl, by decide +kernel, by decide +kernel⟩

theorem c_of_exact_sum (c_u_counted_sum : Cal P w K mg base "_counted_sum" 6 R_csum) (T : At K mg "exact_sum" s_exact_sum ["form", "numbers"]) : Cal P w K mg base "exact_sum" 7 R_exsum :=
  cal_at T sc_exact_sum (by rintro _ _ _ _ ⟨⟩; rfl) fun f cd0 A out s0 H E0 G Γ B r B' hR => by
  obtain ⟨b, p, low, high, vs, t, B, F, h, hn⟩ := hR
  have hl := h.1
  have ec : (.list (vs.map fun v => .tuple [v.d, .int 1]) : PyData) = cntD (ones vs) := by unfold cntD ones; rw [List.map_map]; rfl
  have turn : ∀ (i : Nat) (y z : PyData), (vs.map Va.d)[i]? = some y → (vs.map fun v => (.tuple [v.d, .int 1] : PyData))[i]? = some z → z = .tuple [y, .int 1] := by
    intro i y z hy hz
    rw [List.getElem?_map] at hy hz
    obtain ⟨v, hv, rfl⟩ := Option.map_eq_some_iff.mp hy
    rw [hv] at hz
    cases hz; rfl
  have hn' : ∀ a ∈ ones vs, a.1.isNum = true := fun a ha => by
    obtain ⟨v, hv, rfl⟩ := List.mem_map.mp ha
    exact hn v hv
  rw [← ones_sum]
  cases t with
  | true =>
    refine sj_ret (ej_call c_u_counted_sum (G.le (by decide)) (aj_cons (ej_dat 0) (aj_cons (ej_is (ej_lc (x := "number") (j := 2) G.nd G.calm (blkOk_by (N := ["form", "numbers", "number"]) (sc := defScope s_exact_sum) (by decide +kernel)) (fun _ _ _ _ _ => pg_name (i := 2) G.nd rfl (Or.inl rfl))
      (rj_lc (ds := vs.map Va.d) (ys := vs.map fun v => .tuple [v.d, .int 1]) (fun _ => B) (ej_dat (d := .list (vs.map Va.d)) 1) (by rw [List.length_map, List.length_map]) (by rw [List.length_map]; omega) ?_)) ec) aj_nil)) (R_csum.mk b p low high (ones vs) B F (ones_ok hl h.2) hn')) ⟨rfl, rfl⟩
    intro i y z hy hz s1 H1 C1 cl1 fp1
    rw [turn i y z hy hz]
    exact (ej_tupD (ad_cons (ej_dat (d := y) 2) (ad_cons ej_int ad_nil)) (Nat.le_of_ble_eq_true rfl))
  | false =>
    refine sj_ret (ej_call c_u_counted_sum (G.le (by decide)) (aj_cons (ej_dat 0) (aj_cons (ej_is (ej_lcT (x := "number") (j := 2) G.nd G.calm (blkOk_by (N := ["form", "numbers", "number"]) (sc := defScope s_exact_sum) (by decide +kernel)) (fun _ _ _ _ _ => pg_name (i := 2) G.nd rfl (Or.inl rfl))
      (rj_lcT (ds := vs.map Va.d) (ys := vs.map fun v => .tuple [v.d, .int 1]) (fun _ => B) (ej_dat (d := .tuple (vs.map Va.d)) 1) (by rw [List.length_map, List.length_map]) (by rw [List.length_map]; omega) ?_)) ec) aj_nil)) (R_csum.mk b p low high (ones vs) B F (ones_ok hl h.2) hn')) ⟨rfl, rfl⟩
    intro i y z hy hz s1 H1 C1 cl1 fp1
    rw [turn i y z hy hz]
    exact (ej_tupD (ad_cons (ej_dat (d := y) 2) (ad_cons ej_int ad_nil)) (Nat.le_of_ble_eq_true rfl))

abbrev s_u_counted_sum : Stmt := topS 32
theorem sc_u_counted_sum : FnScope ["form", "counted", "units", "number", "many"] ["form", "counted"] (defScope s_u_counted_sum) := ⟨rfl, rfl, rfl, by decide +kernel, rfl, by decide +kernel, by decide +kernel⟩

theorem c_of_u_counted_sum (m_sum : mg "sum" = none) (c_u_units_of : Cal P w K mg base "_units_of" 5 R_units) (c_times : Cal P w K mg base "times" 4 (R_two (· * ·))) (c_power_of : Cal P w K mg base "power_of" 5 R_power_of) (T : At K mg "_counted_sum" s_u_counted_sum ["form", "counted"]) : Cal P w K mg base "_counted_sum" 6 R_csum :=
  cal_at T sc_u_counted_sum (by rintro _ _ _ _ ⟨⟩; rfl) fun f cd0 A out s0 H E0 G Γ B r B' hR => by
  obtain ⟨b, p, low, high, L, B, F, h, hn⟩ := hR
  have hl := h.1
  have lo := F.lo
  have hi := F.hi
  have lh := F.lh
  have b2 := F.b2
  refine sj_set 2 G.nd (ej_sum (ns := L.map fun a => a.2 * uV b low a.1) G.calm m_sum (ej_is (ej_lcP (x1 := "number") (j1 := 3) (x2 := "many") (j2 := 4) G.nd G.calm (blkOk_by (N := ["form", "counted", "units", "number", "many"]) (sc := defScope s_u_counted_sum) (by decide +kernel)) (fun _ _ _ _ _ => pg_tup G.calm (pgs_cons (pg_name (i := 3) G.nd rfl (Or.inl rfl)) (pgs_cons (pg_name (i := 4) G.nd rfl (Or.inl rfl)) pgs_nil)))
    (rj_lcP L (fun a => a.1.d) (fun a => .int a.2) (fun a => .int (a.2 * uV b low a.1)) (by decide) (ej_dat (d := .list (L.map fun a => .tuple [a.1.d, .int a.2])) 1) (by omega) (fun a ha s1 H1 C1 cl1 fp1 => ?_))) (by rw [List.map_map]; rfl))) ?_
  · obtain ⟨h1, h2⟩ := h.2 a ha
    have hnum := hn a ha
    obtain ⟨v, k⟩ := a
    cases v with
    | num s c e => exact ej_mul (ej_dat 4) (ej_call c_u_units_of ⟨G.gd, G.rm.mono (by decide), G.nd, G.calm⟩ (aj_cons (ej_dat 0) (aj_cons (ej_dat 3) aj_nil)) (R_units.mk b p low high s c e B F h1)) (cmz h2 (uV_bd F h1))
    | nan => cases hnum
    | inf s => cases hnum
  · rw [csQ_eq F h]
    exact sj_ret (ej_call c_times (G.le (by decide)) (aj_cons (ej_is (ej_tupD (ad_cons (ej_dat 2) (ad_cons ej_int ad_nil)) (Nat.le_of_ble_eq_true rfl)) (fq_int _).symm) (aj_cons (ej_call c_power_of (G.le (by decide)) (aj_cons (ej_at (ej_dat (d := .tuple [.int b, .int p, .int low, .int high]) 0)) (aj_cons (ej_at (ej_dat (d := .tuple [.int b, .int p, .int low, .int high]) 0)) aj_nil)) (R_power_of.mk b low B (by omega) F.b6 (by omega) (by omega))) aj_nil)) (R_two.mk _ _ _ _ _ _ B (qz_i (cs_bd F h)) (F.qz (Int.le_refl _) F.lh) (by decide) (by decide) (by decide))) ⟨rfl, rfl⟩

abbrev s_u_units_of : Stmt := topS 33
theorem sc_u_units_of : FnScope ["form", "number", "_", "s", "c", "e", "units"] ["form", "number"] (defScope s_u_units_of) := ⟨rfl, rfl, rfl, by decide +kernel, rfl, by decide +kernel, by decide +kernel⟩

theorem c_of_u_units_of (c_integer_power : Cal P w K mg base "integer_power" 4 R_pow) (T : At K mg "_units_of" s_u_units_of ["form", "number"]) : Cal P w K mg base "_units_of" 5 R_units :=
  cal_at T sc_u_units_of (by rintro _ _ _ _ ⟨⟩; rfl) fun f cd0 A out s0 H E0 G Γ B r B' hR => by
  obtain ⟨b, p, low, high, s, c, e, B, F, hv⟩ := hR
  have hu := uV_bd F hv
  obtain ⟨h1, h3, h4, h5, h6⟩ := hv
  refine sj_unpack [2, 3, 4, 5] G.calm (ej_dat (d := .tuple [.str "num", .int s, .int c, .int e]) 1) (pgs_cons (pgN 2 G.nd) (pgs_cons (pgN 3 G.nd) (pgs_cons (pgN 4 G.nd) (pgs_cons (pgN 5 G.nd) pgs_nil)))) rfl ?_
  have ek : e - low = (((e - low).toNat : Nat) : Int) := by omega
  have lo := F.lo
  have hi := F.hi
  have bp := F.bp
  refine sj_set 6 G.nd (ej_mul (ej_dat 4) (ej_call c_integer_power (G.le (by decide)) (aj_cons (ej_at (ej_dat (d := .tuple [.int b, .int p, .int low, .int high]) 0)) (aj_cons (ej_is (ej_sub (ej_dat 5) (ej_at (ej_dat (d := .tuple [.int b, .int p, .int low, .int high]) 0))) (congrArg PyData.int ek)) aj_nil)) (R_pow.mk b (e - low).toNat B F.b6 (by omega))) (cmz (n := 700) (m := 4680) (by unfold Bd; omega) (Bd.nat (F.wide (by omega))))) ?_
  refine sj_ret (ej_if (d := .da (.int (uI b low s c e))) (tj_eqI G.hu (ej_dat 3) ej_int) (fun h => ?_) (fun h => ?_)) ⟨rfl, rfl⟩
  · unfold uI
    rw [if_pos (of_decide_eq_true h)]
    exact ej_neg (ej_dat 6)
  · unfold uI
    rw [if_neg (of_decide_eq_false h)]
    exact (ej_dat 6)

abbrev s_parted_sum_of : Stmt := topS 35
theorem sc_parted_sum_of : FnScope ["form", "values", "parts", "left", "part"] ["form", "values"] (defScope s_parted_sum_of) := ⟨rfl, rfl, rfl, by decide +kernel, rfl, by decide +kernel, by decide +kernel⟩

theorem c_of_parted_sum_of /-H-/ (m_tuple : mg "tuple" = none) (c_exact_sum : Cal P w K mg base "exact_sum" 7 R_exsum) (c_rounded : Cal P w K mg base "rounded" 7 R_rounded) (c_is_inf : Cal P w K mg base "is_inf" 4 (R_val (fun v => .bool v.isInf) (fun _ => True))) (c_lessened : Cal P w K mg base "lessened" 5 (R_two (· - ·))) (c_worth : Cal P w K mg base "worth" 6 R_worth) /-E-/ (T : At K mg "parted_sum_of" s_parted_sum_of ["form", "values"]) : Cal P w K mg base "parted_sum_of" 8 R_psumof :=
  cal_at T sc_parted_sum_of (by rintro _ _ _ _ ⟨⟩; rfl) fun f cd0 A out s0 H E0 G Γ B r B' hR => by
  obtain ⟨b, p, low, high, vs, t, B, F, h, hn, hs⟩ := hR
  generalize hx0 : sumQ b vs = x0 at hs
  have re := R_exsum.mk b p low high vs t B F h hn
  rw [hx0] at re
  refine sj_own 2 G.nd (ds := []) (fj_lstD ad_nil (Nat.le_of_ble_eq_true rfl)) (Nat.le_of_ble_eq_true rfl) ?_
  refine ow_set 3 G.nd (by decide) (ej_call c_exact_sum (G.le (by decide)) (aj_cons (ej_dat (d := fmP b p low high) 0) (aj_cons (ej_dat (d := lisD t (vs.map Va.d)) 1) aj_nil)) (re)) ?_
  refine ow_while (fun Γ' B2 acc => ∃ (K : Nat) (x : Rat) (L : List Va) (g : VD), Γ' = [.da (fmP b p low high), .da (lisD t (vs.map Va.d)), .no, .da (fq x), g] ∧ B2 = B ∧ acc = L.map Va.d ∧ L.length + K = 60 ∧ PsS b p low K x ∧ psK b p low high 60 x0 = (psK b p low high K x).map (L ++ ·)) (fun _ _ acc => 60 - acc.length) ⟨60, x0, [], _, rfl, rfl, rfl, rfl, hs, by cases psK b p low high 60 x0 <;> rfl⟩ (fun Γ' B2 acc hP => ?_)
  obtain ⟨K, x, L, g, rfl, rfl, rfl, hK, hx, he⟩ := hP
  refine ⟨!decide (x.num = 0), tj_neI G.hu (ej_at (i := 0) (y := .int x.num) (ej_dat (d := fq x) 3) rfl) ej_int, fun h => ?_, fun h => ?_⟩
  · have hne : x ≠ 0 := fun z => by rw [z] at h; cases h
    obtain ⟨K, rfl⟩ : ∃ K', K = K' + 1 := by
      cases K with
      | zero => exact absurd hx.zero hne
      | succ K => exact ⟨K, rfl⟩
    have qz := hx.qz F
    have rr := R_rounded.mk b p low high "even" x 0 5340 2341 B2 F (by decide) (.inl rfl) qz (by decide) (by decide)
    rw [rdP_eq] at rr
    have hst := step_K F hx
    have hcan := (rdV_can F (way := "even") (x := x) (s := 0) (.inl rfl)).1
    have hK1 : psK b p low high (K + 1) x = if x = 0 then some [] else if (rdV b p low high "even" x 0).isInf = true then none else (psK b p low high K (x - (rdV b p low high "even" x 0).wQ b)).map fun L => rdV b p low high "even" x 0 :: L := rfl
    rw [if_neg hne] at hK1
    have hnum : (rdV b p low high "even" x 0).isInf = false → ∃ s c e, rdV b p low high "even" x 0 = .num s c e := fun hi => by
      obtain ⟨_, _, _, _, s', c, e', q⟩ := rd_worth F (way := "even") (x := x) (s := 0) (.inl rfl) near_inf hi
      exact ⟨s', c, e', q⟩
    generalize rdV b p low high "even" x 0 = v at *
    refine ow_set 4 G.nd (by decide) (ej_at (i := 0) (y := v.d) (ej_call c_rounded (G.le (by decide)) (aj_cons (ej_dat (d := fmP b p low high) 0) (aj_cons ej_str (aj_cons (ej_dat (d := fq x) 3) (aj_cons ej_int aj_nil)))) (rr)) rfl) ?_
    refine ow_if (x := v.isInf) (fun Γ' B3 acc => v.isInf = false ∧ Γ' = [.da (fmP b p low high), .da (lisD t (vs.map Va.d)), .no, .da (fq x), .da v.d] ∧ B3 = B2 ∧ acc = L.map Va.d) (tj_val (ej_call c_is_inf (G.le (by decide)) (aj_cons (ej_dat (d := v.d) 4) aj_nil) (R_val.mk v B2 trivial))) (fun hi => ?_) (fun hi => ow_nil ⟨hi, rfl, rfl, rfl⟩) (fun Γ' B3 acc hM => ?_)
    · refine ow_end (sj_ret ej_non ⟨?_, rfl⟩)
      rw [he, hK1, if_pos hi]; rfl
    · obtain ⟨hi, rfl, rfl, rfl⟩ := hM
      obtain ⟨s, c, e, rfl⟩ := hnum hi
      refine ow_app G.nd (ej_dat (d := (Va.num s c e).d) 4) (by rw [List.length_map]; omega) ?_
      refine ow_set 3 G.nd (by decide) (ej_call c_lessened (G.le (by decide)) (aj_cons (ej_dat (d := fq x) 3) (aj_cons (ej_call c_worth (G.le (by decide)) (aj_cons (ej_dat (d := fmP b p low high) 0) (aj_cons (ej_dat (d := (Va.num s c e).d) 4) aj_nil)) (R_worth.mk b p low high s c e B3 F hcan.ok)) aj_nil)) (R_two.mk 5340 2341 3040 2341 x ((Va.num s c e).wQ b) B3 qz (F.wz hcan.ok) (by decide) (by decide) (by decide))) ?_
      refine ow_nil ⟨⟨K, x - (Va.num s c e).wQ b, L ++ [.num s c e], _, rfl, rfl, by rw [List.map_append]; rfl, by rw [List.length_append, List.length_singleton]; omega, hst hi, ?_⟩, ?_⟩
      · rw [he, hK1, if_neg (by rw [hi]; decide)]
        cases psK b p low high K (x - (Va.num s c e).wQ b) with
        | none => rfl
        | some M => show some (L ++ Va.num s c e :: M) = some (L ++ [Va.num s c e] ++ M); rw [List.append_assoc]; rfl
      · show 60 - (L.map Va.d ++ [_]).length < 60 - (L.map Va.d).length
        rw [List.length_append, List.length_map, List.length_singleton]; omega
  · have h0 : x = 0 := Rat.num_eq_zero.mp (by simpa using h)
    refine ow_end (sj_ret (ej_tupleL m_tuple (ej_dat (d := .list (L.map Va.d)) 2)) ⟨?_, rfl⟩)
    have : psK b p low high K x = some [] := by
      cases K with
      | zero => rfl
      | succ K => unfold psK; rw [if_pos h0]
    rw [he, this]
    show PyData.tuple (L.map Va.d) = .tuple ((L ++ []).map Va.d)
    rw [List.append_nil]

abbrev s_is_parted_sum : Stmt := topS 36
theorem sc_is_parted_sum : FnScope ["form", "values", "thing", "part"] ["form", "values", "thing"] (defScope s_is_parted_sum) := ⟨rfl, rfl, rfl, by decide +kernel, rfl, by decide +kernel, by decide +kernel⟩

theorem c_of_is_parted_sum /-H-/ (m_isinstance : mg "isinstance" = none) (m_tuple : mg "tuple" = none) (m_all : mg "all" = none) (c_parted_sum_of : Cal P w K mg base "parted_sum_of" 8 R_psumof) (c_is_number : Cal P w K mg base "is_number" 6 (R_fb jNum)) /-E-/ (T : At K mg "is_parted_sum" s_is_parted_sum ["form", "values", "thing"]) : Cal P w K mg base "is_parted_sum" 9 R_isps :=
  cal_at T sc_is_parted_sum (by rintro _ _ _ _ ⟨⟩; rfl) fun f cd0 A out s0 H E0 G Γ B r B' hR => by
  obtain ⟨b, p, low, high, vs, d, B, F, h, hn, hs, hd, hl⟩ := hR
  by_cases ht : tupB d = true
  · obtain ⟨ds, rfl⟩ := tupB_inv ht
    have hl : ds.length ≤ 1000 := hl
    have hda : ∀ x ∈ ds, datB x = true := fun x hx => datA_mem (by have := hd.any; simp only [datB] at this; exact this) x hx
    refine sj_when (x := !(ds.all (jNum b p low high))) (tj_w (wj_or (x := false) (tj_not (x := true) (tj_val (ej_isT m_isinstance m_tuple (ej_dat (d := .tuple ds) 2)))) fun _ => wj_or1 (tj_is (tj_not (tj_val (ej_all (bs := ds.map (jNum b p low high)) G.calm m_all (ej_is (ej_lcT (j := 3) (x := "part") G.nd G.calm (blkOk_by (N := ["form", "values", "thing", "part"]) (sc := defScope s_is_parted_sum) (by decide +kernel)) (fun _ _ _ _ _ => pg_name (i := 3) G.nd rfl (Or.inl rfl))
      (rj_lcT (ds := ds) (ys := (ds.map (jNum b p low high)).map PyData.bool) (fun _ => B) (ej_dat (d := .tuple ds) 2) (by simp) hl (fun i y' z' hi hz s0 H0 C cl fp => ?_))) rfl)))) (by rw [List.all_map]; rfl)))) (fun hh => ?_) (fun hh => ?_)
    · have e : z' = .bool (jNum b p low high y') := by
        rw [List.getElem?_map, List.getElem?_map, hi] at hz
        injection hz with hz; exact hz.symm
      subst e
      exact (ej_call c_is_number ⟨G.gd, G.rm.mono (by decide), G.nd, G.calm⟩ (aj_cons (ej_dat (d := fmP b p low high) 0) (aj_cons (ej_dat (d := y') 3) aj_nil)) (R_fb.mk b p low high y' B F (hda y' (List.mem_of_getElem? hi))))
    · have hh : ds.all (jNum b p low high) = false := by simpa using hh
      refine sj_ret ej_bl ⟨congrArg PyData.bool (isTo_not F hs (fun ds' e => ?_)).symm, rfl⟩
      injection e with e
      subst e; exact hh
    · have hh : ds.all (jNum b p low high) = true := by simpa using hh
      obtain ⟨L, rfl⟩ := jNums_inv hh
      exact sj_ret (ej_eq G.hu (ej_dat (d := .tuple (L.map Va.d)) 2) (ej_call c_parted_sum_of (G.le (by decide)) (aj_cons (ej_dat (d := fmP b p low high) 0) (aj_cons (ej_is (y := lisD true (vs.map Va.d)) (ej_dat (d := .list (vs.map Va.d)) 1) rfl) aj_nil)) (R_psumof.mk b p low high vs true B F h hn hs)) (vaL_shaped L).1 (psD_shaped _)) ⟨congrArg PyData.bool (isTo_eqv _ L), rfl⟩
  · have ht : tupB d = false := by simpa using ht
    refine sj_when (x := true) (tj_w (wj_orT (tj_is (tj_not (tj_val (ej_isT m_isinstance m_tuple (ej_dat (d := d) 2)))) (by rw [ht]; rfl)))) (fun _ => sj_ret ej_bl ⟨congrArg PyData.bool (isTo_not F hs (fun ds' e => ?_)).symm, rfl⟩) (fun h => Bool.noConfusion h)
    subst e; cases ht

abbrev s_l_bag : Stmt := topS 38
theorem sc_l_bag : FnScope ["_law_script", "_law_cell"] ["_law_script"] (defScope s_l_bag) := ⟨rfl, rfl, rfl, by decide +kernel, rfl, by decide +kernel, by decide +kernel⟩

theorem c_of_l_bag (m_abs : mg "abs" = none) (T : At K mg "_law_bag" s_l_bag ["_law_script"]) : Cal P w K mg base "_law_bag" 4 R_bag :=
  cal_at T sc_l_bag (by rintro _ _ _ _ ⟨⟩; rfl) fun f cd0 A out s H E G Γ B r B' hR => by
  obtain ⟨ns, B, hl⟩ := hR
  refine sj_ret (ej_lstD (ad_cons ej_int (ad_cons ej_int (ad_cons ej_int (ad_cons (ej_lc (j := 1) (x := "_law_cell") G.nd G.calm (blkOk_by (N := ["_law_script", "_law_cell"]) (sc := defScope s_l_bag) (by decide +kernel)) (fun _ _ _ _ _ => pg_name (i := 1) G.nd rfl (Or.inl rfl))
    (rj_lc (ds := (ns.take 63).map .int) (ys := ((ns.take 63).map absI).map .int) (fun _ => B) (ej_is (ej_sliceScr (ej_var 0 (d := .scr ns) rfl (fun z => nomatch z)) oj_none (oj_some ej_int)) (congrArg PyData.list (cut_head ns 63)))
      (by simp) (by rw [List.length_map, List.length_take]; omega) ?_)) ad_nil)))) (Nat.le_of_ble_eq_true rfl)) ⟨rfl, rfl⟩
  intro i y z hy hz s H C cl fp
  rw [List.getElem?_map] at hy hz
  rw [List.getElem?_map] at hz
  obtain ⟨n, hn, rfl⟩ := Option.map_eq_some_iff.mp hy
  rw [hn] at hz
  cases hz
  exact ej_abs m_abs (ej_dat 1)

abbrev s_l_take : Stmt := topS 39
theorem sc_l_take : FnScope ["_law_bag_here", "_law_many", "_law_cell", "_law_stirred", "_law_value", "_law_begin", "_law_second"] ["_law_bag_here", "_law_many"] (defScope s_l_take) := ⟨rfl, rfl, rfl, by decide +kernel, rfl, by decide +kernel, by decide +kernel⟩

theorem c_of_l_take (m_int : mg "int" = none) (T : At K mg "_law_take" s_l_take ["_law_bag_here", "_law_many"]) : Cal P w K mg base "_law_take" 4 R_take :=
  cal_at T sc_l_take (by rintro _ _ _ _ ⟨⟩; rfl) fun f cd0 A out s H E G Γ B r B' hR => by
  obtain ⟨B, m, hm, hb, hc⟩ := hR
  refine sj_ifM (fun Γ' B2 => B2 = stir B ∧ Γ'[0]? = some .bag ∧ Γ'[1]? = some (.da (.int m)) ∧ Γ'.length = 7) (tj_eqI G.hu (ej_bagAt (k := 0) (ej_bag 0) ej_int rfl (.inl ⟨rfl, rfl⟩) fun _ _ => rfl) ej_int) (fun h => ?_) (fun h => ?_) ?_
  · have hx : B.x = 0 := of_decide_eq_true h
    refine sj_set 2 G.nd (ej_ixL (ej_catL (ej_sliceL (ej_bagAt (k := 3) (ej_bag 0) ej_int rfl (.inr (.inr (.inr ⟨rfl, rfl⟩))) fun _ _ => rfl) (oj_some (ej_bagAt (k := 2) (ej_bag 0) ej_int rfl (.inr (.inr (.inl ⟨rfl, rfl⟩))) fun _ _ => rfl)) oj_none) (ej_lstD (ad_cons ej_int ad_nil) (Nat.le_of_ble_eq_true rfl)) ?_) ej_int (drop_cell B) fun _ _ => rfl) ?_
    · have h63 : B.cs.length ≤ 63 := hc
      show (cutP (B.cs.map PyData.int) (some B.z) none).length + 1 ≤ 1000
      unfold cutP
      rw [List.length_take, List.length_drop, List.length_map]; omega
    refine sj_bagAug (ej_bag 0) ej_int ej_int rfl ?_
    refine sj_ifM (fun Γ' B2 => Γ' = [.bag, .da (.int m), .da (.int (cell B)), .no, .no, .no, .no] ∧ B2 = ⟨if 10 ^ 18 ≤ cell B then cell B else B.x, B.y, B.z + 1, B.cs⟩)
      (tj_ge (ej_dat 2) (ej_pow ej_int ej_int ⟨by decide, by decide, by decide⟩)) (fun h => ?_) (fun h => ?_) ?_
    · refine sj_bagSet (ej_dat 2) (ej_bag 0) ej_int (k := 0) rfl (.inl ⟨rfl, rfl⟩) (sj_nil ⟨rfl, ?_⟩)
      have h' : (10 : Int) ^ 18 ≤ cell B := of_decide_eq_true h
      rw [if_pos h']
    · refine sj_nil ⟨rfl, ?_⟩
      have h' : ¬ (10 : Int) ^ 18 ≤ cell B := of_decide_eq_false h
      rw [if_neg h']
    · rintro Γ2 B2 ⟨rfl, rfl⟩
      refine sj_set 3 G.nd (ej_add (ej_add (ej_mulC (ej_bagAt (k := 1) (ej_bag 0) ej_int rfl (.inr (.inl ⟨rfl, rfl⟩)) fun _ _ => rfl) ej_int (.inr (by decide))) (ej_mod (ej_int1 m_int (ej_dat 2)) ej_int (by decide)))
        (ej_mulC ej_int (ej_bagAt (k := 2) (ej_bag 0) ej_int rfl (.inr (.inr (.inl ⟨rfl, rfl⟩))) fun _ _ => rfl) (.inl (by decide)))) ?_
      refine sj_bagSet (ej_mod (ej_int1 m_int (ej_dat 3)) ej_int (by decide)) (ej_bag 0) ej_int (k := 1) rfl (.inr (.inl ⟨rfl, rfl⟩)) (sj_nil ⟨?_, rfl, rfl, rfl⟩)
      unfold stir
      rw [if_pos hx]
  · refine sj_nil ⟨?_, rfl, rfl, rfl⟩
    unfold stir
    rw [if_neg (of_decide_eq_false h)]
  · rintro Γ2 B2 ⟨rfl, g0, g1, gl⟩
    refine sj_when (tj_gt (ej_bagAt (k := 0) (ej_bag 0 g0) ej_int rfl (.inl ⟨rfl, rfl⟩) fun _ _ => rfl) ej_int) (fun h => ?_) (fun h => ?_)
    · have h' : 0 < (stir B).x := of_decide_eq_true h
      refine sj_set 4 G.nd (ej_mod (ej_int1 m_int (ej_bagAt (k := 0) (ej_bag 0 g0) ej_int rfl (.inl ⟨rfl, rfl⟩) fun _ _ => rfl)) (ej_dat 1 g1) hm) ?_
      have g0' : (Γ2.set 4 (.da (.int ((stir B).x % m))))[0]? = some .bag := by rw [List.getElem?_set_ne (by decide)]; exact g0
      have g1' : (Γ2.set 4 (.da (.int ((stir B).x % m))))[1]? = some (.da (.int m)) := by rw [List.getElem?_set_ne (by decide)]; exact g1
      have g4 : (Γ2.set 4 (.da (.int ((stir B).x % m))))[4]? = some (.da (.int ((stir B).x % m))) := List.getElem?_set_self (by omega)
      refine sj_bagSet (ej_fdiv (ej_int1 m_int (ej_bagAt (k := 0) (ej_bag 0 g0') ej_int rfl (.inl ⟨rfl, rfl⟩) fun _ _ => rfl)) (ej_dat 1 g1') (cdv hb hm)) (ej_bag 0 g0') ej_int (k := 0) rfl (.inl ⟨rfl, rfl⟩) ?_
      refine sj_ret (ej_dat 4 g4) ⟨?_, ?_⟩
      · unfold tkV; rw [if_pos h']
      · unfold tkB; rw [if_pos h']
    · have h' : ¬ 0 < (stir B).x := of_decide_eq_false h
      refine sj_set 5 G.nd (ej_mod (ej_int1 m_int (ej_mulC (ej_add (ej_bagAt (k := 1) (ej_bag 0 g0) ej_int rfl (.inr (.inl ⟨rfl, rfl⟩)) fun _ _ => rfl) ej_int) ej_int (.inr (by decide)))) ej_int (by decide)) ?_
      generalize hbg : (((stir B).y + 1) * 39373) % 1000000007 = bg
      have hb5 : 0 ≤ bg ∧ bg < 1000000007 := by rw [← hbg]; exact ⟨Int.emod_nonneg _ (by decide), Int.emod_lt_of_pos _ (by decide)⟩
      have g5 : (Γ2.set 5 (.da (.int bg)))[5]? = some (.da (.int bg)) := List.getElem?_set_self (by omega)
      refine sj_set 6 G.nd (ej_mod (ej_int1 m_int (ej_mulC (ej_mod (ej_int1 m_int (ej_mulC (ej_dat 5 g5) (ej_dat 5 g5) (.inl (by omega)))) ej_int (by decide)) ej_int (.inr (by decide)))) ej_int (by decide)) ?_
      have g6 : ((Γ2.set 5 (.da (.int bg))).set 6 (.da (.int ((bg * bg) % 998244353 * 30011 % 998244353))))[6]? = some (.da (.int ((bg * bg) % 998244353 * 30011 % 998244353))) := List.getElem?_set_self (by rw [List.length_set]; omega)
      have g1' : ((Γ2.set 5 (.da (.int bg))).set 6 (.da (.int ((bg * bg) % 998244353 * 30011 % 998244353))))[1]? = some (.da (.int m)) := by
        rw [List.getElem?_set_ne (by decide), List.getElem?_set_ne (by decide)]; exact g1
      refine sj_ret (ej_mod (ej_int1 m_int (ej_fdiv (ej_dat 6 g6) ej_int (cdv (show Bd 3 7 from by unfold Bd; decide) (by decide)))) (ej_dat 1 g1') hm) ⟨?_, ?_⟩
      · unfold tkV low; rw [if_neg h', hbg]
      · unfold tkB; rw [if_neg h']

abbrev s_l_some : Stmt := topS 40
theorem sc_l_some : FnScope ["_law_bag_here", "_law_things"] ["_law_bag_here", "_law_things"] (defScope s_l_some) := ⟨rfl, rfl, rfl, by decide +kernel, rfl, by decide +kernel, by decide +kernel⟩

theorem c_of_l_some (m_len : mg "len" = none) (c_l_take : Cal P w K mg base "_law_take" 4 R_take) (T : At K mg "_law_some" s_l_some ["_law_bag_here", "_law_things"]) : Cal P w K mg base "_law_some" 5 R_some :=
  cal_at T sc_l_some (by rintro _ _ _ _ ⟨⟩; rfl) fun f cd0 A out s H E G Γ B r B' hR => by
  obtain ⟨B, ds, h, hl, hc⟩ := hR
  have hb : Bd 8000 (ds.length : Int) := by
    have h10 : ds.length < 2 ^ 10 := by omega
    exact (Bd.nat h10).le (by decide)
  exact sj_ret (ej_ixL (ej_dat 1) (ej_call c_l_take (G.le (by decide)) (aj_cons (ej_bag 0) (aj_cons (ej_lenL m_len (ej_dat 1)) aj_nil)) (R_take.mk B _ (by omega) hb hc)) (pick_at ds B h) fun _ _ => rfl) ⟨rfl, rfl⟩


abbrev s_l_mixed : Stmt := topS 41
theorem sc_l_mixed : FnScope ["_law_bag_here", "_law_things", "_law_found", "_law_thing"] ["_law_bag_here", "_law_things"] (defScope s_l_mixed) := ⟨rfl, rfl, rfl, by decide +kernel, rfl, by decide +kernel, by decide +kernel⟩

theorem c_of_l_mixed (m_len : mg "len" = none) (c_l_take : Cal P w K mg base "_law_take" 4 R_take) (T : At K mg "_law_mixed" s_l_mixed ["_law_bag_here", "_law_things"]) : CalX P w K mg base "_law_mixed" 5 Pre_mixed3 Post_mixed :=
  calx_at T sc_l_mixed (by rintro _ _ ⟨t, ds, rfl, _⟩; rfl) fun f cd0 A out s0 H E0 G Γ B hPre => by
  obtain ⟨t, ds, rfl, hl, okB⟩ := hPre
  have body : ∀ (z : VD) (zs : VD) (B' : Bag) (acc : List PyData) (k : Nat) (y : PyData) (fx : List VD → Bag → Prop) (rt : PyData → Bag → Prop) (bk ct : List VD → Bag → List PyData → Prop), Bok B' → acc.Perm (ds.take k) → ds[k]? = some y →
      OwJ (cxOf CX0 P w K mg base ["_law_bag_here", "_law_things", "_law_found", "_law_thing"] "_law_mixed" (defScope s_l_mixed) f cd0 A out s0 H E0).nox 2 [.bag, zs, .no, .da y] B' acc
        (match (defBody s_l_mixed).getD 1 (.Pass ⟨0, 0, 0, 0⟩) with | .For _ _ b _ _ => b | _ => [])
        { nx := fun Γ' B' acc' => (∃ z, Γ' = [.bag, zs, .no, z]) ∧ Bok B' ∧ acc'.Perm (ds.take (k + 1)), fx := fx, rt := rt, bk := bk, ct := ct } := by
    intro z zs B' acc k y fx rt bk ct ok hp hy
    have hk : k < ds.length := (List.getElem?_eq_some_iff.mp hy).1
    have hal : acc.length = k := by rw [hp.length_eq, List.length_take]; omega
    have t0 := tkV_ge B' (m := (acc.length : Int) + 1) (by omega)
    have t1 := tkV_lt B' (m := (acc.length : Int) + 1) (by omega)
    have ek : tkV B' ((acc.length : Int) + 1) = ((tkV B' ((acc.length : Int) + 1)).toNat : Int) := by omega
    refine ow_ins (k0 := (tkV B' ((acc.length : Int) + 1)).toNat) G.nd (oe_fz (ej_is (ej_call c_l_take (G.le (by decide)) (aj_cons (ej_bag 0) (aj_cons (ej_add (ej_lenL m_len (ej_dat 2)) ej_int) aj_nil)) (R_take.mk B' ((acc.length : Int) + 1) (by omega) (by unfold Bd; exact Nat.lt_of_lt_of_le (show _ < 2 ^ 20 by omega) (Nat.pow_le_pow_right (by decide) (by decide))) ok)) (congrArg PyData.int ek)) rfl)
      (oe_ej (ej_dat 3)) (by omega) (by omega) (ow_nil ⟨⟨_, rfl⟩, tkB_ok ok _, ?_⟩)
    rw [List.take_add_one, hy]
    refine List.Perm.trans ?_ (hp.append_right [y])
    generalize (tkV B' ((acc.length : Int) + 1)).toNat = n
    refine List.Perm.trans (List.Perm.append_right _ List.perm_append_comm) ?_
    rw [List.append_assoc, List.take_append_drop]
    exact List.perm_append_comm
  refine sj_own 2 G.nd (fj_lst (ds := []) aj_nil (by decide)) (show 3 ≤ _ from Nat.le_of_ble_eq_true rfl) ?_
  cases t with
  | true =>
    refine ow_forL (ds := ds) 3 G.nd G.calm (by decide) (fun k Γ' B' acc => (∃ z, Γ' = [.bag, .da (.list ds), .no, z]) ∧ Bok B' ∧ acc.Perm (ds.take k)) (ej_dat (d := .list ds) 1) ⟨⟨_, rfl⟩, okB, List.Perm.refl _⟩ (fun k y Γ' B' acc hy hP => ?_) (fun Γ' B' acc hP => ?_)
    · obtain ⟨⟨z, rfl⟩, ok, hp⟩ := hP
      exact body .no _ B' acc k y _ _ _ _ ok hp hy
    · obtain ⟨⟨z, rfl⟩, ok, hp⟩ := hP
      rw [List.take_length] at hp
      exact ow_end (sj_ret (ej_dat 2) ⟨ok, fun t2 ds2 e => by injection e with _ e; injection e with e _; injection e with e; cases t2 <;> (cases e) ; exact ⟨acc, rfl, hp⟩⟩)
  | false =>
    refine ow_forT (ds := ds) 3 G.nd G.calm (by decide) (fun k Γ' B' acc => (∃ z, Γ' = [.bag, .da (.tuple ds), .no, z]) ∧ Bok B' ∧ acc.Perm (ds.take k)) (ej_dat (d := .tuple ds) 1) ⟨⟨_, rfl⟩, okB, List.Perm.refl _⟩ (fun k y Γ' B' acc hy hP => ?_) (fun Γ' B' acc hP => ?_)
    · obtain ⟨⟨z, rfl⟩, ok, hp⟩ := hP
      exact body .no _ B' acc k y _ _ _ _ ok hp hy
    · obtain ⟨⟨z, rfl⟩, ok, hp⟩ := hP
      rw [List.take_length] at hp
      exact ow_end (sj_ret (ej_dat 2) ⟨ok, fun t2 ds2 e => by injection e with _ e; injection e with e _; injection e with e; cases t2 <;> (cases e) ; exact ⟨acc, rfl, hp⟩⟩)

abbrev s_l_alike : Stmt := topS 42
theorem sc_l_alike : FnScope ["_law_found", "_law_due"] ["_law_found", "_law_due"] (defScope s_l_alike) := ⟨rfl, rfl, rfl, by decide +kernel, rfl, by decide +kernel, by decide +kernel⟩

theorem c_of_l_alike_x (sk : KSys K) (m_repr : mg "repr" = none) (T_l_alike : At K mg "_law_alike" s_l_alike ["_law_found", "_law_due"]) : Cal P w K mg base "_law_alike" 4 R_ns :=
  cal_at T_l_alike sc_l_alike (by rintro _ _ _ _ ⟨⟩; rfl) fun f cd0 A out s H E G Γ B r B' hR => by
  obtain ⟨L, d, B, h, hd, hL⟩ := hR
  have hs := (vaL_shaped L).1
  have no : ∀ {d : PyData}, d ≠ .tuple (L.map Va.d) → PyData.bool (false && false) = .bool (isTo (some L) d) := fun h => by rw [isTo_ne h]; rfl
  cases h with
  | vas M =>
    refine sj_ret (ej_and (x := decide (M = L)) (y := true) (ej_is (ej_eq G.hu (ej_dat (d := .tuple (M.map Va.d)) 0) (ej_dat (d := .tuple (L.map Va.d)) 1) (vaL_shaped M).1 hs) (congrArg PyData.bool (eqv_vaL M L))) fun e => ej_one (ej_is (ej_eqS (ej_reprA G sk m_repr (ej_dat (d := .tuple (M.map Va.d)) 0) hd) (ej_reprA G sk m_repr (ej_dat (d := .tuple (L.map Va.d)) 1) hL)) ?_)) ⟨by rw [isTo_vas, Bool.and_true], rfl⟩
    rw [of_decide_eq_true e, decide_eq_true rfl]
  | lst => exact sj_ret (ej_and (x := false) (y := false) (ej_is (ej_eq G.hu (ej_dat (d := .list (L.map Va.d)) 0) (ej_dat (d := .tuple (L.map Va.d)) 1) (vaL_shaped L).2 hs) (by simp only [PyData.eqv])) fun e => Bool.noConfusion e) ⟨no (fun z => PyData.noConfusion z), rfl⟩
  | non => exact sj_ret (ej_and (x := false) (y := false) (ej_is (ej_eq G.hu (ej_dat (d := .none) 0) (ej_dat (d := .tuple (L.map Va.d)) 1) rfl hs) (by simp only [PyData.eqv])) fun e => Bool.noConfusion e) ⟨no (fun z => PyData.noConfusion z), rfl⟩
  | sum => exact sj_ret (ej_and (x := false) (y := false) (ej_is (ej_eq G.hu (ej_dat (d := .str "sum") 0) (ej_dat (d := .tuple (L.map Va.d)) 1) (by decide +kernel) hs) (by simp only [PyData.eqv])) fun e => Bool.noConfusion e) ⟨no (fun z => PyData.noConfusion z), rfl⟩
  | dct => exact sj_ret (ej_and (x := false) (y := false) (ej_eqDT G.hu (ej_dat (d := .dict []) 0) (ej_dat (d := .tuple (L.map Va.d)) 1)) fun e => Bool.noConfusion e) ⟨no (fun z => PyData.noConfusion z), rfl⟩
  | tru pre post s c e hp =>
    have q : PyData.eqv (aroD pre (trueD s e) post) (.tuple (L.map Va.d)) = PyData.eqv (trueD s e) (Va.num s c e).d := by rw [hp]; exact eqv_mid _ _ post pre
    refine sj_ret (ej_and (x := PyData.eqv (trueD s e) (Va.num s c e).d) (y := false) (ej_is (ej_eq G.hu (ej_dat (d := aroD pre (trueD s e) post) 0) (ej_dat (d := .tuple (L.map Va.d)) 1) (shaped_mid (by simp only [trueD, PyData.canLay0, PyData.canLayAll0, Bool.and_true]; decide +kernel) (by simp only [trueD, PyData.depth, PyData.depthAll]; decide)) hs) (congrArg PyData.bool q)) fun ee => ej_one (ej_is (ej_eqS (ej_reprA G sk m_repr (ej_dat (d := aroD pre (trueD s e) post) 0) hd) (ej_reprA G sk m_repr (ej_dat (d := .tuple (L.map Va.d)) 1) hL)) (congrArg PyData.bool (decide_eq_false (tru_shown hp (eqv_tru s c e ee)))))) ⟨?_, rfl⟩
    rw [isTo_ne (mid_ne hp (fun z => by cases z)), Bool.and_false]
  | inl pre post s c e hp =>
    have q : PyData.eqv (aroD pre (lstD s c e) post) (.tuple (L.map Va.d)) = false := by rw [hp, ← eqv_inl s c e]; exact eqv_mid _ _ post pre
    exact sj_ret (ej_and (x := false) (y := false) (ej_is (ej_eq G.hu (ej_dat (d := aroD pre (lstD s c e) post) 0) (ej_dat (d := .tuple (L.map Va.d)) 1) (shaped_mid (by simp only [lstD, PyData.canLay0, PyData.canLayAll0, Bool.and_true]; decide +kernel) (by simp only [lstD, PyData.depth, PyData.depthAll]; decide)) hs) (congrArg PyData.bool q)) fun e => Bool.noConfusion e) ⟨no (mid_ne hp (fun z => by cases z)), rfl⟩
theorem c_of_l_alike (m_repr : mg "repr" = none) (T : At K mg "_law_alike" s_l_alike ["_law_found", "_law_due"]) : Cal P w K mg base "_law_alike" 4 R_alikeA :=
  cal_at T sc_l_alike (by rintro _ _ _ _ ⟨⟩; rfl) fun f cd0 A out s H E G Γ B r B' hR => by
  obtain ⟨d, B, h, hb⟩ := hR
  rcases hb with hb | rfl | ⟨b, rfl⟩ | ⟨i, rfl⟩
  · refine sj_ret (ej_and (ej_eq G.hu (ej_dat 0) (ej_dat 1) h.shaped h.shaped) fun _ => (ej_one (ej_eqS (ej_repr G m_repr (ej_dat 0) hb h.shows) (ej_repr G m_repr (ej_dat 1) hb h.shows)))) ⟨?_, rfl⟩
    rw [eqv_refl_of h.shaped, decide_eq_true rfl]; rfl
  · refine sj_ret (ej_and (ej_eq G.hu (ej_dat 0) (ej_dat 1) h.shaped h.shaped) fun _ => (ej_one (ej_eqS (ej_reprN m_repr (ej_dat 0)) (ej_reprN m_repr (ej_dat 1))))) ⟨?_, rfl⟩
    rw [eqv_refl_of h.shaped, decide_eq_true rfl]; rfl
  · refine sj_ret (ej_and (ej_eq G.hu (ej_dat 0) (ej_dat 1) h.shaped h.shaped) fun _ => (ej_one (ej_eqS (ej_reprL m_repr (ej_dat 0)) (ej_reprL m_repr (ej_dat 1))))) ⟨?_, rfl⟩
    rw [eqv_refl_of h.shaped, decide_eq_true rfl]; rfl
  · have hi : i.natAbs.log2 < 1920 := of_decide_eq_true h.nice
    refine sj_ret (ej_and (ej_eq G.hu (ej_dat 0) (ej_dat 1) h.shaped h.shaped) fun _ => (ej_one (ej_eqS (ej_reprI hi m_repr (ej_dat 0)) (ej_reprI hi m_repr (ej_dat 1))))) ⟨?_, rfl⟩
    rw [eqv_refl_of h.shaped, decide_eq_true rfl]; rfl

abbrev s_l_common : Stmt := topS 43
theorem sc_l_common : FnScope ["_law_one", "_law_other"] ["_law_one", "_law_other"] (defScope s_l_common) := ⟨rfl, rfl, rfl, by decide +kernel, rfl, by decide +kernel, by decide +kernel⟩

theorem c_of_l_common (m_abs : mg "abs" = none) (m_int : mg "int" = none) (T : At K mg "_law_common" s_l_common ["_law_one", "_law_other"]) : Cal P w K mg base "_law_common" 4 R_common :=
  cal_at T sc_l_common (by rintro _ _ _ _ ⟨⟩; rfl) fun f cd0 A out s H E G Γ B r B' hR => by
  obtain ⟨n, d, B⟩ := hR
  refine sj_par 0 1 G.nd G.calm (aj_cons (ej_abs m_abs (ej_dat 0)) (aj_cons (ej_abs m_abs (ej_dat 1)) aj_nil)) ?_ (by decide) (by rfl)
  refine sj_while G.nd (fun Γ' B' => ∃ a c : Nat, Γ' = [.da (.int a), .da (.int c)] ∧ Nat.gcd a c = Nat.gcd n.natAbs d.natAbs ∧ B' = B) (fun Γ' _ => (intAt Γ' 1).toNat)
    ⟨n.natAbs, d.natAbs, by rw [absI_nat, absI_nat]; rfl, rfl, rfl⟩ ?_
  rintro Γ' B' ⟨a, c, rfl, hg, rfl⟩
  refine ⟨_, tj_gt (ej_dat 1) ej_int, fun h => ?_, fun h => ?_⟩
  · have hc : 0 < c := by have := of_decide_eq_true h; omega
    refine sj_par 0 1 G.nd G.calm (aj_cons (ej_dat 1) (aj_cons (ej_mod (ej_int1 m_int (ej_dat 0)) (ej_dat 1) (by omega)) aj_nil)) (sj_nil ?_) (by decide) (by rfl)
    rw [← Int.natCast_emod]
    refine ⟨⟨c, a % c, rfl, ?_, rfl⟩, show ((a % c : Nat) : Int).toNat < (c : Int).toNat from ?_⟩
    · rw [← hg, Nat.gcd_comm a c, Nat.gcd_rec c a, Nat.gcd_comm]
    · have := Nat.mod_lt a hc; omega
  · have hc : c = 0 := by have := of_decide_eq_false h; omega
    subst hc
    rw [Nat.gcd_zero_right] at hg
    exact sj_ret (ej_dat 0) ⟨by rw [hg], rfl⟩

abbrev s_l_to : Stmt := topS 44
theorem sc_l_to : FnScope ["_law_base", "_law_n", "_law_found", "_law_factor"] ["_law_base", "_law_n"] (defScope s_l_to) := ⟨rfl, rfl, rfl, by decide +kernel, rfl, by decide +kernel, by decide +kernel⟩

theorem c_of_l_to (m_int : mg "int" = none) (T : At K mg "_law_to" s_l_to ["_law_base", "_law_n"]) : Cal P w K mg base "_law_to" 4 R_pow :=
  cal_at T sc_l_to (by rintro _ _ _ _ ⟨⟩; rfl) fun f cd0 A out s H E G Γ B r B' hR => by
  obtain ⟨b, e, B, hb, he⟩ := hR
  refine sj_par 2 3 G.nd G.calm (aj_cons ej_int (aj_cons (ej_dat 0) aj_nil)) ?_ (by decide) (by rfl)
  refine sj_while G.nd (fun Γ' B' => ∃ k m j : Nat, Γ' = [.da (.int b), .da (.int m), .da (.int ((b ^ j : Nat) : Int)), .da (.int ((b ^ k : Nat) : Int))] ∧ j + k * m = e ∧ B' = B) (fun Γ' _ => (intAt Γ' 1).toNat)
    ⟨1, e, 0, by rw [Nat.pow_one]; rfl, by omega, rfl⟩ ?_
  rintro Γ' B' ⟨k, m, j, rfl, hk, rfl⟩
  refine ⟨_, tj_gt (ej_dat 1) ej_int, fun h => ?_, fun h => ?_⟩
  · have hm : 0 < m := by have := of_decide_eq_true h; omega
    obtain ⟨k1, j1⟩ := k_le hk hm
    refine sj_ifM (fun Γ' B2 => ∃ j' : Nat, Γ' = [.da (.int b), .da (.int m), .da (.int ((b ^ j' : Nat) : Int)), .da (.int ((b ^ k : Nat) : Int))] ∧ j' + (k + k) * (m / 2) = e ∧ B2 = B') (tj_eqI G.hu (ej_mod (ej_int1 m_int (ej_dat 1)) ej_int (by decide)) ej_int) (fun h1 => ?_) (fun h1 => ?_) ?_
    · refine sj_set 2 G.nd (ej_mul (ej_dat 2) (ej_dat 3) (cm (bd_pow j hb) (bd_pow k hb) (by omega))) (sj_nil ?_)
      rw [pow_up]
      exact ⟨j + k, rfl, turn_odd hk (by have := of_decide_eq_true h1; omega), rfl⟩
    · exact sj_nil ⟨j, rfl, turn_even hk (by have := of_decide_eq_false h1; omega), rfl⟩
    · rintro Γ2 B2 ⟨j', rfl, hj', rfl⟩
      refine sj_par 3 1 G.nd G.calm (aj_cons (ej_mul (ej_dat 3) (ej_dat 3) (cm (bd_pow k hb) (bd_pow k hb) (by omega))) (aj_cons (ej_fdiv (ej_int1 m_int (ej_dat 1)) ej_int (cdv (show Bd 2 2 from by unfold Bd; decide) (by decide))) aj_nil)) (sj_nil ?_) (by decide) (by rfl)
      rw [pow_sq, half]
      exact ⟨⟨k + k, m / 2, j', rfl, hj', rfl⟩, show ((m / 2 : Nat) : Int).toNat < (m : Int).toNat by omega⟩
  · have hm : ¬ 0 < m := by have := of_decide_eq_false h; omega
    have := j_end hk hm
    subst this
    exact sj_ret (ej_dat 2) ⟨rfl, rfl⟩

abbrev s_l_over : Stmt := topS 45
theorem sc_l_over : FnScope ["_law_n", "_law_d", "_law_shared"] ["_law_n", "_law_d"] (defScope s_l_over) := ⟨rfl, rfl, rfl, by decide +kernel, rfl, by decide +kernel, by decide +kernel⟩

theorem c_of_l_over (m_int : mg "int" = none) (c_l_common : Cal P w K mg base "_law_common" 4 R_common) (T : At K mg "_law_over" s_l_over ["_law_n", "_law_d"]) : Cal P w K mg base "_law_over" 5 R_reduced :=
  cal_at T sc_l_over (by rintro _ _ _ _ ⟨⟩; rfl) fun f cd0 A out s H E G Γ B r B' hR => by
  obtain ⟨n, d, B, hd, hb⟩ := hR
  have cx : ∀ m, CDivX m (com n d) := fun m => cdx (com_bd hd hb) (com_ne hd)
  refine sj_set 2 G.nd (ej_call c_l_common (G.le (by decide)) (aj_cons (ej_dat 0) (aj_cons (ej_dat 1) aj_nil)) (R_common.mk n d B)) ?_
  refine sj_set 2 G.nd (ej_is (ej_ifI (tj_gt (ej_dat 1) ej_int) (fun _ => (ej_dat 2)) fun _ => (ej_neg (ej_dat 2))) (congrArg PyData.int (com_if (n := n) hd))) ?_
  exact sj_ret (ej_tupD (ad_cons (ej_fdivX (ej_int1 m_int (ej_dat 0)) (ej_dat 2) (cx _)) (ad_cons (ej_fdivX (ej_int1 m_int (ej_dat 1)) (ej_dat 2) (cx _)) ad_nil)) (Nat.le_of_ble_eq_true rfl)) ⟨by rw [red_num hd, red_den hd]; rfl, rfl⟩

abbrev s_l_added : Stmt := topS 46
theorem sc_l_added : FnScope ["_law_x", "_law_y"] ["_law_x", "_law_y"] (defScope s_l_added) := ⟨rfl, rfl, rfl, by decide +kernel, rfl, by decide +kernel, by decide +kernel⟩

theorem c_of_l_added (c_l_over : Cal P w K mg base "_law_over" 5 R_reduced) (T : At K mg "_law_added" s_l_added ["_law_x", "_law_y"]) : Cal P w K mg base "_law_added" 6 (R_two (· + ·)) :=
  cal_at T sc_l_added (by rintro _ _ _ _ ⟨⟩; rfl) fun f cd0 A out s H E G Γ B r B' hR => by
  obtain ⟨n, d, m, c, x, y, B, hx, hy, h1, h2, h3⟩ := hR
  have hne : (x.den : Int) * (y.den : Int) ≠ 0 := Int.mul_ne_zero (den_ne x) (den_ne y)
  exact sj_ret (ej_call c_l_over (G.le (by decide)) (aj_cons (ej_add (ej_mul (ej_at (ej_dat 0)) (ej_at (ej_dat 1)) (cmz hx.nu hy.de)) (ej_mul (ej_at (ej_dat 1)) (ej_at (ej_dat 0)) (cmz hy.nu hx.de)))
    (aj_cons (ej_mul (ej_at (ej_dat 0)) (ej_at (ej_dat 1)) (cmz hx.de hy.de)) aj_nil)) (R_reduced.mk _ _ _ hne ((hx.de.mul hy.de).le (by omega)))) ⟨by rw [add_div], rfl⟩

abbrev s_l_lessened : Stmt := topS 47
theorem sc_l_lessened : FnScope ["_law_x", "_law_y"] ["_law_x", "_law_y"] (defScope s_l_lessened) := ⟨rfl, rfl, rfl, by decide +kernel, rfl, by decide +kernel, by decide +kernel⟩

theorem c_of_l_lessened (c_l_over : Cal P w K mg base "_law_over" 5 R_reduced) (T : At K mg "_law_lessened" s_l_lessened ["_law_x", "_law_y"]) : Cal P w K mg base "_law_lessened" 6 (R_two (· - ·)) :=
  cal_at T sc_l_lessened (by rintro _ _ _ _ ⟨⟩; rfl) fun f cd0 A out s H E G Γ B r B' hR => by
  obtain ⟨n, d, m, c, x, y, B, hx, hy, h1, h2, h3⟩ := hR
  have hne : (x.den : Int) * (y.den : Int) ≠ 0 := Int.mul_ne_zero (den_ne x) (den_ne y)
  exact sj_ret (ej_call c_l_over (G.le (by decide)) (aj_cons (ej_sub (ej_mul (ej_at (ej_dat 0)) (ej_at (ej_dat 1)) (cmz hx.nu hy.de)) (ej_mul (ej_at (ej_dat 1)) (ej_at (ej_dat 0)) (cmz hy.nu hx.de)))
    (aj_cons (ej_mul (ej_at (ej_dat 0)) (ej_at (ej_dat 1)) (cmz hx.de hy.de)) aj_nil)) (R_reduced.mk _ _ _ hne ((hx.de.mul hy.de).le (by omega)))) ⟨by rw [sub_div], rfl⟩

abbrev s_l_multiplied : Stmt := topS 48
theorem sc_l_multiplied : FnScope ["_law_x", "_law_y"] ["_law_x", "_law_y"] (defScope s_l_multiplied) := ⟨rfl, rfl, rfl, by decide +kernel, rfl, by decide +kernel, by decide +kernel⟩

theorem c_of_l_multiplied (c_l_over : Cal P w K mg base "_law_over" 5 R_reduced) (T : At K mg "_law_multiplied" s_l_multiplied ["_law_x", "_law_y"]) : Cal P w K mg base "_law_multiplied" 6 (R_two (· * ·)) :=
  cal_at T sc_l_multiplied (by rintro _ _ _ _ ⟨⟩; rfl) fun f cd0 A out s H E G Γ B r B' hR => by
  obtain ⟨n, d, m, c, x, y, B, hx, hy, h1, h2, h3⟩ := hR
  have hne : (x.den : Int) * (y.den : Int) ≠ 0 := Int.mul_ne_zero (den_ne x) (den_ne y)
  exact sj_ret (ej_call c_l_over (G.le (by decide)) (aj_cons (ej_mul (ej_at (ej_dat 0)) (ej_at (ej_dat 1)) (cmz hx.nu hy.nu))
    (aj_cons (ej_mul (ej_at (ej_dat 0)) (ej_at (ej_dat 1)) (cmz hx.de hy.de)) aj_nil)) (R_reduced.mk _ _ _ hne ((hx.de.mul hy.de).le (by omega)))) ⟨by rw [mul_div], rfl⟩

abbrev s_l_is_below : Stmt := topS 49
theorem sc_l_is_below : FnScope ["_law_x", "_law_y"] ["_law_x", "_law_y"] (defScope s_l_is_below) := ⟨rfl, rfl, rfl, by decide +kernel, rfl, by decide +kernel, by decide +kernel⟩

theorem c_of_l_is_below (T : At K mg "_law_is_below" s_l_is_below ["_law_x", "_law_y"]) : Cal P w K mg base "_law_is_below" 4 R_below :=
  cal_at T sc_l_is_below (by rintro _ _ _ _ ⟨⟩; rfl) fun f cd0 A out s H E G Γ B r B' hR => by
  obtain ⟨n, d, m, c, x, y, B, hx, hy, h1, h2⟩ := hR
  refine sj_ret (ej_lt (ej_mul (ej_at (ej_dat 0)) (ej_at (ej_dat 1)) (cmz hx.nu hy.de)) (ej_mul (ej_at (ej_dat 1)) (ej_at (ej_dat 0)) (cmz hy.nu hx.de))) ⟨?_, rfl⟩
  congr 1
  by_cases h : x < y
  · rw [decide_eq_true h, decide_eq_true ((Rat.lt_iff x y).mp h)]
  · rw [decide_eq_false h, decide_eq_false fun z => h ((Rat.lt_iff x y).mpr z)]

abbrev s_l_sized : Stmt := topS 50
theorem sc_l_sized : FnScope ["_law_x"] ["_law_x"] (defScope s_l_sized) := ⟨rfl, rfl, rfl, by decide +kernel, rfl, by decide +kernel, by decide +kernel⟩

theorem c_of_l_sized (m_abs : mg "abs" = none) (T : At K mg "_law_sized" s_l_sized ["_law_x"]) : Cal P w K mg base "_law_sized" 4 (R_one fun x => fq (absQ x)) :=
  cal_at T sc_l_sized (by rintro _ _ _ _ ⟨⟩; rfl) fun f cd0 A out s H E G Γ B r B' hR => by
  obtain ⟨x, B⟩ := hR
  refine sj_ret (ej_tupD (ad_cons (ej_abs m_abs (ej_at (ej_dat 0))) (ad_cons (ej_at (ej_dat 0)) ad_nil)) (Nat.le_of_ble_eq_true rfl)) ⟨?_, rfl⟩
  unfold fq
  rw [(absQ_num x).1, (absQ_num x).2]

abbrev s_l_power : Stmt := topS 51
theorem sc_l_power : FnScope ["_law_base", "_law_e"] ["_law_base", "_law_e"] (defScope s_l_power) := ⟨rfl, rfl, rfl, by decide +kernel, rfl, by decide +kernel, by decide +kernel⟩

theorem c_of_l_power (c_l_to : Cal P w K mg base "_law_to" 4 R_pow) (T : At K mg "_law_power" s_l_power ["_law_base", "_law_e"]) : Cal P w K mg base "_law_power" 5 R_power_of :=
  cal_at T sc_l_power (by rintro _ _ _ _ ⟨⟩; rfl) fun f cd0 A out s H E G Γ B r B' hR => by
  obtain ⟨b, e, B, h0, hb, h1, h2⟩ := hR
  refine sj_ret (ej_if (d := .da (fq (pw b e))) (tj_ge (ej_dat 1) ej_int) (fun h => ?_) (fun h => ?_)) ⟨rfl, rfl⟩
  · have he : ¬ e < 0 := by have := of_decide_eq_true h; omega
    have hn : e = (e.toNat : Int) := by omega
    unfold pw
    rw [if_neg he, fq_nat]
    exact ej_tupD (ad_cons (ej_call c_l_to (G.le (by decide)) (aj_cons (ej_dat 0) (aj_cons (ej_is (ej_dat 1) (congrArg PyData.int hn)) aj_nil)) (R_pow.mk b e.toNat B hb (by omega))) (ad_cons ej_int ad_nil)) (Nat.le_of_ble_eq_true rfl)
  · have he : e < 0 := by have := of_decide_eq_false h; omega
    have hn : -e = ((-e).toNat : Int) := by omega
    unfold pw
    rw [if_pos he, fq_inv (Nat.pow_pos h0)]
    exact ej_tupD (ad_cons ej_int (ad_cons (ej_call c_l_to (G.le (by decide)) (aj_cons (ej_dat 0) (aj_cons (ej_is (ej_neg (ej_dat 1)) (congrArg PyData.int hn)) aj_nil)) (R_pow.mk b (-e).toNat B hb (by omega))) ad_nil)) (Nat.le_of_ble_eq_true rfl)

abbrev s_l_worth : Stmt := topS 52
theorem sc_l_worth : FnScope ["_law_form", "_law_number_here", "_law_size"] ["_law_form", "_law_number_here"] (defScope s_l_worth) := ⟨rfl, rfl, rfl, by decide +kernel, rfl, by decide +kernel, by decide +kernel⟩

theorem c_of_l_worth (c_l_multiplied : Cal P w K mg base "_law_multiplied" 6 (R_two (· * ·))) (c_l_power : Cal P w K mg base "_law_power" 5 R_power_of) (T : At K mg "_law_worth" s_l_worth ["_law_form", "_law_number_here"]) : Cal P w K mg base "_law_worth" 7 R_worth :=
  cal_at T sc_l_worth (by rintro _ _ _ _ ⟨⟩; rfl) fun f cd0 A out s H E G Γ B r B' hR => by
  obtain ⟨b, p, low, high, s, c, e, B, F, hv⟩ := hR
  obtain ⟨h1, h3, h4, h5, h6⟩ := hv
  have b2 := F.b2; have bp := F.bp; have lo := F.lo; have hi := F.hi
  have hc : Qz 700 1 (c : Rat) := ⟨by rw [Rat.num_intCast]; unfold Bd; omega, by rw [Rat.den_intCast]; unfold Bd; decide⟩
  refine sj_set 2 G.nd (ej_call c_l_multiplied (G.le (by decide)) (aj_cons (ej_is (y := fq (c : Rat)) (ej_tupD (ad_cons (ej_at (ej_dat (d := .tuple [.str "num", .int s, .int c, .int e]) 1)) (ad_cons ej_int ad_nil)) (Nat.le_of_ble_eq_true rfl)) (fq_int c).symm)
    (aj_cons (ej_call c_l_power (G.le (by decide)) (aj_cons (ej_at (ej_dat (d := .tuple [.int b, .int p, .int low, .int high]) 0)) (aj_cons (ej_at (ej_dat (d := .tuple [.str "num", .int s, .int c, .int e]) 1)) aj_nil)) (R_power_of.mk b e B (by omega) F.b6 (by omega) (by omega))) aj_nil))
    (R_two.mk _ _ _ _ _ _ B hc (F.qz h5 h6) (by decide) (by decide) (by decide))) ?_
  generalize hq : (c : Rat) * pw b e = q
  refine sj_ret (ej_if (d := .da (fq (Va.wQ b (.num s c e)))) (tj_eqI G.hu (ej_at (ej_dat (d := .tuple [.str "num", .int s, .int c, .int e]) 1)) ej_int) (fun h => ?_) (fun h => ?_)) ⟨rfl, rfl⟩
  · have e1 : Va.wQ b (.num s c e) = -q := by
      show ((if s = 1 then -c else c : Int) : Rat) * pw b e = -q
      rw [if_pos (of_decide_eq_true h), Rat.intCast_neg, ← hq]; grind
    have e2 : fq (-q) = .tuple [.int (-q.num), .int (q.den : Int)] := by unfold fq; rw [Rat.neg_num, Rat.neg_den]
    rw [e1, e2]
    exact ej_tupD (ad_cons (ej_neg (ej_at (ej_dat (d := .tuple [.int q.num, .int (q.den : Int)]) 2))) (ad_cons (ej_at (ej_dat (d := .tuple [.int q.num, .int (q.den : Int)]) 2)) ad_nil)) (Nat.le_of_ble_eq_true rfl)
  · have e1 : Va.wQ b (.num s c e) = q := by
      show ((if s = 1 then -c else c : Int) : Rat) * pw b e = q
      rw [if_neg (of_decide_eq_false h), ← hq]
    rw [e1]; exact ej_dat 2

abbrev s_l_formats : Stmt := topS 53
theorem sc_l_formats : FnScope ["_law_bag_here", "_law_small"] ["_law_bag_here"] (defScope s_l_formats) := ⟨rfl, rfl, rfl, by decide +kernel, rfl, by decide +kernel, by decide +kernel⟩

theorem c_of_l_formats (c_l_some : Cal P w K mg base "_law_some" 5 R_some) (T : At K mg "_law_formats" s_l_formats ["_law_bag_here"]) : Cal P w K mg base "_law_formats" 6 (R_fmt smallV smallB) :=
  cal_at T sc_l_formats (by rintro _ _ _ _ ⟨⟩; rfl) fun f cd0 A out s H E G Γ B r B' hR => by
  obtain ⟨B, hc⟩ := hR
  refine sj_set 1 G.nd (ej_is (y := .list (([(2, 2, 0, 0), (2, 2, -3, 2), (2, 3, -4, 3), (4, 2, -2, 1), (10, 2, -2, 1), (6, 2, -1, 2), (2, 4, -2, 2)] : List F4).map F4.d)) (ej_lstD (ad_cons (ej_tupD (ad_cons ej_int (ad_cons ej_int (ad_cons ej_int (ad_cons ej_int ad_nil)))) (Nat.le_of_ble_eq_true rfl)) (ad_cons (ej_tupD (ad_cons ej_int (ad_cons ej_int (ad_cons (ej_neg ej_int) (ad_cons ej_int ad_nil)))) (Nat.le_of_ble_eq_true rfl)) (ad_cons (ej_tupD (ad_cons ej_int (ad_cons ej_int (ad_cons (ej_neg ej_int) (ad_cons ej_int ad_nil)))) (Nat.le_of_ble_eq_true rfl)) (ad_cons (ej_tupD (ad_cons ej_int (ad_cons ej_int (ad_cons (ej_neg ej_int) (ad_cons ej_int ad_nil)))) (Nat.le_of_ble_eq_true rfl)) (ad_cons (ej_tupD (ad_cons ej_int (ad_cons ej_int (ad_cons (ej_neg ej_int) (ad_cons ej_int ad_nil)))) (Nat.le_of_ble_eq_true rfl)) (ad_cons (ej_tupD (ad_cons ej_int (ad_cons ej_int (ad_cons (ej_neg ej_int) (ad_cons ej_int ad_nil)))) (Nat.le_of_ble_eq_true rfl)) (ad_cons (ej_tupD (ad_cons ej_int (ad_cons ej_int (ad_cons (ej_neg ej_int) (ad_cons ej_int ad_nil)))) (Nat.le_of_ble_eq_true rfl)) ad_nil))))))) (Nat.le_of_ble_eq_true rfl)) rfl) ?_
  have r := R_some.mk B (smallF.map F4.d) (by decide) (by decide) hc
  rw [pick_fm smallF B (by decide)] at r
  exact sj_ret (ej_call c_l_some (G.le (by decide)) (aj_cons (ej_bag 0) (aj_cons (ej_is (y := .list (smallF.map F4.d)) (ej_catL (ej_dat 1) (ej_lstD (ad_cons (ej_tupD (ad_cons ej_int (ad_cons ej_int (ad_cons ej_int (ad_cons ej_int ad_nil)))) (Nat.le_of_ble_eq_true rfl)) (ad_cons (ej_tupD (ad_cons ej_int (ad_cons ej_int (ad_cons ej_int (ad_cons ej_int ad_nil)))) (Nat.le_of_ble_eq_true rfl)) (ad_cons (ej_tupD (ad_cons ej_int (ad_cons ej_int (ad_cons (ej_neg ej_int) (ad_cons (ej_neg ej_int) ad_nil)))) (Nat.le_of_ble_eq_true rfl)) ad_nil))) (Nat.le_of_ble_eq_true rfl)) (Nat.le_of_ble_eq_true rfl)) rfl) aj_nil)) r) ⟨rfl, rfl⟩

abbrev s_l_edges : Stmt := topS 54
theorem sc_l_edges : FnScope ["_law_form", "_law_base", "_law_digits", "_law_low", "_law_high", "_law_lead", "_law_most", "_law_found"] ["_law_form"] (defScope s_l_edges) := ⟨rfl, rfl, rfl, by decide +kernel, rfl, by decide +kernel, by decide +kernel⟩

theorem c_of_l_edges (c_l_to : Cal P w K mg base "_law_to" 4 R_pow) (T : At K mg "_law_edges" s_l_edges ["_law_form"]) : Cal P w K mg base "_law_edges" 5 R_edges :=
  cal_at T sc_l_edges (by rintro _ _ _ _ ⟨⟩; rfl) fun f cd0 A out s H E G Γ B r B' hR => by
  obtain ⟨b, p, low, high, B, F⟩ := hR
  have p2 := F.p2; have p7 := F.p7
  have e1 : (p : Int) - 1 = ((p - 1 : Nat) : Int) := by omega
  refine sj_unpack [1, 2, 3, 4] G.calm (ej_dat (d := .tuple [.int b, .int p, .int low, .int high]) 0) (pgs_cons (pg_name (i := 1) G.nd rfl (Or.inl rfl)) (pgs_cons (pg_name (i := 2) G.nd rfl (Or.inl rfl)) (pgs_cons (pg_name (i := 3) G.nd rfl (Or.inl rfl)) (pgs_cons (pg_name (i := 4) G.nd rfl (Or.inl rfl)) pgs_nil)))) rfl ?_
  refine sj_par 5 6 G.nd G.calm (aj_cons (ej_call c_l_to (G.le (by decide)) (aj_cons (ej_dat 1) (aj_cons (ej_is (ej_sub (ej_dat 2) ej_int) (congrArg PyData.int e1)) aj_nil)) (R_pow.mk b (p - 1) B F.b6 (by omega))) (aj_cons (ej_sub (ej_call c_l_to (G.le (by decide)) (aj_cons (ej_dat 1) (aj_cons (ej_dat 2) aj_nil)) (R_pow.mk b p B F.b6 (by omega))) ej_int) aj_nil)) ?_ (by decide) (by rfl)
  refine sj_set 7 G.nd (ej_lstD (ad_cons (ej_tupD (ad_cons ej_str (ad_cons ej_int (ad_cons ej_int (ad_cons (ej_dat 3) ad_nil)))) (Nat.le_of_ble_eq_true rfl)) (ad_cons (ej_tupD (ad_cons ej_str (ad_cons ej_int (ad_cons ej_int (ad_cons (ej_dat 3) ad_nil)))) (Nat.le_of_ble_eq_true rfl)) (ad_cons (ej_tupD (ad_cons ej_str (ad_cons ej_int (ad_cons (ej_sub (ej_dat 5) ej_int) (ad_cons (ej_dat 3) ad_nil)))) (Nat.le_of_ble_eq_true rfl)) (ad_cons (ej_tupD (ad_cons ej_str (ad_cons ej_int (ad_cons (ej_dat 5) (ad_cons (ej_dat 3) ad_nil)))) (Nat.le_of_ble_eq_true rfl)) ad_nil)))) (Nat.le_of_ble_eq_true rfl)) ?_
  refine sj_set 7 G.nd (ej_catL (ej_dat 7) (ej_lstD (ad_cons (ej_tupD (ad_cons ej_str (ad_cons ej_int (ad_cons (ej_add (ej_dat 5) ej_int) (ad_cons (ej_dat 3) ad_nil)))) (Nat.le_of_ble_eq_true rfl)) (ad_cons (ej_tupD (ad_cons ej_str (ad_cons ej_int (ad_cons (ej_dat 6) (ad_cons (ej_dat 3) ad_nil)))) (Nat.le_of_ble_eq_true rfl)) (ad_cons (ej_tupD (ad_cons ej_str (ad_cons ej_int (ad_cons (ej_dat 5) (ad_cons (ej_dat 4) ad_nil)))) (Nat.le_of_ble_eq_true rfl)) (ad_cons (ej_tupD (ad_cons ej_str (ad_cons ej_int (ad_cons (ej_dat 6) (ad_cons (ej_dat 4) ad_nil)))) (Nat.le_of_ble_eq_true rfl)) ad_nil)))) (Nat.le_of_ble_eq_true rfl)) (Nat.le_of_ble_eq_true rfl)) ?_
  exact sj_ret (ej_catL (ej_dat 7) (ej_lstD (ad_cons (ej_tupD (ad_cons ej_str (ad_cons ej_int (ad_cons (ej_sub (ej_dat 6) ej_int) (ad_cons (ej_dat 4) ad_nil)))) (Nat.le_of_ble_eq_true rfl)) (ad_cons (ej_tupD (ad_cons ej_str (ad_cons ej_int (ad_cons (ej_add (ej_dat 5) (ej_fdiv (ej_dat 5) ej_int (cdv (show Bd 2 2 from by unfold Bd; decide) (by decide)))) (ad_cons (ej_dat 4) ad_nil)))) (Nat.le_of_ble_eq_true rfl)) ad_nil)) (Nat.le_of_ble_eq_true rfl)) (Nat.le_of_ble_eq_true rfl)) ⟨rfl, rfl⟩

abbrev s_l_number : Stmt := topS 55
theorem sc_l_number : FnScope ["_law_bag_here", "_law_form", "_law_base", "_law_digits", "_law_low", "_law_high", "_law_way", "_law_s", "_law_number_here", "_law_e", "_law_lead", "_law_c"] ["_law_bag_here", "_law_form"] (defScope s_l_number) := ⟨rfl, rfl, rfl, by decide +kernel, rfl, by decide +kernel, by decide +kernel⟩

theorem c_of_l_number (m_min : mg "min" = none) (m_max : mg "max" = none) (c_l_take : Cal P w K mg base "_law_take" 4 R_take) (c_l_some : Cal P w K mg base "_law_some" 5 R_some) (c_l_edges : Cal P w K mg base "_law_edges" 5 R_edges) (c_l_to : Cal P w K mg base "_law_to" 4 R_pow)
    (T : At K mg "_law_number" s_l_number ["_law_bag_here", "_law_form"]) : Cal P w K mg base "_law_number" 6 (R_draw numV numB) :=
  cal_at T sc_l_number (by rintro _ _ _ _ ⟨⟩; rfl) fun f cd0 A out s H E G Γ B r B' hR => by
  obtain ⟨b, p, low, high, B, F, hc⟩ := hR
  have p2 := F.p2; have p7 := F.p7; have lh := F.lh; have lo := F.lo; have hi := F.hi; have bp := F.bp
  have e1 : (p : Int) - 1 = ((p - 1 : Nat) : Int) := by omega
  obtain ⟨l2, ge, ee⟩ := lf F
  have hfl : Bd 8000 (full b p - lead b p) := by
    have : full b p = ((b ^ p : Nat) : Int) := rfl
    exact Bd.le (n := 700) (by unfold Bd; omega) (by decide)
  have hld : Bd 8000 (lead b p) := by
    have : full b p = ((b ^ p : Nat) : Int) := rfl
    exact Bd.le (n := 700) (by unfold Bd; omega) (by decide)
  have hhl : Bd 8000 (high - low + 1) := Bd.le (n := 12) (by unfold Bd; omega) (by decide)
  have mkT : ∀ (B : Bag) (m : Int), 0 < m → Bd 8000 m → Bok B → R_take [.bag, .da (.int m)] B (.int (tkV B m)) (tkB B m) := fun B m h1 h2 h3 => R_take.mk B m h1 h2 h3
  have t6 := mkT B 6 (by decide) (by unfold Bd; decide +kernel) hc
  have hc6 := tkB_ok hc 6
  have t2 := mkT (tkB B 6) 2 (by decide) (by unfold Bd; decide +kernel) hc6
  have hc2 : Bok (numB2 B) := numB2_ok hc
  refine sj_unpack [2, 3, 4, 5] G.calm (ej_dat (d := .tuple [.int b, .int p, .int low, .int high]) 1) (pgs_cons (pg_name (i := 2) G.nd rfl (Or.inl rfl)) (pgs_cons (pg_name (i := 3) G.nd rfl (Or.inl rfl)) (pgs_cons (pg_name (i := 4) G.nd rfl (Or.inl rfl)) (pgs_cons (pg_name (i := 5) G.nd rfl (Or.inl rfl)) pgs_nil)))) rfl ?_
  refine sj_par 6 7 G.nd G.calm (aj_cons (ej_call c_l_take (G.le (by decide)) (aj_cons (ej_bag 0) (aj_cons ej_int aj_nil)) t6) (aj_cons (ej_call c_l_take (G.le (by decide)) (aj_cons (ej_bag 0) (aj_cons ej_int aj_nil)) t2) aj_nil)) ?_ (by decide) (by rfl)
  unfold numV numB
  show SJ _ _ (numB2 B) _ _
  refine sj_ifM (fun Γ' B2 => ∃ c e : Int, Γ'.length = 12 ∧ Γ'[7]? = some (.da (.int (tkV (tkB B 6) 2))) ∧ Γ'[8]? = some (.da (Va.d (.num 0 c e))) ∧
      (if tkV B 6 < 2 then Va.num (tkV (tkB B 6) 2) (pickV (edgesV b p low high) (numB2 B)).c (pickV (edgesV b p low high) (numB2 B)).e
        else Va.num (tkV (tkB B 6) 2) (numC2 b p low (tkV B 6) (numE p low high (numB2 B)) (numC b p (tkV B 6) (numEB low high (numB2 B))) (numCB b p (tkV B 6) (numEB low high (numB2 B)))) (numE p low high (numB2 B))) = Va.num (tkV (tkB B 6) 2) c e ∧
      B2 = (if tkV B 6 < 2 then tkB (numB2 B) 10 else numC2B b p low (tkV B 6) (numE p low high (numB2 B)) (numCB b p (tkV B 6) (numEB low high (numB2 B)))))
    (tj_lt (ej_dat 6) ej_int) (fun h => ?_) (fun h => ?_) ?_
  · have h' : tkV B 6 < 2 := of_decide_eq_true h
    rw [if_pos h', if_pos h']
    have r := R_some.mk (numB2 B) ((edgesV b p low high).map Va.d) (Nat.le_of_ble_eq_true rfl) (Nat.le_of_ble_eq_true rfl) hc2
    rw [pick_va (edgesV b p low high) (numB2 B) (Nat.le_of_ble_eq_true rfl)] at r
    obtain ⟨c, e, h1, h3⟩ := edges_ok F _ (pickV_mem (edgesV b p low high) (numB2 B) (Nat.le_of_ble_eq_true rfl))
    rw [h1] at r ⊢
    exact sj_set 8 G.nd (ej_call c_l_some (G.le (by decide)) (aj_cons (ej_bag 0) (aj_cons (ej_call c_l_edges (G.le (by decide)) (aj_cons (ej_dat 1) aj_nil) (R_edges.mk b p low high _ F)) aj_nil)) r) (sj_nil ⟨c, e, rfl, rfl, rfl, rfl, rfl⟩)
  · have h' : ¬ tkV B 6 < 2 := of_decide_eq_false h
    rw [if_neg h', if_neg h']
    generalize tkV B 6 = wy at *
    generalize numB2 B = B2 at *
    have th := mkT B2 (high - low + 1) (by omega) hhl hc2
    have hch := tkB_ok hc2 (high - low + 1)
    refine sj_set 9 G.nd (some_int [low, high, low + tkV B2 (high - low + 1), min high (max low (-((p : Int) / 2)))] G (by decide) c_l_some (aj_cons (ej_bag 0) (aj_cons (ej_lstD (ad_cons (ej_dat 4) (ad_cons (ej_dat 5) (ad_cons (ej_add (ej_dat 4) (ej_call c_l_take (G.le (by decide)) (aj_cons (ej_bag 0) (aj_cons (ej_add (ej_sub (ej_dat 5) (ej_dat 4)) ej_int) aj_nil)) th))
      (ad_cons (ej_min G.calm m_min (ej_dat 5) (ej_max G.calm m_max (ej_dat 4) (ej_neg (ej_fdiv (ej_dat 3) ej_int (cdv (show Bd 2 2 from by unfold Bd; decide) (by decide)))))) ad_nil)))) (Nat.le_of_ble_eq_true rfl)) aj_nil)) (Nat.le_of_ble_eq_true rfl) (Nat.le_of_ble_eq_true rfl) hch) ?_
    show SJ _ _ (numEB low high B2) _ _
    have hce : Bok (numEB low high B2) := numEB_ok hc2
    refine sj_set 10 G.nd (ej_call c_l_to (G.le (by decide)) (aj_cons (ej_dat 2) (aj_cons (ej_is (ej_sub (ej_dat 3) ej_int) (congrArg PyData.int e1)) aj_nil)) (R_pow.mk b (p - 1) _ F.b6 (by omega))) ?_
    show SJ _ ((((([.bag, .da (fmP b p low high), .da (.int b), .da (.int p), .da (.int low), .da (.int high), .da (.int wy), .da (.int (tkV (tkB B 6) 2)), .no, .da (.int (numE p low high B2)), .da (.int (lead b p)), .no] : List VD)))) ) _ _ _
    generalize numE p low high B2 = ev at *
    generalize numEB low high B2 = B3 at *
    have tf := mkT B3 (full b p - lead b p) (by omega) hfl hce
    have hcf := tkB_ok hce (full b p - lead b p)
    refine sj_set 11 G.nd (ej_add (ej_dat 10) (ej_call c_l_take (G.le (by decide)) (aj_cons (ej_bag 0) (aj_cons (ej_is (y := .int (full b p - lead b p)) (ej_sub (ej_call c_l_to (G.le (by decide)) (aj_cons (ej_dat 2) (aj_cons (ej_dat 3) aj_nil)) (R_pow.mk b p _ F.b6 (by omega))) (ej_dat 10)) rfl) aj_nil)) tf)) ?_
    refine sj_ifM (fun Γ' B4 => Γ' = [.bag, .da (fmP b p low high), .da (.int b), .da (.int p), .da (.int low), .da (.int high), .da (.int wy), .da (.int (tkV (tkB B 6) 2)), .no, .da (.int ev), .da (.int (lead b p)), .da (.int (numC b p wy B3))] ∧ B4 = numCB b p wy B3)
      (tj_eqI G.hu (ej_dat 6) ej_int) (fun h => ?_) (fun h => ?_) ?_
    · have h2 : wy = 2 := of_decide_eq_true h
      refine sj_set 11 G.nd (some_int [lead b p, lead b p * (b - 1), lead b p + 1, full b p - 1] G (by decide) c_l_some (aj_cons (ej_bag 0) (aj_cons (ej_lstD (ad_cons (ej_dat 10) (ad_cons (ej_mul (ej_dat 10) (ej_sub (ej_dat 2) ej_int) (cmz hld (show Bd 8000 ((b : Int) - 1) from Bd.le (n := 7) (by have := F.b6; unfold Bd; omega) (by decide))))
        (ad_cons (ej_add (ej_dat 10) ej_int) (ad_cons (ej_is (y := .int (full b p - 1)) (ej_sub (ej_call c_l_to (G.le (by decide)) (aj_cons (ej_dat 2) (aj_cons (ej_dat 3) aj_nil)) (R_pow.mk b p _ F.b6 (by omega))) ej_int) rfl) ad_nil)))) (Nat.le_of_ble_eq_true rfl)) aj_nil)) (Nat.le_of_ble_eq_true rfl) (Nat.le_of_ble_eq_true rfl) hcf) (sj_nil ?_)
      unfold numC numCB; rw [if_pos h2, if_pos h2]; exact ⟨rfl, rfl⟩
    · have h2 : ¬ wy = 2 := of_decide_eq_false h
      refine sj_nil ?_
      unfold numC numCB; rw [if_neg h2, if_neg h2]; exact ⟨rfl, rfl⟩
    · rintro Γ4 B4 ⟨rfl, rfl⟩
      have hc4 : Bok (numCB b p wy B3) := numCB_ok hce
      generalize numC b p wy B3 = cv at *
      generalize numCB b p wy B3 = B4 at *
      refine sj_ifM (fun Γ' B5 => Γ' = [.bag, .da (fmP b p low high), .da (.int b), .da (.int p), .da (.int low), .da (.int high), .da (.int wy), .da (.int (tkV (tkB B 6) 2)), .no, .da (.int ev), .da (.int (lead b p)), .da (.int (numC2 b p low wy ev cv B4))] ∧ B5 = numC2B b p low wy ev B4)
        (tj_w (wj_and (tj_eqI G.hu (ej_dat 9) (ej_dat 4)) fun _ => wj_and1 (tj_eqI G.hu (ej_dat 6) ej_int))) (fun h => ?_) (fun h => ?_) ?_
      · have h2 : ev = low ∧ wy = 3 := by simpa using h
        refine sj_set 11 G.nd (ej_call c_l_take (G.le (by decide)) (aj_cons (ej_bag 0) (aj_cons (ej_dat 10) aj_nil)) (mkT B4 (lead b p) (by omega) hld hc4)) (sj_nil ?_)
        unfold numC2 numC2B; rw [if_pos h2, if_pos h2]; exact ⟨rfl, rfl⟩
      · have h2 : ¬ (ev = low ∧ wy = 3) := by simpa using h
        refine sj_nil ?_
        unfold numC2 numC2B; rw [if_neg h2, if_neg h2]; exact ⟨rfl, rfl⟩
      · rintro Γ5 B5 ⟨rfl, rfl⟩
        exact sj_set 8 G.nd (ej_tupD (ad_cons ej_str (ad_cons ej_int (ad_cons (ej_dat 11) (ad_cons (ej_dat 9) ad_nil)))) (Nat.le_of_ble_eq_true rfl)) (sj_nil ⟨_, _, rfl, rfl, rfl, rfl, rfl⟩)
  · rintro Γ2 B2 ⟨c, e, hlen, g7, g8, hv, rfl⟩
    rw [hv]
    refine sj_ret (ej_catT (ej_tupD (ad_cons ej_str (ad_cons (ej_dat 7 g7) ad_nil)) (Nat.le_of_ble_eq_true rfl)) (ej_is (ej_sliceT (ej_dat (d := .tuple (Va.l (.num 0 c e))) 8 g8) (oj_some ej_int) oj_none) (congrArg PyData.tuple (cut2 (Va.l (.num 0 c e)) 2))) (Nat.le_of_ble_eq_true rfl)) ⟨rfl, rfl⟩

abbrev s_l_grid : Stmt := topS 56
theorem sc_l_grid : FnScope ["_law_form", "_law_x", "_law_base", "_law_digits", "_law_low", "_law_high", "_law_size", "_law_bound", "_law_e", "_law_many", "_law_step"] ["_law_form", "_law_x"] (defScope s_l_grid) := ⟨rfl, rfl, rfl, by decide +kernel, rfl, by decide +kernel, by decide +kernel⟩

theorem c_of_l_grid (m_int : mg "int" = none) (m_max : mg "max" = none) (c_l_to : Cal P w K mg base "_law_to" 4 R_pow) (T : At K mg "_law_grid" s_l_grid ["_law_form", "_law_x"]) : Cal P w K mg base "_law_grid" 5 R_grid :=
  cal_at T sc_l_grid (by rintro _ _ _ _ ⟨⟩; rfl) fun f cd0 A out s H E G Γ B r B' hR => by
  obtain ⟨b, p, low, high, q, n, d, B, F, h0, hq, hn, hd⟩ := hR
  have b2 := F.b2; have p2 := F.p2; have p7 := F.p7; have lo := F.lo; have lh := F.lh; have hi := F.hi; have b6 := F.b6
  refine sj_unpack [2, 3, 4, 5] G.calm (ej_dat (d := .tuple [.int b, .int p, .int low, .int high]) 0) (pgs_cons (pg_name (i := 2) G.nd rfl (Or.inl rfl)) (pgs_cons (pg_name (i := 3) G.nd rfl (Or.inl rfl)) (pgs_cons (pg_name (i := 4) G.nd rfl (Or.inl rfl)) (pgs_cons (pg_name (i := 5) G.nd rfl (Or.inl rfl)) pgs_nil)))) rfl ?_
  have ei : max 0 (-low) = ((-low).toNat : Int) := by omega
  have ej : (p : Int) + max 0 low = ((p + low.toNat : Nat) : Int) := by omega
  have hbl := F.bl
  have hb0 : Bd 2340 ((b ^ (-low).toNat : Nat) : Int) := Bd.nat hbl
  have hbj : b ^ (p + low.toNat) < 2 ^ 3040 := by
    have h1 := F.pow_hi lh; have h3 := F.bp
    rw [Nat.pow_add]
    have h5 : b ^ p * b ^ low.toNat < 2 ^ 700 * 2 ^ 2340 := Nat.mul_lt_mul'' h3 h1
    have h7 : 2 ^ 700 * 2 ^ 2340 = 2 ^ 3040 := by rw [← Nat.pow_add]
    rw [h7] at h5; exact h5
  have hsz : Bd 11240 (q.num * ((b ^ (-low).toNat : Nat) : Int)) := (hq.nu.mul hb0).le (by omega)
  have hb00 : Bd 9540 ((q.den : Int) * ((b ^ (p + low.toNat) : Nat) : Int)) := (hq.de.mul (Bd.nat hbj)).le (by omega)
  refine sj_par3 6 7 8 G.nd G.calm (aj_cons (ej_mul (ej_at (ej_dat (d := .tuple [.int q.num, .int (q.den : Int)]) 1)) (ej_call c_l_to (G.le (by decide)) (aj_cons (ej_dat 2) (aj_cons (ej_is (ej_max G.calm m_max ej_int (ej_neg (ej_dat 4))) (congrArg PyData.int ei)) aj_nil)) (R_pow.mk b _ B b6 (by omega))) (cmz hq.nu hb0))
    (aj_cons (ej_mul (ej_at (ej_dat (d := .tuple [.int q.num, .int (q.den : Int)]) 1)) (ej_call c_l_to (G.le (by decide)) (aj_cons (ej_dat 2) (aj_cons (ej_is (ej_add (ej_dat 3) (ej_max G.calm m_max ej_int (ej_dat 4))) (congrArg PyData.int ej)) aj_nil)) (R_pow.mk b _ B b6 (by omega))) (cmz hq.de (Bd.nat hbj)))
    (aj_cons (ej_dat 4) aj_nil))) ?_ (by decide) (by decide) (by decide) (by rfl)
  generalize hS : q.num * ((b ^ (-low).toNat : Nat) : Int) = S at *
  have hS0 : 0 ≤ S := by rw [← hS]; exact Int.mul_nonneg (Rat.num_nonneg.mpr h0) (Int.natCast_nonneg _)
  have hbd : ∀ t : Nat, (t = 0 ∨ (q.den : Int) * ((b ^ (p + low.toNat + t) : Nat) : Int) ≤ S) → Bd 11240 ((q.den : Int) * ((b ^ (p + low.toNat + t) : Nat) : Int)) := by
    rintro t (rfl | h)
    · exact hb00.le (by decide)
    · have : 0 ≤ (q.den : Int) * ((b ^ (p + low.toNat + t) : Nat) : Int) := Int.mul_nonneg (Int.le_of_lt (den_pos q)) (Int.natCast_nonneg _)
      unfold Bd at *; omega
  have hst : ∀ (t m : Nat), (q.den : Int) * ((b ^ (p + low.toNat + t) : Nat) : Int) * ((b ^ m : Nat) : Int) = (q.den : Int) * ((b ^ (p + low.toNat + (t + m)) : Nat) : Int) := by
    intro t m; rw [Int.mul_assoc, ← Int.natCast_mul, ← Nat.pow_add, Nat.add_assoc]
  have hpos : ∀ t : Nat, 0 < (q.den : Int) * ((b ^ (p + low.toNat + t) : Nat) : Int) := fun t => Int.mul_pos (den_pos q) (Int.natCast_pos.mpr (Nat.pow_pos (by omega)))
  refine sj_forT (ds := [.int 512, .int 64, .int 8, .int 1]) 9 G.nd G.calm (fun i Γ' B2 => ∃ (t : Nat) (z1 z2 : VD), Γ' = [.da (fmP b p low high), .da (fq q), .da (.int b), .da (.int p), .da (.int low), .da (.int high), .da (.int S), .da (.int ((q.den : Int) * ((b ^ (p + low.toNat + t) : Nat) : Int))), .da (.int (low + t)), z1, z2] ∧ B2 = B ∧
      (t = 0 ∨ (q.den : Int) * ((b ^ (p + low.toNat + t) : Nat) : Int) ≤ S) ∧ (i = 4 → S < (q.den : Int) * ((b ^ (p + low.toNat + (t + 1)) : Nat) : Int)))
    (ej_tupD (ad_cons ej_int (ad_cons ej_int (ad_cons ej_int (ad_cons ej_int ad_nil)))) (Nat.le_of_ble_eq_true rfl)) ⟨0, .no, .no, by rw [show low + ((0 : Nat) : Int) = low by omega]; rfl, rfl, .inl rfl, fun z => absurd z (by decide)⟩ (fun i y Γ' B2 hy hP => ?_) (fun Γ' B2 hP => ?_)
  · obtain ⟨t, z1, z2, rfl, rfl, ht, _⟩ := hP
    obtain ⟨m, rfl, hm1, hm512, hm4⟩ : ∃ m : Nat, y = .int (m : Int) ∧ 1 ≤ m ∧ m ≤ 512 ∧ (i = 3 → m = 1) := by
      match i, hy with
      | 0, hy => cases hy; exact ⟨512, rfl, by decide, by decide, fun z => absurd z (by decide)⟩
      | 1, hy => cases hy; exact ⟨64, rfl, by decide, by decide, fun z => absurd z (by decide)⟩
      | 2, hy => cases hy; exact ⟨8, rfl, by decide, by decide, fun z => absurd z (by decide)⟩
      | 3, hy => cases hy; exact ⟨1, rfl, by decide, by decide, fun _ => rfl⟩
      | i + 4, hy => cases hy
    have hbm : Bd 3073 ((b ^ m : Nat) : Int) := (bd_pow m b6).le (by omega)
    refine sj_set 10 G.nd (ej_call c_l_to (G.le (by decide)) (aj_cons (ej_dat 2) (aj_cons (ej_dat 9) aj_nil)) (R_pow.mk b m B2 b6 (by omega))) ?_
    refine sj_while G.nd (fun Γ' B3 => ∃ t : Nat, Γ' = [.da (fmP b p low high), .da (fq q), .da (.int b), .da (.int p), .da (.int low), .da (.int high), .da (.int S), .da (.int ((q.den : Int) * ((b ^ (p + low.toNat + t) : Nat) : Int))), .da (.int (low + t)), .da (.int (m : Int)), .da (.int ((b ^ m : Nat) : Int))] ∧ B3 = B2 ∧
      (t = 0 ∨ (q.den : Int) * ((b ^ (p + low.toNat + t) : Nat) : Int) ≤ S)) (fun Γ' _ => (S + 1 - intAt Γ' 7).toNat) ⟨t, rfl, rfl, ht⟩ ?_
    rintro Γ3 B3 ⟨t, rfl, rfl, ht⟩
    have hbt := hbd t ht
    refine ⟨_, tj_ge (ej_dat 6) (ej_mul (ej_dat 7) (ej_dat 10) (cmz hbt hbm)), fun h => ?_, fun h => ?_⟩
    · have hge : (q.den : Int) * ((b ^ (p + low.toNat + (t + m)) : Nat) : Int) ≤ S := by rw [← hst]; exact of_decide_eq_true h
      refine sj_par 7 8 G.nd G.calm (aj_cons (ej_mul (ej_dat 7) (ej_dat 10) (cmz hbt hbm)) (aj_cons (ej_add (ej_dat 8) (ej_dat 9)) aj_nil)) (sj_nil ?_) (by decide) (by rfl)
      rw [hst]
      refine ⟨⟨t + m, by rw [show low + (t : Int) + (m : Int) = low + ((t + m : Nat) : Int) by omega]; rfl, rfl, .inr hge⟩, ?_⟩
      show (S + 1 - (q.den : Int) * ((b ^ (p + low.toNat + (t + m)) : Nat) : Int)).toNat < (S + 1 - (q.den : Int) * ((b ^ (p + low.toNat + t) : Nat) : Int)).toNat
      have hlt : (q.den : Int) * ((b ^ (p + low.toNat + t) : Nat) : Int) < (q.den : Int) * ((b ^ (p + low.toNat + (t + m)) : Nat) : Int) :=
        Int.mul_lt_mul_of_pos_left (Int.ofNat_lt.mpr (Nat.pow_lt_pow_right (by omega) (by omega))) (den_pos q)
      omega
    · have hlt : S < (q.den : Int) * ((b ^ (p + low.toNat + (t + m)) : Nat) : Int) := by rw [← hst]; have := of_decide_eq_false h; omega
      exact sj_nil ⟨t, _, _, rfl, rfl, ht, fun h4 => by rw [hm4 (by omega)] at hlt; exact hlt⟩
  · obtain ⟨t, z1, z2, rfl, rfl, ht, h4⟩ := hP
    have h4 := h4 rfl
    have hbt := hbd t ht
    have es : ∀ t : Nat, ((p + low.toNat + t : Nat) : Int) - ((-low).toNat : Nat) = p + (low + t) := fun t => by omega
    have k1 := lt_pw_iff b2 q (-low).toNat (p + low.toNat + (t + 1))
    rw [es, hS] at k1
    have k0 := lt_pw_iff b2 q (-low).toNat (p + low.toNat + t)
    rw [es, hS] at k0
    have hE : IsE b p low q (low + t + (if decide ((q.den : Int) * ((b ^ (p + low.toNat + t) : Nat) : Int) ≤ S) = true then 1 else 0)) := by
      by_cases h : (q.den : Int) * ((b ^ (p + low.toNat + t) : Nat) : Int) ≤ S
      · rw [decide_eq_true h, if_pos rfl]
        refine ⟨by omega, ?_, .inr ?_⟩
        · have := k1.mpr h4
          rw [show (p : Int) + (low + t + 1) = p + (low + (t + 1 : Nat)) by omega]; exact this
        · have := Rat.not_lt.mp (fun z => absurd (k0.mp z) (by omega))
          rw [show (p : Int) + (low + t + 1) - 1 = p + (low + t) by omega]; exact this
      · rw [decide_eq_false h, if_neg (by decide)]
        rcases ht with rfl | ht
        · refine ⟨by omega, ?_, .inl (by omega)⟩
          have := k0.mpr (by omega)
          rw [show (p : Int) + (low + ((0 : Nat) : Int) + 0) = p + (low + ((0 : Nat) : Int)) by omega]; exact this
        · exact absurd ht h
    have eE := (eQ_of b2 hE).symm
    refine sj_set 8 G.nd (ej_is (y := .int (eQ b p low q)) (ej_add (ej_dat 8) (ej_intB m_int (ej_ge (ej_dat 6) (ej_dat 7)))) (congrArg PyData.int eE)) ?_
    clear hE eE
    have hE := eQ_is (p := p) b2 low q
    have he := F.e_hi hq h0 hE hn
    have hlo := hE.1
    generalize eQ b p low q = e at *
    have hD := F.D_bd hq h0 hE hn hd
    have hDp := Dq_pos b2 e q
    have e1 : max 0 (-e) = ((-e).toNat : Int) := by omega
    have e3 : max 0 e = (e.toNat : Int) := by omega
    have hup : Bd 2340 ((b ^ (-e).toNat : Nat) : Int) := Bd.nat (F.pow_lo hlo)
    have hdn : Bd 9400 ((b ^ e.toNat : Nat) : Int) := by
      rcases F.e_bd hq h0 hE with ⟨z, _, _⟩ | z
      · have hd1 : 1 ≤ q.den := q.den_pos
        exact (Bd.nat (Nat.lt_of_le_of_lt (Nat.le_mul_of_pos_left _ hd1) z)).le (by omega)
      · have h1 : b ^ e.toNat < 2 ^ 2340 := by
          rcases z with z | z
          · have : e.toNat = 0 := by omega
            rw [this, Nat.pow_zero]; exact Nat.one_lt_two_pow (by decide)
          · rw [z]; exact F.pow_hi F.lh
        exact (Bd.nat h1).le (by decide)
    exact sj_ret (ej_tupD (ad_cons (ej_is (y := .int (cQ b e q)) (ej_fdiv (ej_int1 m_int (ej_mul (ej_at (ej_dat (d := .tuple [.int q.num, .int (q.den : Int)]) 1)) (ej_call c_l_to (G.le (by decide)) (aj_cons (ej_dat 2) (aj_cons (ej_is (ej_max G.calm m_max ej_int (ej_neg (ej_dat 8))) (congrArg PyData.int e1)) aj_nil)) (R_pow.mk b _ _ b6 (by omega))) (cmz hq.nu hup)))
      (ej_is (y := .int (Dq b e q)) (ej_mul (ej_at (ej_dat (d := .tuple [.int q.num, .int (q.den : Int)]) 1)) (ej_call c_l_to (G.le (by decide)) (aj_cons (ej_dat 2) (aj_cons (ej_is (ej_max G.calm m_max ej_int (ej_dat 8)) (congrArg PyData.int e3)) aj_nil)) (R_pow.mk b _ _ b6 (by omega))) (cmz hq.de hdn)) rfl) (cdv hD hDp)) rfl) (ad_cons (ej_dat 8) ad_nil)) (Nat.le_of_ble_eq_true rfl)) ⟨rfl, rfl⟩

abbrev s_l_neighbours : Stmt := topS 57
theorem sc_l_neighbours : FnScope ["_law_form", "_law_x", "_law_c", "_law_e", "_law_unit", "_law_lower"] ["_law_form", "_law_x"] (defScope s_l_neighbours) := ⟨rfl, rfl, rfl, by decide +kernel, rfl, by decide +kernel, by decide +kernel⟩

theorem c_of_l_neighbours (c_l_grid : Cal P w K mg base "_law_grid" 5 R_grid) (c_l_power : Cal P w K mg base "_law_power" 5 R_power_of) (c_l_multiplied : Cal P w K mg base "_law_multiplied" 6 (R_two (· * ·))) (T : At K mg "_law_neighbours" s_l_neighbours ["_law_form", "_law_x"]) : Cal P w K mg base "_law_neighbours" 7 R_neigh :=
  cal_at T sc_l_neighbours (by rintro _ _ _ _ ⟨⟩; rfl) fun f cd0 A out s H E G Γ B r B' hR => by
  obtain ⟨b, p, low, high, q, n, d, B, F, h0, hq, hn, hd⟩ := hR
  have b2 := F.b2; have lo := F.lo; have bp := F.bp
  have hE := eQ_is (p := p) b2 low q
  refine sj_unpack [2, 3] G.calm (ej_call c_l_grid (G.le (by decide)) (aj_cons (ej_dat 0) (aj_cons (ej_dat 1) aj_nil)) (R_grid.mk b p low high q n d B F h0 hq hn hd)) (pgs_cons (pg_name (i := 2) G.nd rfl (Or.inl rfl)) (pgs_cons (pg_name (i := 3) G.nd rfl (Or.inl rfl)) pgs_nil)) rfl ?_
  have he := F.e_hi hq h0 hE hn
  have hu := F.u_bd hq h0 hE
  have hlo := hE.1
  have hc0 := c_ge b2 h0 (eQ b p low q)
  have hc1 := c_lt b2 hE
  generalize eQ b p low q = e at *
  have hc : Qz 700 1 (cQ b e q : Rat) := ⟨by rw [Rat.num_intCast]; unfold Bd; omega, by rw [Rat.den_intCast]; unfold Bd; decide⟩
  have hc' : Qz 701 1 ((cQ b e q + 1 : Int) : Rat) := ⟨by rw [Rat.num_intCast]; unfold Bd; omega, by rw [Rat.den_intCast]; unfold Bd; decide⟩
  refine sj_set 4 G.nd (ej_call c_l_power (G.le (by decide)) (aj_cons (ej_at (ej_dat (d := .tuple [.int b, .int p, .int low, .int high]) 0)) (aj_cons (ej_dat 3) aj_nil)) (R_power_of.mk b e B (by omega) F.b6 (by omega) (by omega))) ?_
  refine sj_set 5 G.nd (ej_call c_l_multiplied (G.le (by decide)) (aj_cons (ej_is (y := fq (cQ b e q : Rat)) (ej_tupD (ad_cons (ej_dat 2) (ad_cons ej_int ad_nil)) (Nat.le_of_ble_eq_true rfl)) (fq_int _).symm) (aj_cons (ej_dat 4) aj_nil)) (R_two.mk _ _ _ _ _ _ B hc hu (by decide) (by omega) (by decide))) ?_
  refine sj_when (x := decide (rQ b e q = 0)) (tj_is (tj_eq G.hu (ej_dat (d := fq (loQ b e q)) 5) (ej_dat 1) (shaped_fq _) (shaped_fq _)) (by rw [eqv_fq]; exact decide_eq_decide.mpr (lo_eq b2 e q))) (fun h => ?_) (fun h => ?_)
  · have hr : rQ b e q = 0 := of_decide_eq_true h
    refine sj_ret (ej_tupD (ad_cons (ej_dat (d := fq (loQ b e q)) 5) (ad_cons (ej_dat (d := fq (loQ b e q)) 5) (ad_cons (ej_dat 2) (ad_cons (ej_dat 2) ad_nil)))) (Nat.le_of_ble_eq_true rfl)) ⟨?_, rfl⟩
    unfold upQ; rw [if_pos hr, if_pos hr]
  · have hr : ¬ rQ b e q = 0 := of_decide_eq_false h
    refine sj_ret (ej_tupD (ad_cons (ej_dat (d := fq (loQ b e q)) 5) (ad_cons (ej_call c_l_multiplied (G.le (by decide)) (aj_cons (ej_is (y := fq ((cQ b e q + 1 : Int) : Rat)) (ej_tupD (ad_cons (ej_add (ej_dat 2) ej_int) (ad_cons ej_int ad_nil)) (Nat.le_of_ble_eq_true rfl)) (fq_int _).symm) (aj_cons (ej_dat 4) aj_nil)) (R_two.mk _ _ _ _ _ _ B hc' hu (by decide) (by omega) (by decide)))
      (ad_cons (ej_dat 2) (ad_cons (ej_add (ej_dat 2) ej_int) ad_nil)))) (Nat.le_of_ble_eq_true rfl)) ⟨?_, rfl⟩
    unfold upQ; rw [if_neg hr, if_neg hr]

abbrev s_l_greatest : Stmt := topS 58
theorem sc_l_greatest : FnScope ["_law_form", "_law_base", "_law_digits", "_law_low", "_law_high"] ["_law_form"] (defScope s_l_greatest) := ⟨rfl, rfl, rfl, by decide +kernel, rfl, by decide +kernel, by decide +kernel⟩

theorem c_of_l_greatest (c_l_to : Cal P w K mg base "_law_to" 4 R_pow) (c_l_power : Cal P w K mg base "_law_power" 5 R_power_of) (c_l_multiplied : Cal P w K mg base "_law_multiplied" 6 (R_two (· * ·))) (T : At K mg "_law_greatest" s_l_greatest ["_law_form"]) : Cal P w K mg base "_law_greatest" 7 R_great :=
  cal_at T sc_l_greatest (by rintro _ _ _ _ ⟨⟩; rfl) fun f cd0 A out s H E G Γ B r B' hR => by
  obtain ⟨b, p, low, high, B, F⟩ := hR
  have b2 := F.b2; have p7 := F.p7; have lo := F.lo; have lh := F.lh; have hi := F.hi; have bp := F.bp
  refine sj_unpack [1, 2, 3, 4] G.calm (ej_dat (d := .tuple [.int b, .int p, .int low, .int high]) 0) (pgs_cons (pg_name (i := 1) G.nd rfl (Or.inl rfl)) (pgs_cons (pg_name (i := 2) G.nd rfl (Or.inl rfl)) (pgs_cons (pg_name (i := 3) G.nd rfl (Or.inl rfl)) (pgs_cons (pg_name (i := 4) G.nd rfl (Or.inl rfl)) pgs_nil)))) rfl ?_
  have hc : Qz 700 1 ((((b ^ p : Nat) : Int) - 1 : Int) : Rat) := ⟨by rw [Rat.num_intCast]; unfold Bd; omega, by rw [Rat.den_intCast]; unfold Bd; decide⟩
  exact sj_ret (ej_call c_l_multiplied (G.le (by decide)) (aj_cons (ej_is (y := fq ((((b ^ p : Nat) : Int) - 1 : Int) : Rat)) (ej_tupD (ad_cons (ej_sub (ej_call c_l_to (G.le (by decide)) (aj_cons (ej_dat 1) (aj_cons (ej_dat 2) aj_nil)) (R_pow.mk b p B F.b6 (by omega))) ej_int) (ad_cons ej_int ad_nil)) (Nat.le_of_ble_eq_true rfl)) (fq_int _).symm)
    (aj_cons (ej_call c_l_power (G.le (by decide)) (aj_cons (ej_dat 1) (aj_cons (ej_dat 4) aj_nil)) (R_power_of.mk b high B (by omega) F.b6 (by omega) (by omega))) aj_nil)) (R_two.mk _ _ _ _ _ _ B hc (F.qz lh (Int.le_refl _)) (by decide) (by decide) (by decide))) ⟨rfl, rfl⟩

abbrev s_l_normal : Stmt := topS 59
theorem sc_l_normal : FnScope ["_law_form"] ["_law_form"] (defScope s_l_normal) := ⟨rfl, rfl, rfl, by decide +kernel, rfl, by decide +kernel, by decide +kernel⟩

theorem c_of_l_normal (c_l_power : Cal P w K mg base "_law_power" 5 R_power_of) (T : At K mg "_law_normal" s_l_normal ["_law_form"]) : Cal P w K mg base "_law_normal" 6 R_normal :=
  cal_at T sc_l_normal (by rintro _ _ _ _ ⟨⟩; rfl) fun f cd0 A out s H E G Γ B r B' hR => by
  obtain ⟨b, p, low, high, B, F⟩ := hR
  have b2 := F.b2; have p7 := F.p7; have lo := F.lo; have lh := F.lh; have hi := F.hi
  exact sj_ret (ej_call c_l_power (G.le (by decide)) (aj_cons (ej_at (ej_dat (d := .tuple [.int b, .int p, .int low, .int high]) 0)) (aj_cons (ej_sub (ej_add (ej_at (ej_dat (d := .tuple [.int b, .int p, .int low, .int high]) 0)) (ej_at (ej_dat (d := .tuple [.int b, .int p, .int low, .int high]) 0))) ej_int) aj_nil)) (R_power_of.mk b (low + p - 1) B (by omega) F.b6 (by omega) (by omega))) ⟨rfl, rfl⟩

abbrev s_l_nearer : Stmt := topS 60
theorem sc_l_nearer : FnScope ["_law_way", "_law_x", "_law_lower", "_law_upper", "_law_c", "_law_one", "_law_other"] ["_law_way", "_law_x", "_law_lower", "_law_upper", "_law_c"] (defScope s_l_nearer) := ⟨rfl, rfl, rfl, by decide +kernel, rfl, by decide +kernel, by decide +kernel⟩

theorem c_of_l_nearer (m_int : mg "int" = none) (c_l_lessened : Cal P w K mg base "_law_lessened" 6 (R_two (· - ·))) (c_l_is_below : Cal P w K mg base "_law_is_below" 4 R_below) (T : At K mg "_law_nearer" s_l_nearer ["_law_way", "_law_x", "_law_lower", "_law_upper", "_law_c"]) : Cal P w K mg base "_law_nearer" 7 R_nearer :=
  cal_at T sc_l_nearer (by rintro _ _ _ _ ⟨⟩; rfl) fun f cd0 A out s H E G Γ B r B' hR => by
  obtain ⟨its, q, lo, up, c, n, d, m, k, B, hq, hl, hu, h1, h2, h3⟩ := hR
  have hd : d ≤ 8900 := by omega
  have hk : k ≤ 8900 := by omega
  unfold nearQ
  refine sj_when (x := decide (its = "zero" ∨ its = "lower")) (tj_is (tj_inT (ss := ["zero", "lower"]) (ej_dat 0) (ej_tupD (ad_cons ej_str (ad_cons ej_str ad_nil)) (Nat.le_of_ble_eq_true rfl))) (in2' "zero" "lower" its)) (fun h => ?_) (fun h => ?_)
  · rw [if_pos (of_decide_eq_true h)]
    exact sj_ret (ej_dat 2) ⟨rfl, rfl⟩
  · rw [if_neg (of_decide_eq_false h)]
    refine sj_when (tj_eqS (ej_dat 0) ej_str) (fun h => ?_) (fun h => ?_)
    · rw [if_pos (of_decide_eq_true h)]
      exact sj_ret (ej_dat 3) ⟨rfl, rfl⟩
    · rw [if_neg (of_decide_eq_false h)]
      have a1 : Qz 40000 (d + k) (q - lo) := hq.sub hl 40000 (by omega) (by omega)
      have a2 : Qz 40000 (k + d) (up - q) := hu.sub hq 40000 (by omega) (by omega)
      refine sj_par 5 6 G.nd G.calm (aj_cons (ej_call c_l_lessened (G.le (by decide)) (aj_cons (ej_dat 1) (aj_cons (ej_dat 2) aj_nil)) (R_two.mk _ _ _ _ _ _ B hq hl (by omega) (by omega) h3)) (aj_cons (ej_call c_l_lessened (G.le (by decide)) (aj_cons (ej_dat 3) (aj_cons (ej_dat 1) aj_nil)) (R_two.mk _ _ _ _ _ _ B hu hq (by omega) (by omega) (by omega))) aj_nil)) ?_ (by decide) (by rfl)
      refine sj_when (tj_is (tj_eq G.hu (ej_dat 5) (ej_dat 6) (shaped_fq _) (shaped_fq _)) (eqv_fq _ _)) (fun h => ?_) (fun h => ?_)
      · rw [if_pos (of_decide_eq_true h)]
        refine sj_ret (ej_if (d := .da (fq (if its = "even" ∧ c % 2 = 0 then lo else up))) (tj_w (wj_and (tj_eqS (ej_dat 0) ej_str) fun _ => wj_and1 (tj_eqI G.hu (ej_mod (ej_int1 m_int (ej_dat 4)) ej_int (by decide)) ej_int))) (fun h => ?_) (fun h => ?_)) ⟨rfl, rfl⟩
        · have h' : its = "even" ∧ c % 2 = 0 := by simpa using h
          rw [if_pos h']; exact ej_dat 2
        · have h' : ¬ (its = "even" ∧ c % 2 = 0) := by simpa using h
          rw [if_neg h']; exact ej_dat 3
      · rw [if_neg (of_decide_eq_false h)]
        refine sj_ret (ej_if (d := .da (fq (if q - lo < up - q then lo else up))) (tj_val (ej_call c_l_is_below (G.le (by decide)) (aj_cons (ej_dat 5) (aj_cons (ej_dat 6) aj_nil)) (R_below.mk _ _ _ _ _ _ B a1 a2 (by omega) (by omega)))) (fun h => ?_) (fun h => ?_)) ⟨rfl, rfl⟩
        · rw [if_pos (of_decide_eq_true h)]; exact ej_dat 2
        · rw [if_neg (of_decide_eq_false h)]; exact ej_dat 3

abbrev s_l_form_of : Stmt := topS 61
theorem sc_l_form_of : FnScope ["_law_form", "_law_s", "_law_worth_here", "_law_c", "_law_e"] ["_law_form", "_law_s", "_law_worth_here"] (defScope s_l_form_of) := ⟨rfl, rfl, rfl, by decide +kernel, rfl, by decide +kernel, by decide +kernel⟩

theorem c_of_l_form_of (c_l_grid : Cal P w K mg base "_law_grid" 5 R_grid) (T : At K mg "_law_form_of" s_l_form_of ["_law_form", "_law_s", "_law_worth_here"]) : Cal P w K mg base "_law_form_of" 6 R_formof :=
  cal_at T sc_l_form_of (by rintro _ _ _ _ ⟨⟩; rfl) fun f cd0 A out s H E G Γ B r B' hR => by
  obtain ⟨b, p, low, high, sn, C, Ee, q, n, d, B, F, hC, rfl, hE⟩ := hR
  have z := can_qz F hC hE
  have ce := can_e F.b2 (by have := F.p2; omega) hC
  have R := R_grid.mk b p low high _ 3040 2341 B F z.2 z.1 (by decide) (by decide)
  rw [ce.1, ce.2] at R
  refine sj_unpack [3, 4] G.calm (ej_call c_l_grid (G.le (by decide)) (aj_cons (ej_dat 0) (aj_cons (ej_dat 2) aj_nil)) R) (pgs_cons (pg_name (i := 3) G.nd rfl (Or.inl rfl)) (pgs_cons (pg_name (i := 4) G.nd rfl (Or.inl rfl)) pgs_nil)) rfl ?_
  exact sj_ret (ej_tupD (ad_cons ej_str (ad_cons (ej_dat 1) (ad_cons (ej_dat 3) (ad_cons (ej_dat 4) ad_nil)))) (Nat.le_of_ble_eq_true rfl)) ⟨rfl, rfl⟩

abbrev s_l_rounded : Stmt := topS 62
theorem sc_l_rounded : FnScope ["_law_form", "_law_way", "_law_x", "_law_s", "_law_size", "_law_its", "_law_lower", "_law_upper", "_law_c", "_law_more", "_law_worth_here", "_law_flags", "_law_is_inf"] ["_law_form", "_law_way", "_law_x", "_law_s"] (defScope s_l_rounded) := ⟨rfl, rfl, rfl, by decide +kernel, rfl, by decide +kernel, by decide +kernel⟩

theorem c_of_l_rounded (m_int : mg "int" = none) (m_tuple : mg "tuple" = none) (m_sorted : mg "sorted" = none) (m_set : mg "set" = none) (c_l_sized : Cal P w K mg base "_law_sized" 4 (R_one fun x => fq (absQ x))) (c_l_neighbours : Cal P w K mg base "_law_neighbours" 7 R_neigh)
    (c_l_nearer : Cal P w K mg base "_law_nearer" 7 R_nearer) (c_l_is_below : Cal P w K mg base "_law_is_below" 4 R_below) (c_l_normal : Cal P w K mg base "_law_normal" 6 R_normal) (c_l_greatest : Cal P w K mg base "_law_greatest" 7 R_great)
    (c_l_form_of : Cal P w K mg base "_law_form_of" 6 R_formof) (T : At K mg "_law_rounded" s_l_rounded ["_law_form", "_law_way", "_law_x", "_law_s"]) : Cal P w K mg base "_law_rounded" 8 R_rounded :=
  cal_at T sc_l_rounded (by rintro _ _ _ _ ⟨⟩; rfl) fun f cd0 A out s H E G Γ B r B' hR => by
  obtain ⟨b, p, low, high, way, x, sv, n, d, B, F, hw, hs, hx, hn, hd⟩ := hR
  have b2 := F.b2; have p2 := F.p2; have lh := F.lh
  have hrd : rdP b p low high way x sv = outP b p high way (if x = 0 then sv else sgn x) (eQ b p low (absQ x)) (cQ b (eQ b p low (absQ x)) (absQ x)) (pt (rQ b (eQ b p low (absQ x)) (absQ x)) (Dq b (eQ b p low (absQ x)) (absQ x))) := rfl
  rw [hrd]
  clear hrd
  have h0 := absQ_nonneg x
  have hq : Qz n d (absQ x) := hx.abs
  have hE := eQ_is (p := p) b2 low (absQ x)
  refine sj_set (B1 := B) 3 G.nd (ej_if (d := .da (.int (if x = 0 then sv else sgn x))) (tj_eqI G.hu (ej_at (ej_dat (d := .tuple [.int x.num, .int (x.den : Int)]) 2)) ej_int) (fun h => ?_) (fun h => ?_)) ?_
  · rw [if_pos (Rat.num_eq_zero.mp (of_decide_eq_true h))]; exact ej_dat 3
  · rw [if_neg (fun z => of_decide_eq_false h (Rat.num_eq_zero.mpr z))]
    refine ej_is (ej_intB m_int (ej_lt (ej_at (ej_dat (d := .tuple [.int x.num, .int (x.den : Int)]) 2)) ej_int)) ?_
    unfold sgn
    by_cases h : x.num < 0
    · rw [if_pos h, decide_eq_true h]; rfl
    · rw [if_neg h, decide_eq_false h]; rfl
  have hS : (if x = 0 then sv else sgn x) = 0 ∨ (if x = 0 then sv else sgn x) = 1 := by
    split
    · exact hs
    · exact sgn_01 x
  generalize (if x = 0 then sv else sgn x) = S at *
  refine sj_par 4 5 G.nd G.calm (aj_cons (ej_call c_l_sized (G.le (by decide)) (aj_cons (ej_dat 2) aj_nil) (R_one.mk x B)) (aj_cons (ej_dat 1) aj_nil)) ?_ (by decide) (by rfl)
  generalize absQ x = q at *
  refine sj_ifM (fun Γ' B2 => Γ' = [.da (fmP b p low high), .da (.str way), .da (fq x), .da (.int S), .da (fq q), .da (.str (itsOf way S)), .no, .no, .no, .no, .no, .no, .no] ∧ B2 = B)
    (tj_is (tj_inT (ss := ["up", "down"]) (ej_dat 1) (ej_tupD (ad_cons ej_str (ad_cons ej_str ad_nil)) (Nat.le_of_ble_eq_true rfl))) (in2' "up" "down" way)) (fun h => ?_) (fun h => ?_) ?_
  · have h' := of_decide_eq_true h
    refine sj_set (B1 := B) 5 G.nd (ej_if (d := .da (.str (itsOf way S))) (tj_eqB G.hu (ej_eqS (ej_dat 1) ej_str) (ej_eqI G.hu (ej_dat 3) ej_int)) (fun h => ?_) (fun h => ?_)) (sj_nil ⟨rfl, rfl⟩)
    · rw [its_in h', if_pos (of_decide_eq_true h)]; exact ej_str
    · rw [its_in h', if_neg (of_decide_eq_false h)]; exact ej_str
  · refine sj_nil ⟨?_, rfl⟩
    rw [its_out (of_decide_eq_false h)]; rfl
  rintro Γ2 B2 ⟨rfl, rfl⟩
  have hno := near_ok b2 hw hS (eQ b p low q) q
  have hQl := F.lo_qz hq h0 hE
  have hQu := F.up_qz hq h0 hE
  have hpk := fun o => F.pick_qz hq h0 hE o
  have hsp := spot_can b2 (by omega) h0 hE
  have hti := tiny_iff b2 p2 h0 hE
  refine sj_unpack [6, 7, 8, 9] G.calm (ej_call c_l_neighbours (G.le (by decide)) (aj_cons (ej_dat 0) (aj_cons (ej_dat 4) aj_nil)) (R_neigh.mk b p low high q n d B2 F h0 hq hn hd)) (pgs_cons (pg_name (i := 6) G.nd rfl (Or.inl rfl)) (pgs_cons (pg_name (i := 7) G.nd rfl (Or.inl rfl)) (pgs_cons (pg_name (i := 8) G.nd rfl (Or.inl rfl)) (pgs_cons (pg_name (i := 9) G.nd rfl (Or.inl rfl)) pgs_nil)))) rfl ?_
  generalize eQ b p low q = e at *
  refine sj_set 10 G.nd (ej_is (ej_call c_l_nearer (G.le (by decide)) (aj_cons (ej_dat 5) (aj_cons (ej_dat 4) (aj_cons (ej_dat 6) (aj_cons (ej_dat 7) (aj_cons (ej_dat 8) aj_nil))))) (R_nearer.mk (itsOf way S) q _ _ _ _ _ _ _ B2 hq hQl hQu (by omega) (by omega) (by omega))) (congrArg fq hno)) ?_
  have hWo := outw_r (b := b) (e := e) (q := q) (way := way) (s := S) (c := cQ b e q)
  have hpe := fun o ho => pick_eq (b := b) (e := e) (q := q) b2 (o := o) ho
  have hp0 := pt_zero (b := b) (e := e) (q := q)
  have hnb := nb_can (o := outw way S (cQ b e q) (pt (rQ b e q) (Dq b e q))) b2 p2 hsp
  have hob := fun h => over_big (o := outw way S (cQ b e q) (pt (rQ b e q) (Dq b e q))) (high := high) p2 b2 lh hsp h
  have hWq := hpe (outw way S (cQ b e q) (pt (rQ b e q) (Dq b e q))) hWo
  have hWz := hpk (outw way S (cQ b e q) (pt (rQ b e q) (Dq b e q)))
  unfold outP
  clear hpe hpk hno hQl hQu hWo
  rw [← hnb.2] at hWq hWz
  rw [← hnb.2]
  have hC := hnb.1
  clear hnb
  have hov := over_iff b2 p2 lh hC
  generalize pt (rQ b e q) (Dq b e q) = part at *
  generalize rQ b e q = r at *
  generalize hcq : cQ b e q = c at *
  generalize (nb b p (outw way S c part) c e).1 = C at *
  generalize (nb b p (outw way S c part) c e).2 = Ee at *
  generalize hWW : (C : Rat) * pw b Ee = W at *
  have hnn : (if r = 0 then 0 else 1 : Nat) = 0 ∨ (if r = 0 then 0 else 1 : Nat) = 1 := by split <;> simp
  refine sj_own 11 G.nd (fj_rep (n := if r = 0 then 0 else 1) (ds := [.str "inexact"]) (ej_lstD (ad_cons ej_str ad_nil) (Nat.le_of_ble_eq_true rfl)) (ej_is (y := .int ((if r = 0 then 0 else 1 : Nat) : Int)) (ej_intB m_int (ej_ne G.hu (ej_dat 10) (ej_dat 4) (shaped_fq _) (shaped_fq _))) ?_) (by omega) (by decide)) (by exact Nat.le_of_ble_eq_true rfl) ?_
  · rw [eqv_fq]
    by_cases hr : r = 0
    · rw [if_pos hr, decide_eq_true (hWq.mpr hr)]; rfl
    · rw [if_neg hr, decide_eq_false (fun z => hr (hWq.mp z))]; rfl
  rw [rep_one hnn]
  refine ow_if (fun Γ' B3 acc => Γ' = [.da (fmP b p low high), .da (.str way), .da (fq x), .da (.int S), .da (fq q), .da (.str (itsOf way S)), .da (fq (loQ b e q)), .da (fq (upQ b e q)), .da (.int c), .da (.int (if r = 0 then c else c + 1)), .da (fq W), .no, .no] ∧ B3 = B2 ∧ acc = (flagsL r c ((b ^ (p - 1) : Nat) : Int)).map .str)
    (tj_w (wj_and (tj_ne G.hu (ej_dat 10) (ej_dat 4) (shaped_fq _) (shaped_fq _)) fun _ => wj_and1 (tj_val (ej_call c_l_is_below (G.le (by decide)) (aj_cons (ej_dat 4) (aj_cons (ej_call c_l_normal (G.le (by decide)) (aj_cons (ej_dat 0) aj_nil) (R_normal.mk b p low high B2 F)) aj_nil)) (R_below.mk _ _ _ _ _ _ B2 hq F.nz (by omega) (by decide)))))) (fun h => ?_) (fun h => ?_) ?_
  · rw [eqv_fq] at h
    have h' : ¬ W = q ∧ q < pw b (low + p - 1) := by simpa using h
    have hr : ¬ r = 0 := fun z => h'.1 (hWq.mpr z)
    have hc := hti.mp h'.2
    refine ow_app G.nd ej_str (by split <;> decide) (ow_nil ⟨rfl, rfl, ?_⟩)
    unfold flagsL
    rw [if_neg hr, if_neg hr, if_pos hc, if_neg (by decide)]; rfl
  · rw [eqv_fq] at h
    have h' : ¬ (¬ W = q ∧ q < pw b (low + p - 1)) := by simpa using h
    refine ow_nil ⟨rfl, rfl, ?_⟩
    unfold flagsL
    by_cases hr : r = 0
    · rw [if_pos hr, if_pos hr, if_pos rfl]; rfl
    · have hc : ¬ c < ((b ^ (p - 1) : Nat) : Int) := fun z => h' ⟨fun y => hr (hWq.mp y), hti.mpr z⟩
      rw [if_neg hr, if_neg hr, if_neg hc, if_neg (by decide)]; rfl
  rintro Γ3 B3 acc ⟨rfl, rfl, rfl⟩
  refine ow_end ?_
  have hgz := can_qz F (great_can F) (Int.le_refl high)
  refine sj_when (tj_not (tj_val (ej_call c_l_is_below (G.le (by decide)) (aj_cons (ej_call c_l_greatest (G.le (by decide)) (aj_cons (ej_dat 0) aj_nil) (R_great.mk b p low high B3 F)) (aj_cons (ej_dat 10) aj_nil)) (R_below.mk _ _ _ _ (grQ b p high) W B3 hgz.1 hWz (by decide) (by omega))))) (fun h => ?_) (fun h => ?_)
  · have h' : ¬ grQ b p high < W := by simpa using h
    have hno : ¬ high < Ee := fun z => h' (hov.mpr z)
    refine sj_ret (ej_tupD (ad_cons (ej_call c_l_form_of (G.le (by decide)) (aj_cons (ej_dat 0) (aj_cons (ej_dat 3) (aj_cons (ej_dat 10) aj_nil))) (R_formof.mk b p low high S C Ee W 3040 2341 B3 F hC hWW.symm (by omega))) (ad_cons (ej_tupleL m_tuple (ej_dat (d := .list ((flagsL r c ((b ^ (p - 1) : Nat) : Int)).map .str)) 11)) ad_nil)) (Nat.le_of_ble_eq_true rfl)) ⟨?_, rfl⟩
    rw [if_neg hno]
    unfold flagsL
    by_cases hr : r = 0
    · rw [if_pos hr, if_pos (hp0.mpr hr)]; rfl
    · rw [if_neg hr, if_neg (fun z => hr (hp0.mp z))]
      split <;> rfl
  · have h' : grQ b p high < W := by simpa using h
    have hyes : high < Ee := hov.mp h'
    have hcb := hob hyes
    rw [if_pos hyes]
    refine sj_set 12 G.nd (ej_is (y := .bool (isInf way S)) (ej_or (ej_inT (ss := ["even", "away"]) (ej_dat 1) (ej_tupD (ad_cons ej_str (ad_cons ej_str ad_nil)) (Nat.le_of_ble_eq_true rfl))) fun _ => ej_or (ej_and (ej_eqS (ej_dat 1) ej_str) fun _ => ej_one (ej_eqI G.hu (ej_dat 3) ej_int)) fun _ => ej_one (ej_and (ej_eqS (ej_dat 1) ej_str) fun _ => ej_one (ej_eqI G.hu (ej_dat 3) ej_int))) (congrArg PyData.bool (isInf_or way S))) ?_
    refine sj_set 11 G.nd (ej_tupleL m_tuple (ej_sortedSet (xs := flagsL r c ((b ^ (p - 1) : Nat) : Int) ++ (["inexact", "over"] : List Str)) (out := (["inexact", "over"] : List Str)) G.calm m_sorted m_set (ej_is (ej_catL (ej_dat (d := .list ((flagsL r c ((b ^ (p - 1) : Nat) : Int)).map .str)) 11) (ej_lstD (ad_cons ej_str (ad_cons ej_str ad_nil)) (Nat.le_of_ble_eq_true rfl)) (by rw [List.length_map]; unfold flagsL; split <;> (try split) <;> decide)) (by rw [List.map_append]; rfl)) (by rw [List.length_append]; unfold flagsL; split <;> (try split) <;> decide) (over_words hcb))) ?_
    refine sj_ret (ej_tupD (ad_cons (ej_if (d := .da (tooG b p high way S)) (tj_val (ej_dat 12)) (fun h => ?_) (fun h => ?_)) (ad_cons (ej_dat 11) ad_nil)) (Nat.le_of_ble_eq_true rfl)) ⟨rfl, rfl⟩
    · rw [show tooG b p high way S = .tuple [.str "inf", .int S] from if_pos h]
      exact ej_tupD (ad_cons ej_str (ad_cons (ej_dat 3) ad_nil)) (Nat.le_of_ble_eq_true rfl)
    · rw [show tooG b p high way S = nm S (((b ^ p : Nat) : Int) - 1) high from if_neg (by rw [h]; decide)]
      exact ej_call c_l_form_of (G.le (by decide)) (aj_cons (ej_dat 0) (aj_cons (ej_dat 3) (aj_cons (ej_call c_l_greatest (G.le (by decide)) (aj_cons (ej_dat 0) aj_nil) (R_great.mk b p low high B3 F)) aj_nil))) (R_formof.mk b p low high S _ high (grQ b p high) 3040 2341 B3 F (great_can F) rfl (Int.le_refl _))

abbrev s_l_zero_of : Stmt := topS 63
theorem sc_l_zero_of : FnScope ["_law_form", "_law_s"] ["_law_form", "_law_s"] (defScope s_l_zero_of) := ⟨rfl, rfl, rfl, by decide +kernel, rfl, by decide +kernel, by decide +kernel⟩

theorem c_of_l_zero_of (T : At K mg "_law_zero_of" s_l_zero_of ["_law_form", "_law_s"]) : Cal P w K mg base "_law_zero_of" 4 R_zero :=
  cal_at T sc_l_zero_of (by rintro _ _ _ _ ⟨⟩; rfl) fun f cd0 A out s0 H E0 G Γ B r B' hR => by
  obtain ⟨b, p, low, high, s, B⟩ := hR
  exact sj_ret (ej_tupD (ad_cons ej_str (ad_cons (ej_dat 1) (ad_cons ej_int (ad_cons (ej_at (ej_dat (d := .tuple [.int b, .int p, .int low, .int high]) 0)) ad_nil)))) (Nat.le_of_ble_eq_true rfl)) ⟨rfl, rfl⟩

abbrev s_l_turned_sign : Stmt := topS 64
theorem sc_l_turned_sign : FnScope ["_law_value"] ["_law_value"] (defScope s_l_turned_sign) := ⟨rfl, rfl, rfl, by decide +kernel, rfl, by decide +kernel, by decide +kernel⟩

theorem c_of_l_turned_sign (T : At K mg "_law_turned_sign" s_l_turned_sign ["_law_value"]) : Cal P w K mg base "_law_turned_sign" 4 R_tsign :=
  cal_at T sc_l_turned_sign (by rintro _ _ _ _ ⟨⟩; rfl) fun f cd0 A out s0 H E0 G Γ B r B' hR => by
  obtain ⟨v, B⟩ := hR
  refine sj_ret (ej_if (d := .da v.opp.d) (tj_is (tj_eq G.hu (ej_dat (d := v.d) 0) (ej_tupD (ad_cons ej_str ad_nil) (Nat.le_of_ble_eq_true rfl)) (shaped_va v) (shaped_va .nan)) (eqv_nan v)) (fun h => ?_) (fun h => ?_)) ⟨rfl, rfl⟩
  · have e : v = .nan := by cases v <;> first | rfl | cases h
    subst e
    exact (ej_dat 0)
  · refine ej_is (ej_catT (ej_tupD (ad_cons (ej_at (ej_dat (d := .tuple v.l) 0) v.at0) (ad_cons (ej_sub ej_int (ej_at (ej_dat (d := .tuple v.l) 0) (at1 h))) ad_nil)) (Nat.le_of_ble_eq_true rfl)) (ej_is (ej_sliceT (ej_dat (d := .tuple v.l) 0) (oj_some ej_int) oj_none) (congrArg PyData.tuple (cut2 v.l 2))) ?_) (opp_d h).symm
    rw [List.length_drop]; cases v <;> exact Nat.le_of_ble_eq_true rfl

abbrev s_l_near_format : Stmt := topS 65
theorem sc_l_near_format : FnScope ["_law_bag_here", "_law_way", "_law_some_here"] ["_law_bag_here"] (defScope s_l_near_format) := ⟨rfl, rfl, rfl, by decide +kernel, rfl, by decide +kernel, by decide +kernel⟩

theorem c_of_l_near_format (c_l_take : Cal P w K mg base "_law_take" 4 R_take) (c_l_some : Cal P w K mg base "_law_some" 5 R_some) (c_l_formats : Cal P w K mg base "_law_formats" 6 (R_fmt smallV smallB)) (T : At K mg "_law_near_format" s_l_near_format ["_law_bag_here"]) : CalX P w K mg base "_law_near_format" 7 Pre_bag Post_nf :=
  calx_at T sc_l_near_format (by rintro _ _ ⟨rfl, _⟩; rfl) fun f cd0 A out s0 H E0 G Γ B hPre => by
  obtain ⟨rfl, hc⟩ := hPre
  have hc30 := tkB_ok hc 30
  refine sj_set 1 G.nd (ej_call c_l_take (G.le (by decide)) (aj_cons (ej_bag 0) (aj_cons ej_int aj_nil)) (R_take.mk B 30 (by decide) (by unfold Bd; decide +kernel) hc)) ?_
  refine sj_when (tj_eqI G.hu (ej_dat 1) ej_int) (fun h => ?_) (fun h => ?_)
  · have r := R_some.mk (tkB B 30) (near3.map F4.d) (by decide) (by decide) hc30
    rw [pick_fm near3 (tkB B 30) (by decide)] at r
    exact sj_ret (ej_call c_l_some (G.le (by decide)) (aj_cons (ej_bag 0) (aj_cons (ej_is (y := .list (near3.map F4.d)) (ej_lstD (ad_cons (ej_tupD (ad_cons ej_int (ad_cons ej_int (ad_cons (ej_neg ej_int) (ad_cons ej_int ad_nil)))) (Nat.le_of_ble_eq_true rfl)) (ad_cons (ej_tupD (ad_cons ej_int (ad_cons ej_int (ad_cons (ej_neg ej_int) (ad_cons ej_int ad_nil)))) (Nat.le_of_ble_eq_true rfl)) (ad_cons (ej_tupD (ad_cons ej_int (ad_cons ej_int (ad_cons (ej_neg ej_int) (ad_cons ej_int ad_nil)))) (Nat.le_of_ble_eq_true rfl)) ad_nil))) (Nat.le_of_ble_eq_true rfl)) rfl) aj_nil)) (r)) ⟨tkB_ok hc30 _, _, rfl, List.mem_append_right _ (List.mem_append_left _ (pickF_mem _ _ (by decide)))⟩
  · refine sj_when (tj_lt (ej_dat 1) ej_int) (fun h => ?_) (fun h => ?_)
    · refine sj_set 2 G.nd (ej_is (y := .list (near5.map F4.d)) (ej_lstD (ad_cons (ej_tupD (ad_cons ej_int (ad_cons ej_int (ad_cons (ej_neg ej_int) (ad_cons ej_int ad_nil)))) (Nat.le_of_ble_eq_true rfl)) (ad_cons (ej_tupD (ad_cons ej_int (ad_cons ej_int (ad_cons (ej_neg ej_int) (ad_cons ej_int ad_nil)))) (Nat.le_of_ble_eq_true rfl)) (ad_cons (ej_tupD (ad_cons ej_int (ad_cons ej_int (ad_cons (ej_neg ej_int) (ad_cons ej_int ad_nil)))) (Nat.le_of_ble_eq_true rfl)) (ad_cons (ej_tupD (ad_cons ej_int (ad_cons ej_int (ad_cons (ej_neg ej_int) (ad_cons ej_int ad_nil)))) (Nat.le_of_ble_eq_true rfl)) (ad_cons (ej_tupD (ad_cons ej_int (ad_cons ej_int (ad_cons (ej_neg ej_int) (ad_cons ej_int ad_nil)))) (Nat.le_of_ble_eq_true rfl)) ad_nil))))) (Nat.le_of_ble_eq_true rfl)) rfl) ?_
      have r := R_some.mk (tkB B 30) (near6.map F4.d) (by decide) (by decide) hc30
      rw [pick_fm near6 (tkB B 30) (by decide)] at r
      exact sj_ret (ej_call c_l_some (G.le (by decide)) (aj_cons (ej_bag 0) (aj_cons (ej_is (y := .list (near6.map F4.d)) (ej_catL (ej_dat 2) (ej_lstD (ad_cons (ej_tupD (ad_cons ej_int (ad_cons ej_int (ad_cons (ej_neg ej_int) (ad_cons ej_int ad_nil)))) (Nat.le_of_ble_eq_true rfl)) ad_nil) (Nat.le_of_ble_eq_true rfl)) (Nat.le_of_ble_eq_true rfl)) rfl) aj_nil)) (r)) ⟨tkB_ok hc30 _, _, rfl, List.mem_append_right _ (List.mem_append_right _ (pickF_mem _ _ (by decide)))⟩
    · exact sj_ret (ej_call c_l_formats (G.le (by decide)) (aj_cons (ej_bag 0) aj_nil) (R_fmt.mk _ hc30)) ⟨smallB_ok hc30, _, rfl, List.mem_append_left _ (pickF_mem _ _ (by decide))⟩

abbrev s_l_parted_sum : Stmt := topS 66
theorem sc_l_parted_sum : FnScope ["_law_form", "_law_exact", "_law_found", "_law_left", "_law_value", "_law_flags"] ["_law_form", "_law_exact"] (defScope s_l_parted_sum) := ⟨rfl, rfl, rfl, by decide +kernel, rfl, by decide +kernel, by decide +kernel⟩

theorem c_of_l_parted_sum /-H-/ (m_tuple : mg "tuple" = none) (c_l_rounded : Cal P w K mg base "_law_rounded" 8 R_rounded) (c_l_lessened : Cal P w K mg base "_law_lessened" 6 (R_two (· - ·))) (c_l_worth : Cal P w K mg base "_law_worth" 7 R_worth) /-E-/ (T : At K mg "_law_parted_sum" s_l_parted_sum ["_law_form", "_law_exact"]) : Cal P w K mg base "_law_parted_sum" 10 R_lpsum :=
  cal_at T sc_l_parted_sum (by rintro _ _ _ _ ⟨⟩; rfl) fun f cd0 A out s0 H E0 G Γ B r B' hR => by
  obtain ⟨b, p, low, high, x0, B, F, hs⟩ := hR
  refine sj_ownPar 2 3 G.nd G.calm (show 3 ≤ _ from Nat.le_of_ble_eq_true rfl) (by decide) (y2 := fq x0) (ej_dat (d := fq x0) 1) ?_ (by rfl)
  refine ow_while (fun Γ' B2 acc => ∃ (K : Nat) (x : Rat) (L : List Va) (g g' : VD), Γ' = [.da (fmP b p low high), .da (fq x0), .no, .da (fq x), g, g'] ∧ B2 = B ∧ acc = L.map Va.d ∧ L.length + K = 60 ∧ PsS b p low K x ∧ psK b p low high 60 x0 = (psK b p low high K x).map (L ++ ·)) (fun _ _ acc => 60 - acc.length) ⟨60, x0, [], _, _, rfl, rfl, rfl, rfl, hs, by cases psK b p low high 60 x0 <;> rfl⟩ (fun Γ' B2 acc hP => ?_)
  obtain ⟨K, x, L, g, g', rfl, rfl, rfl, hK, hx, he⟩ := hP
  refine ⟨!decide (x.num = 0), tj_neI G.hu (ej_at (i := 0) (y := .int x.num) (ej_dat (d := fq x) 3) rfl) ej_int, fun h => ?_, fun h => ?_⟩
  · have hne : x ≠ 0 := fun z => by rw [z] at h; cases h
    obtain ⟨K, rfl⟩ : ∃ K', K = K' + 1 := by
      cases K with
      | zero => exact absurd hx.zero hne
      | succ K => exact ⟨K, rfl⟩
    have qz := hx.qz F
    have rr := R_rounded.mk b p low high "even" x 0 5340 2341 B2 F (by decide) (.inl rfl) qz (by decide) (by decide)
    rw [rdP_eq] at rr
    have hst := step_K F hx
    have hcan := (rdV_can F (way := "even") (x := x) (s := 0) (.inl rfl)).1
    have hK1 : psK b p low high (K + 1) x = if x = 0 then some [] else if (rdV b p low high "even" x 0).isInf = true then none else (psK b p low high K (x - (rdV b p low high "even" x 0).wQ b)).map fun L => rdV b p low high "even" x 0 :: L := rfl
    rw [if_neg hne] at hK1
    have hnum : (rdV b p low high "even" x 0).isInf = false → ∃ s c e, rdV b p low high "even" x 0 = .num s c e := fun hi => by
      obtain ⟨_, _, _, _, s', c, e', q⟩ := rd_worth F (way := "even") (x := x) (s := 0) (.inl rfl) near_inf hi
      exact ⟨s', c, e', q⟩
    generalize rdV b p low high "even" x 0 = v at *
    generalize words (rdF b p low high "even" x 0) = wf at *
    refine ow_unpack [4, 5] G.calm (ej_call c_l_rounded (G.le (by decide)) (aj_cons (ej_dat (d := fmP b p low high) 0) (aj_cons ej_str (aj_cons (ej_dat (d := fq x) 3) (aj_cons ej_int aj_nil)))) (rr)) (pgs_cons (pgN 4 G.nd) (pgs_cons (pgN 5 G.nd) pgs_nil)) rfl (by decide) ?_
    refine ow_if (x := v.isInf) (fun Γ' B3 acc => v.isInf = false ∧ Γ' = [.da (fmP b p low high), .da (fq x0), .no, .da (fq x), .da v.d, .da wf] ∧ B3 = B2 ∧ acc = L.map Va.d) (tj_is (tj_eqS (ej_at (ej_dat (d := .tuple v.l) 4) v.at0) ej_str) (tag_inf v)) (fun hi => ?_) (fun hi => ow_nil ⟨hi, rfl, rfl, rfl⟩) (fun Γ' B3 acc hM => ?_)
    · refine ow_end (sj_ret ej_non ⟨?_, rfl⟩)
      rw [he, hK1, if_pos hi]; rfl
    · obtain ⟨hi, rfl, rfl, rfl⟩ := hM
      obtain ⟨s, c, e, rfl⟩ := hnum hi
      refine ow_app G.nd (ej_dat (d := (Va.num s c e).d) 4) (by rw [List.length_map]; omega) ?_
      refine ow_set 3 G.nd (by decide) (ej_call c_l_lessened (G.le (by decide)) (aj_cons (ej_dat (d := fq x) 3) (aj_cons (ej_call c_l_worth (G.le (by decide)) (aj_cons (ej_dat (d := fmP b p low high) 0) (aj_cons (ej_dat (d := (Va.num s c e).d) 4) aj_nil)) (R_worth.mk b p low high s c e B3 F hcan.ok)) aj_nil)) (R_two.mk 5340 2341 3040 2341 x ((Va.num s c e).wQ b) B3 qz (F.wz hcan.ok) (by decide) (by decide) (by decide))) ?_
      refine ow_nil ⟨⟨K, x - (Va.num s c e).wQ b, L ++ [.num s c e], _, _, rfl, rfl, by rw [List.map_append]; rfl, by rw [List.length_append, List.length_singleton]; omega, hst hi, ?_⟩, ?_⟩
      · rw [he, hK1, if_neg (by rw [hi]; decide)]
        cases psK b p low high K (x - (Va.num s c e).wQ b) with
        | none => rfl
        | some M => show some (L ++ Va.num s c e :: M) = some (L ++ [Va.num s c e] ++ M); rw [List.append_assoc]; rfl
      · show 60 - (L.map Va.d ++ [_]).length < 60 - (L.map Va.d).length
        rw [List.length_append, List.length_map, List.length_singleton]; omega
  · have h0 : x = 0 := Rat.num_eq_zero.mp (by simpa using h)
    refine ow_end (sj_ret (ej_tupleL m_tuple (ej_dat (d := .list (L.map Va.d)) 2)) ⟨?_, rfl⟩)
    have : psK b p low high K x = some [] := by
      cases K with
      | zero => rfl
      | succ K => unfold psK; rw [if_pos h0]
    rw [he, this]
    show PyData.tuple (L.map Va.d) = .tuple ((L ++ []).map Va.d)
    rw [List.append_nil]

abbrev s_l_total : Stmt := topS 67
theorem sc_l_total : FnScope ["_law_form", "_law_numbers", "_law_found", "_law_number_here"] ["_law_form", "_law_numbers"] (defScope s_l_total) := ⟨rfl, rfl, rfl, by decide +kernel, rfl, by decide +kernel, by decide +kernel⟩

theorem c_of_l_total /-H-/ (c_l_added : Cal P w K mg base "_law_added" 6 (R_two (· + ·))) (c_l_worth : Cal P w K mg base "_law_worth" 7 R_worth) /-E-/ (T : At K mg "_law_total" s_l_total ["_law_form", "_law_numbers"]) : Cal P w K mg base "_law_total" 8 R_total :=
  cal_at T sc_l_total (by rintro _ _ _ _ ⟨⟩; rfl) fun f cd0 A out s0 H E0 G Γ B r B' hR => by
  obtain ⟨b, p, low, high, vs, B, F, hv, hl, hn, hs⟩ := hR
  refine sj_set 2 G.nd (d := .da (fq 0)) (ej_is (ej_tupD (ad_cons ej_int (ad_cons ej_int ad_nil)) (Nat.le_of_ble_eq_true rfl)) rfl) ?_
  refine sj_forL (ds := vs.map Va.d) 3 G.nd G.calm (fun k Γ' B2 => (∃ g, Γ' = [.da (fmP b p low high), .da (.list (vs.map Va.d)), .da (fq (sumQ b (vs.take k))), g]) ∧ B2 = B) (ej_dat (d := .list (vs.map Va.d)) 1) ⟨⟨_, rfl⟩, rfl⟩ (fun k yy Γ' B2 hk hP => ?_) (fun Γ' B2 hP => ?_)
  · obtain ⟨⟨g, rfl⟩, rfl⟩ := hP
    rw [List.getElem?_map] at hk
    obtain ⟨v, hv2, rfl⟩ := Option.map_eq_some_iff.mp hk
    have hm := List.mem_of_getElem? hv2
    have ok := hv v hm
    have nm := hn v hm
    obtain ⟨s, c, e, rfl⟩ : ∃ s c e, v = .num s c e := by cases v <;> first | exact ⟨_, _, _, rfl⟩ | cases nm
    refine sj_set 2 G.nd (ej_call c_l_added (G.le (by decide)) (aj_cons (ej_dat (d := fq (sumQ b (vs.take k))) 2) (aj_cons (ej_call c_l_worth (G.le (by decide)) (aj_cons (ej_dat (d := fmP b p low high) 0) (aj_cons (ej_dat (d := (Va.num s c e).d) 3) aj_nil)) (R_worth.mk b p low high s c e B2 F ok)) aj_nil)) (R_two.mk 5340 2341 3040 2341 (sumQ b (vs.take k)) ((Va.num s c e).wQ b) B2 ((hs k).qz F) (F.wz ok) (by decide) (by decide) (by decide))) (sj_nil ⟨⟨.da (Va.num s c e).d, ?_⟩, rfl⟩)
    rw [sumQ_take b vs hv2]; rfl
  · obtain ⟨⟨g, rfl⟩, rfl⟩ := hP
    rw [List.length_map, List.take_length]
    exact sj_ret (ej_dat (d := fq (sumQ b vs)) 2) ⟨rfl, rfl⟩

abbrev s_l_near_sums : Stmt := topS 68
theorem sc_l_near_sums : FnScope ["_law_bag_here", "_law_form", "_law_due", "_law_some_here", "_law_at", "_law_number_here"] ["_law_bag_here", "_law_form", "_law_due"] (defScope s_l_near_sums) := ⟨rfl, rfl, rfl, by decide +kernel, rfl, by decide +kernel, by decide +kernel⟩

theorem c_of_l_near_sums /-H-/ (m_list : mg "list" = none) (m_len : mg "len" = none) (c_l_zero_of : Cal P w K mg base "_law_zero_of" 4 R_zero) (c_l_take : Cal P w K mg base "_law_take" 4 R_take) (c_l_turned_sign : Cal P w K mg base "_law_turned_sign" 4 R_tsign) (c_l_number : Cal P w K mg base "_law_number" 6 (R_draw numV numB)) (c_l_mixed : CalX P w K mg base "_law_mixed" 5 Pre_mixed3 Post_mixed) /-E-/ (T : At K mg "_law_near_sums" s_l_near_sums ["_law_bag_here", "_law_form", "_law_due"]) : CalX P w K mg base "_law_near_sums" 9 Pre_ns Post_ns :=
  calx_at T sc_l_near_sums (by rintro _ _ ⟨_, _, _, _, _, rfl, _⟩; rfl) fun f cd0 A out s0 H E0 G Γ B hPre => by
  obtain ⟨b, p, low, high, L, rfl, F, ok, hl, hc⟩ := hPre
  have hB : ∀ v ∈ L, BN 2 10 v.d := fun v hv => can_bn F (hc v hv).1
  have e1 : cutP (L.map Va.d) none (some 1) = (L.take 1).map Va.d := by
    cases L with
    | nil => rfl
    | cons x r => rw [show ((1 : Int) = ((1 : Nat) : Int)) from rfl, cutN _ 1 (by simp), List.map_take]
  have e2 : cutP (L.map Va.d) (some 1) none = (L.drop 1).map Va.d := by rw [cut1, List.map_drop]
  have zb : BN 2 10 (Va.num 0 0 low).d := can_bn F (zero_can F (.inl rfl))
  have Q1 : NsQ L (.list (L.map Va.d)) := ⟨.lst, (nums_ok (ds := L.map Va.d) (fun d hd => by obtain ⟨v, hv, rfl⟩ := List.mem_map.mp hd; exact hB v hv) (by rw [List.length_map]; omega)).2, trivial⟩
  have Q2 : NsQ L (.tuple ((L ++ L.take 1).map Va.d)) := nsq_vas (fun v hv => by
    rcases List.mem_append.mp hv with hv | hv
    · exact hB v hv
    · exact hB v (List.mem_of_mem_take hv)) (by rw [List.length_append, List.length_take]; omega)
  have Q3 : NsQ L (.tuple ((L.drop 1).map Va.d)) := nsq_vas (fun v hv => hB v (List.mem_of_mem_drop hv)) (by rw [List.length_drop]; omega)
  have Q4 : NsQ L (.tuple (L.reverse.map Va.d)) := nsq_vas (fun v hv => hB v (List.mem_reverse.mp hv)) (by rw [List.length_reverse]; omega)
  have Q5 : NsQ L (.tuple ((L ++ [Va.num 0 0 low]).map Va.d)) := nsq_vas (fun v hv => by
    rcases List.mem_append.mp hv with hv | hv
    · exact hB v hv
    · rw [List.mem_singleton.mp hv]; exact zb) (by rw [List.length_append, List.length_singleton]; omega)
  have Q6 : NsQ L .none := ⟨.non, ⟨by simp only [datB], by simp only [PyData.depth]; omega, by simp only [PyData.bulk]; omega⟩, trivial⟩
  have Q7 : NsQ L (.tuple []) := nsq_vas (M := []) (fun _ h => nomatch h) (by decide)
  have Q8 : NsQ L (.str "sum") := ⟨.sum, ⟨by simp only [datB]; decide +kernel, by simp only [PyData.depth]; omega, by simp only [PyData.bulk]; decide +kernel⟩, trivial⟩
  have Q9 : NsQ L (.dict []) := ⟨.dct, ⟨by simp only [datB]; rfl, by decide, by decide⟩, trivial⟩
  refine sj_own 3 G.nd (ds := [.list (L.map Va.d), .tuple ((L ++ L.take 1).map Va.d), .tuple ((L.drop 1).map Va.d), .tuple (L.reverse.map Va.d), .tuple ((L ++ [Va.num 0 0 low]).map Va.d), .none, .tuple [], .str "sum", .dict []]) (fj_lstD (aj_cons (ej_listT m_list (ej_dat (d := .tuple (L.map Va.d)) 2)) (aj_cons (ej_is (ej_catT (ej_dat (d := .tuple (L.map Va.d)) 2) (ej_is (ej_sliceT (ej_dat (d := .tuple (L.map Va.d)) 2) oj_none (oj_some ej_int)) (congrArg PyData.tuple e1)) (by simp only [List.length_map, List.length_take]; omega)) (by rw [List.map_append])) (aj_cons (ej_is (ej_sliceT (ej_dat (d := .tuple (L.map Va.d)) 2) (oj_some ej_int) oj_none) (congrArg PyData.tuple e2)) (aj_cons (ej_is (ej_revT (ej_dat (d := .tuple (L.map Va.d)) 2)) (by rw [List.map_reverse])) (aj_cons (ej_is (ej_catT (ej_dat (d := .tuple (L.map Va.d)) 2) (ej_tupD (ad_cons (ej_call c_l_zero_of (G.le (by decide)) (aj_cons (ej_dat (d := fmP b p low high) 1) (aj_cons ej_int aj_nil)) (R_zero.mk b p low high 0 B)) ad_nil) (Nat.le_of_ble_eq_true rfl)) (by simp only [List.length_map, List.length_singleton]; omega)) (by rw [List.map_append]; rfl)) (aj_cons ej_non (aj_cons (ej_tupD ad_nil (Nat.le_of_ble_eq_true rfl)) (aj_cons ej_str (aj_cons ej_dict0 aj_nil))))))))) (Nat.le_of_ble_eq_true rfl)) (Nat.le_of_ble_eq_true rfl) ?_
  have Q0 : ∀ d ∈ ([.list (L.map Va.d), .tuple ((L ++ L.take 1).map Va.d), .tuple ((L.drop 1).map Va.d), .tuple (L.reverse.map Va.d), .tuple ((L ++ [Va.num 0 0 low]).map Va.d), .none, .tuple [], .str "sum", .dict []] : List PyData), NsQ L d := by
    intro d hd
    simp only [List.mem_cons, List.not_mem_nil, or_false] at hd
    rcases hd with rfl | rfl | rfl | rfl | rfl | rfl | rfl | rfl | rfl
    · exact Q1
    · exact Q2
    · exact Q3
    · exact Q4
    · exact Q5
    · exact Q6
    · exact Q7
    · exact Q8
    · exact Q9
  have l0 : ([.list (L.map Va.d), .tuple ((L ++ L.take 1).map Va.d), .tuple ((L.drop 1).map Va.d), .tuple (L.reverse.map Va.d), .tuple ((L ++ [Va.num 0 0 low]).map Va.d), .none, .tuple [], .str "sum", .dict []] : List PyData).length = 9 := rfl
  generalize ([.list (L.map Va.d), .tuple ((L ++ L.take 1).map Va.d), .tuple ((L.drop 1).map Va.d), .tuple (L.reverse.map Va.d), .tuple ((L ++ [Va.num 0 0 low]).map Va.d), .none, .tuple [], .str "sum", .dict []] : List PyData) = acc0 at *
  clear Q1 Q2 Q3 Q4 Q5 Q6 Q7 Q8 Q9 e1 e2 zb
  refine ow_if (x := !(L.map Va.d).isEmpty) (fun Γ' B' acc => Bok B' ∧ (∃ g4 g5, Γ' = [.bag, .da (fmP b p low high), .da (.tuple (L.map Va.d)), .no, g4, g5]) ∧ (∀ d ∈ acc, NsQ L d) ∧ acc.length ≤ 15) (tj_neE G.hu (ej_dat (d := .tuple (L.map Va.d)) 2) (ej_tupD ad_nil (Nat.le_of_ble_eq_true rfl))) (fun hx => ?_) (fun hx => ow_nil ⟨ok, ⟨_, _, rfl⟩, Q0, by omega⟩) (fun Γ' B' acc hM => ?_)
  · have lp : 0 < L.length := by
      cases L with
      | nil => cases hx
      | cons _ _ => exact Nat.succ_pos _
    have rt := R_take.mk B (L.length : Int) (by omega) (by unfold Bd; exact Nat.lt_of_le_of_lt (show _ ≤ 60 by omega) (by decide +kernel)) ok
    have t0 := tkV_ge B (m := (L.length : Int)) (by omega)
    have t1 := tkV_lt B (m := (L.length : Int)) (by omega)
    have ok1 := tkB_ok ok (L.length : Int)
    obtain ⟨at', ea⟩ : ∃ n : Nat, tkV B (L.length : Int) = (n : Int) := ⟨(tkV B (L.length : Int)).toNat, by omega⟩
    rw [ea] at rt t0 t1
    generalize tkB B (L.length : Int) = B1 at *
    have hlt : at' < L.length := by omega
    have hv : L[at']? = some L[at'] := List.getElem?_eq_getElem hlt
    have hm := hc L[at'] (List.getElem_mem hlt)
    have hL : L = L.take at' ++ L[at'] :: L.drop (at' + 1) := by rw [← List.drop_eq_getElem_cons hlt, List.take_append_drop]
    have hP : cutP (L.map Va.d) none (some (at' : Int)) = (L.take at').map Va.d := by rw [cutN _ _ (by rw [List.length_map]; omega), List.map_take]
    have hQ : cutP (L.map Va.d) (some ((at' : Int) + 1)) none = (L.drop (at' + 1)).map Va.d := by rw [show ((at' : Int) + 1) = ((at' + 1 : Nat) : Int) by omega, cut2, List.map_drop]
    have hQ0 : cutP (L.map Va.d) (some (at' : Int)) none = (L.drop at').map Va.d := by rw [cut2, List.map_drop]
    generalize hvv : L[at'] = v at *
    clear hvv
    obtain ⟨s, c, e, rfl⟩ : ∃ s c e, v = .num s c e := by
      have := hm.2
      cases v <;> first | exact ⟨_, _, _, rfl⟩ | cases this
    have hcan := hm.1
    have bp := F.bp; have flo := F.lo; have fhi := F.hi
    obtain ⟨bs, bc, be⟩ : Bd 8 s ∧ Bd 704 c ∧ Bd 30 e := by
      obtain ⟨hs, ⟨a1, a2, a3, a4⟩, a5⟩ := hcan
      have k : (2 : Int) ^ 700 < 2 ^ 704 := by decide +kernel
      exact ⟨by unfold Bd; rcases hs with rfl | rfl <;> decide, by unfold Bd; have : c.natAbs < b ^ p := by omega
                                                                   exact Nat.lt_of_lt_of_le (Nat.lt_trans this bp) (Nat.pow_le_pow_right (by decide) (by decide)), by unfold Bd; omega⟩
    have hpl : (L.take at').length ≤ 59 := by rw [List.length_take]; omega
    have hql : (L.drop (at' + 1)).length ≤ 59 := by rw [List.length_drop]; omega
    have hpq : (L.take at').length + (L.drop (at' + 1)).length ≤ 60 := by rw [List.length_take, List.length_drop]; omega
    have hql0 : (L.take at').length + (L.drop at').length ≤ 60 := by rw [List.length_take, List.length_drop]; omega
    have hpB : ∀ v ∈ L.take at', BN 2 10 v.d := fun v hv => hB v (List.mem_of_mem_take hv)
    have hqB : ∀ v ∈ L.drop (at' + 1), BN 2 10 v.d := fun v hv => hB v (List.mem_of_mem_drop hv)
    have hqB0 : ∀ v ∈ L.drop at', BN 2 10 v.d := fun v hv => hB v (List.mem_of_mem_drop hv)
    obtain ⟨n1, n2⟩ := nsq_mid hL hB (by omega) (bs.le (by decide)) (bc.le (by decide)) (be.le (by decide))
    have ea1 : atI (L.map Va.d) (at' : Int) = some (Va.num s c e).d := atI_nat (by rw [List.getElem?_map, hv]; rfl)
    have vn : ∀ (u : Va), BN 2 10 u.d → ∀ post : List Va, (∀ v ∈ post, BN 2 10 v.d) → (L.take at').length + post.length ≤ 60 → NsQ L (.tuple ((L.take at').map Va.d ++ [u.d] ++ post.map Va.d)) := fun u hu post hp hpo => by
      have := nsq_vas (L := L) (M := L.take at' ++ [u] ++ post) (fun v hv => by
        rcases List.mem_append.mp hv with hv | hv
        · rcases List.mem_append.mp hv with hv | hv
          · exact hpB v hv
          · rw [List.mem_singleton.mp hv]; exact hu
        · exact hp v hv) (by simp only [List.length_append, List.length_singleton]; omega)
      rw [List.map_append, List.map_append] at this
      exact this
    generalize L.take at' = pre at *
    generalize L.drop (at' + 1) = post at *
    generalize L.drop at' = post0 at *
    have rn := R_draw.mk (f := numV) (g := numB) b p low high B1 F ok1
    have ok2 := numB_ok (b := b) (p := p) (low := low) (high := high) ok1
    have nb := can_bn F (numV_can F B1)
    generalize numV b p low high B1 = nv at *
    generalize numB b p low high B1 = B2 at *
    have b1 : Bd 10 (1 - s) := by unfold Bd at *; omega
    refine ow_set 4 G.nd (by decide) (d := .da (.int (at' : Nat))) (ej_call c_l_take (G.le (by decide)) (aj_cons (ej_bag 0) (aj_cons (ej_is (ej_lenT m_len (ej_dat (d := .tuple (L.map Va.d)) 2)) (by rw [List.length_map])) aj_nil)) (rt)) ?_
    refine ow_set 5 G.nd (by decide) (d := .da (.tuple [.str "num", .int s, .int c, .int e])) (ej_ixT (ej_dat (d := .tuple (L.map Va.d)) 2) (ej_dat (d := .int (at' : Nat)) 4) ea1 fun _ _ => rfl) ?_
    refine ow_app G.nd (y := .tuple (pre.map Va.d ++ [(Va.num s c e).opp.d] ++ post.map Va.d)) (ej_catT (ej_catT (ej_is (ej_sliceT (ej_dat (d := .tuple (L.map Va.d)) 2) oj_none (oj_some (ej_dat (d := .int (at' : Nat)) 4))) (congrArg PyData.tuple hP)) (ej_tupD (ad_cons (ej_call c_l_turned_sign (G.le (by decide)) (aj_cons (ej_dat (d := (Va.num s c e).d) 5) aj_nil) (R_tsign.mk (.num s c e) B1)) ad_nil) (Nat.le_of_ble_eq_true rfl)) (by simp only [List.length_map, List.length_singleton]; omega)) (ej_is (ej_sliceT (ej_dat (d := .tuple (L.map Va.d)) 2) (oj_some (ej_add (ej_dat (d := .int (at' : Nat)) 4) ej_int)) oj_none) (congrArg PyData.tuple hQ)) (by simp only [List.length_append, List.length_map, List.length_singleton]; omega)) (by omega) ?_
    refine ow_app G.nd (y := aroD pre (trueD s e) post) (ej_catT (ej_catT (ej_is (ej_sliceT (ej_dat (d := .tuple (L.map Va.d)) 2) oj_none (oj_some (ej_dat (d := .int (at' : Nat)) 4))) (congrArg PyData.tuple hP)) (ej_tupD (ad_cons (ej_tupD (ad_cons ej_str (ad_cons (ej_at (i := 1) (ej_dat (d := .tuple [.str "num", .int s, .int c, .int e]) 5) rfl) (ad_cons ej_bl (ad_cons (ej_at (i := 3) (ej_dat (d := .tuple [.str "num", .int s, .int c, .int e]) 5) rfl) ad_nil)))) (Nat.le_of_ble_eq_true rfl)) ad_nil) (Nat.le_of_ble_eq_true rfl)) (by simp only [List.length_map, List.length_singleton]; omega)) (ej_is (ej_sliceT (ej_dat (d := .tuple (L.map Va.d)) 2) (oj_some (ej_add (ej_dat (d := .int (at' : Nat)) 4) ej_int)) oj_none) (congrArg PyData.tuple hQ)) (by simp only [List.length_append, List.length_map, List.length_singleton]; omega)) (by rw [List.length_append, List.length_singleton]; omega) ?_
    refine ow_app G.nd (y := .tuple (pre.map Va.d ++ [(Va.num s c (e + 1)).d] ++ post.map Va.d)) (ej_catT (ej_catT (ej_is (ej_sliceT (ej_dat (d := .tuple (L.map Va.d)) 2) oj_none (oj_some (ej_dat (d := .int (at' : Nat)) 4))) (congrArg PyData.tuple hP)) (ej_tupD (ad_cons (ej_is (y := (Va.num s c (e + 1)).d) (ej_catT (ej_is (y := .tuple [.str "num", .int s, .int c]) (ej_sliceT (ej_dat (d := .tuple [.str "num", .int s, .int c, .int e]) 5) oj_none (oj_some ej_int)) rfl) (ej_tupD (ad_cons (ej_add (ej_at (i := 3) (y := .int e) (ej_dat (d := .tuple [.str "num", .int s, .int c, .int e]) 5) rfl) ej_int) ad_nil) (Nat.le_of_ble_eq_true rfl)) (Nat.le_of_ble_eq_true rfl)) rfl) ad_nil) (Nat.le_of_ble_eq_true rfl)) (by simp only [List.length_map, List.length_singleton]; omega)) (ej_is (ej_sliceT (ej_dat (d := .tuple (L.map Va.d)) 2) (oj_some (ej_add (ej_dat (d := .int (at' : Nat)) 4) ej_int)) oj_none) (congrArg PyData.tuple hQ)) (by simp only [List.length_append, List.length_map, List.length_singleton]; omega)) (by simp only [List.length_append, List.length_singleton]; omega) ?_
    refine ow_app G.nd (y := .tuple (pre.map Va.d ++ [(Va.num s (c + 1) e).d] ++ post.map Va.d)) (ej_catT (ej_catT (ej_is (ej_sliceT (ej_dat (d := .tuple (L.map Va.d)) 2) oj_none (oj_some (ej_dat (d := .int (at' : Nat)) 4))) (congrArg PyData.tuple hP)) (ej_tupD (ad_cons (ej_is (y := (Va.num s (c + 1) e).d) (ej_catT (ej_is (y := .tuple [.str "num", .int s]) (ej_sliceT (ej_dat (d := .tuple [.str "num", .int s, .int c, .int e]) 5) oj_none (oj_some ej_int)) rfl) (ej_tupD (ad_cons (ej_add (ej_at (i := 2) (y := .int c) (ej_dat (d := .tuple [.str "num", .int s, .int c, .int e]) 5) rfl) ej_int) (ad_cons (ej_at (i := 3) (y := .int e) (ej_dat (d := .tuple [.str "num", .int s, .int c, .int e]) 5) rfl) ad_nil)) (Nat.le_of_ble_eq_true rfl)) (Nat.le_of_ble_eq_true rfl)) rfl) ad_nil) (Nat.le_of_ble_eq_true rfl)) (by simp only [List.length_map, List.length_singleton]; omega)) (ej_is (ej_sliceT (ej_dat (d := .tuple (L.map Va.d)) 2) (oj_some (ej_add (ej_dat (d := .int (at' : Nat)) 4) ej_int)) oj_none) (congrArg PyData.tuple hQ)) (by simp only [List.length_append, List.length_map, List.length_singleton]; omega)) (by simp only [List.length_append, List.length_singleton]; omega) ?_
    refine ow_app G.nd (y := aroD pre (lstD s c e) post) (ej_catT (ej_catT (ej_is (ej_sliceT (ej_dat (d := .tuple (L.map Va.d)) 2) oj_none (oj_some (ej_dat (d := .int (at' : Nat)) 4))) (congrArg PyData.tuple hP)) (ej_tupD (ad_cons (ej_listT m_list (ej_dat (d := .tuple [.str "num", .int s, .int c, .int e]) 5)) ad_nil) (Nat.le_of_ble_eq_true rfl)) (by simp only [List.length_map, List.length_singleton]; omega)) (ej_is (ej_sliceT (ej_dat (d := .tuple (L.map Va.d)) 2) (oj_some (ej_add (ej_dat (d := .int (at' : Nat)) 4) ej_int)) oj_none) (congrArg PyData.tuple hQ)) (by simp only [List.length_append, List.length_map, List.length_singleton]; omega)) (by simp only [List.length_append, List.length_singleton]; omega) ?_
    refine ow_app G.nd (y := .tuple (pre.map Va.d ++ [nv.d] ++ post0.map Va.d)) (ej_catT (ej_catT (ej_is (ej_sliceT (ej_dat (d := .tuple (L.map Va.d)) 2) oj_none (oj_some (ej_dat (d := .int (at' : Nat)) 4))) (congrArg PyData.tuple hP)) (ej_tupD (ad_cons (ej_call c_l_number (G.le (by decide)) (aj_cons (ej_bag 0) (aj_cons (ej_dat (d := fmP b p low high) 1) aj_nil)) (rn)) ad_nil) (Nat.le_of_ble_eq_true rfl)) (by simp only [List.length_map, List.length_singleton]; omega)) (ej_is (ej_sliceT (ej_dat (d := .tuple (L.map Va.d)) 2) (oj_some (ej_dat (d := .int (at' : Nat)) 4)) oj_none) (congrArg PyData.tuple hQ0)) (by simp only [List.length_append, List.length_map, List.length_singleton]; omega)) (by simp only [List.length_append, List.length_singleton]; omega) ?_
    refine ow_nil ⟨ok2, ⟨_, _, rfl⟩, fun d hd => ?_, by simp only [List.length_append, List.length_singleton]; omega⟩
    simp only [List.mem_append, List.mem_singleton, or_assoc] at hd
    rcases hd with hd | rfl | rfl | rfl | rfl | rfl | rfl
    · exact Q0 d hd
    · exact vn _ ((num_bend (s := 1 - s) (c := c) (e := e) b1 (bc.le (by decide)) (be.le (by decide))).le (by decide) (by decide)) post hqB (by omega)
    · exact n1
    · exact vn _ ((num_bend (s := s) (c := c) (e := e + 1) (bs.le (by decide)) (bc.le (by decide)) (by unfold Bd at *; omega)).le (by decide) (by decide)) post hqB (by omega)
    · exact vn _ ((num_bend (s := s) (c := c + 1) (e := e) (bs.le (by decide)) (bd_add1 bc (show Bd 704 1 by unfold Bd; decide +kernel)) (be.le (by decide))).le (by decide) (by decide)) post hqB (by omega)
    · exact n2
    · exact vn _ nb post0 hqB0 hql0
  · obtain ⟨okB, ⟨g4, g5, rfl⟩, hq, hlen⟩ := hM
    refine ow_end (sj_retX (ex_sliceL (ex_call c_l_mixed (G.le (by decide)) (ax_bag 0 (ax_aj (aj_cons (ej_is (y := lisD true acc) (ej_dat (d := .list acc) 3) rfl) aj_nil) ⟨⟨true, acc, rfl, by omega, okB⟩, fun r B2 hp => ?_⟩)))))
    obtain ⟨ds, rfl, hpm⟩ := hp.2 true acc rfl
    refine ⟨ds, none, some 7, rfl, oj_none, oj_some ej_int, hp.1, fun g0 g1 L2 e => ⟨_, rfl, ?_, fun d hd => ?_⟩⟩
    · by_cases h7 : 7 ≤ ds.length
      · rw [show ((7 : Int) = ((7 : Nat) : Int)) from rfl, cutN _ 7 h7, List.length_take]; omega
      · exact Nat.le_trans (cutP_len ds none (some 7)) (by omega)
    · have eL : L = L2 := by
        injection e with _ e; injection e with _ e; injection e with e _; injection e with e; injection e with e
        exact map_d_inj e
      subst eL
      have h := hq d (hpm.mem_iff.mp ((cutP_sub ds none (some 7)).mem hd))
      exact ⟨h.t, h.a, h.l⟩

abbrev s_law : Stmt := topS 69
theorem sc_law : FnScope ["_law_script", "_law_bag_here", "_law_turn", "_law_form", "_law_numbers", "_law_again", "_law_due", "_law_shown", "_law_told", "_law_thing"] ["_law_script"] (defScope s_law) := ⟨rfl, rfl, rfl, by decide +kernel, rfl, by decide +kernel, by decide +kernel⟩

theorem ok_law {f : Addr} {fd : FuncData} (sk : KSys K) /-H-/ (m_range : mg "range" = none) (m_repr : mg "repr" = none) (m_tuple : mg "tuple" = none) (c_l_some : Cal P w K mg base "_law_some" 5 R_some) (c_l_number : Cal P w K mg base "_law_number" 6 (R_draw numV numB)) (c_l_take : Cal P w K mg base "_law_take" 4 R_take) (c_l_turned_sign : Cal P w K mg base "_law_turned_sign" 4 R_tsign) (c_l_parted_sum : Cal P w K mg base "_law_parted_sum" 10 R_lpsum) (c_l_total : Cal P w K mg base "_law_total" 8 R_total) (c_parted_sum_of : Cal P w K mg base "parted_sum_of" 8 R_psumof) (c_l_alike : Cal P w K mg base "_law_alike" 4 R_alikeA) (c_is_parted_sum : Cal P w K mg base "is_parted_sum" 9 R_isps) (c_l_alike_x : Cal P w K mg base "_law_alike" 4 R_ns) (c_l_bag : Cal P w K mg base "_law_bag" 4 R_bag) (c_l_near_format : CalX P w K mg base "_law_near_format" 7 Pre_bag Post_nf) (c_l_mixed : CalX P w K mg base "_law_mixed" 5 Pre_mixed3 Post_mixed) (c_l_near_sums : CalX P w K mg base "_law_near_sums" 9 Pre_ns Post_ns) /-E-/
    (F : Fun K "law" "law" s_law f fd) : FnG P w K mg base 12 f fd ["_law_script"] (spLaw K) := by
  refine fnG_of F sc_law (by rintro vs H Q E ⟨a, ns, rfl, _⟩; rfl) fun cd0 A out s H vs Q E G hsp => ?_
  obtain ⟨a, ns, rfl, hS, hlen, q⟩ := hsp
  have Ev : EnvD K none H (L2.start ["_law_script", "_law_bag_here", "_law_turn", "_law_form", "_law_numbers", "_law_again", "_law_due", "_law_shown", "_law_told", "_law_thing"] [.ref a]) ([.scr ns] ++ List.replicate (10 - 1) .no) := start_env (Γ := [.scr ns]) ⟨⟨a, rfl, hS⟩, trivial⟩ (Nat.le_of_ble_eq_true rfl)
  have O : On K none ⟨0, 0, 0, []⟩ H H := ⟨Same.refl _, fun _ _ z => nomatch z⟩
  refine sj_law 1 G.nd (y := 1234567891) (ns := (ns.take 63).map absI) (ej_call c_l_bag (G.le (by decide)) (aj_cons (ej_var 0 (d := .scr ns) rfl (fun z => nomatch z)) aj_nil) (R_bag.mk ns _ hlen)) ?_ (Ev := Ev) (O := O) (q := q)
  generalize hB0 : (⟨0, 1234567891, 0, (ns.take 63).map absI⟩ : Bag) = B0
  have okB : Bok B0 := by rw [← hB0]; show ((ns.take 63).map absI).length ≤ 63; rw [List.length_map, List.length_take]; omega
  clear hB0
  refine sj_forR (n := 2) 2 G.nd G.calm m_range (fun i Γ' B' => (∃ g2 g3 g4 g5 g6 g7 g8 g9, Γ' = [.no, .bag, g2, g3, g4, g5, g6, g7, g8, g9]) ∧ Bok B') ej_int (by decide) ⟨⟨_, _, _, _, _, _, _, _, rfl⟩, okB⟩ (fun ti Γ' B' hi hP => ?_) (fun Γ' B' hP => ?_)
  · obtain ⟨⟨g2, g3, g4, g5, g6, g7, g8, g9, rfl⟩, ok⟩ := hP
    refine sj_unpackOwn 3 4 G.calm (Nat.le_of_ble_eq_true rfl) (by decide) (ex_call c_l_near_format (G.le (by decide)) (ax_bag 1 (ax_nil ⟨⟨rfl, ok⟩, fun r B1 hp => ?_⟩))) (pgs_cons (pgN 3 G.nd) (pgs_cons (pgN 4 G.nd) pgs_nil))
    obtain ⟨ok1, ⟨b, p, low, high⟩, rfl, ht⟩ := hp
    have F : Fm b p low high := nearL_in ht
    have r0 := R_some.mk B1 (([2, 3, 0, 1, 5] : List Int).map PyData.int) (Nat.le_of_ble_eq_true rfl) (Nat.le_of_ble_eq_true rfl) ok1
    obtain ⟨s7, hs7, e7⟩ := pick_ex ([2, 3, 0, 1, 5] : List Int) PyData.int B1 (Nat.le_of_ble_eq_true rfl)
    rw [e7] at r0
    have ok2 := tkB_ok ok1 (([2, 3, 0, 1, 5] : List Int).map PyData.int).length
    generalize tkB B1 (([2, 3, 0, 1, 5] : List Int).map PyData.int).length = B2 at *
    obtain ⟨n, rfl, hn⟩ : ∃ n : Nat, s7 = (n : Int) ∧ n ≤ 5 := by
      simp only [List.mem_cons, List.not_mem_nil, or_false] at hs7
      exact ⟨s7.toNat, by omega, by omega⟩
    clear e7 hs7
    refine ow_forR (n := n) 5 G.nd G.calm m_range (by decide) (fun k Γ' B' acc => Bok B' ∧ (∃ g5, Γ' = [.no, .bag, .da (.int (ti : Nat)), .da (fmP b p low high), .no, g5, g6, g7, g8, g9]) ∧ ∃ vs : List Va, acc = vs.map Va.d ∧ vs.length ≤ 2 * k ∧ ∀ v ∈ vs, Vcan b p low high v ∧ v.isNum = true) (ej_call c_l_some (G.le (by decide)) (aj_cons (ej_bag 1) (aj_cons (ej_is (y := .list (([2, 3, 0, 1, 5] : List Int).map PyData.int)) (ej_lstD (ad_cons ej_int (ad_cons ej_int (ad_cons ej_int (ad_cons ej_int (ad_cons ej_int ad_nil))))) (Nat.le_of_ble_eq_true rfl)) rfl) aj_nil)) (r0)) (by omega) ⟨ok2, ⟨_, rfl⟩, [], rfl, Nat.le_refl _, fun _ h => nomatch h⟩ (fun k Γ' B' acc hk hP => ?_) (fun Γ' B' acc hP => ?_)
    · obtain ⟨okB', ⟨g5, rfl⟩, vs, rfl, hvl, hvc⟩ := hP
      have rn := R_draw.mk (f := numV) (g := numB) b p low high B' F okB'
      have nc := numV_can F B'
      have nn : (numV b p low high B').isNum = true := by obtain ⟨s, c, e, q, _⟩ := numV_num F B'; rw [q]; rfl
      have ok3 := numB_ok (b := b) (p := p) (low := low) (high := high) okB'
      generalize numV b p low high B' = nv at *
      generalize numB b p low high B' = B3 at *
      refine ow_app G.nd (y := nv.d) (ej_call c_l_number (G.le (by decide)) (aj_cons (ej_bag 1) (aj_cons (ej_dat (d := fmP b p low high) 3) aj_nil)) (rn)) (by rw [List.length_map]; omega) ?_
      have rt := R_take.mk B3 4 (by decide) (by unfold Bd; decide +kernel) ok3
      have ok4 := tkB_ok ok3 4
      generalize tkV B3 4 = tv at *
      generalize tkB B3 4 = B4 at *
      have hv2 : ∀ v ∈ vs ++ [nv], Vcan b p low high v ∧ v.isNum = true := fun v h => by
        rcases List.mem_append.mp h with h | h
        · exact hvc v h
        · rw [List.mem_singleton.mp h]; exact ⟨nc, nn⟩
      refine ow_if (x := decide (tv = 0)) (fun Γ' B5 acc => Bok B5 ∧ (∃ g5, Γ' = [.no, .bag, .da (.int (ti : Nat)), .da (fmP b p low high), .no, g5, g6, g7, g8, g9]) ∧ ∃ us : List Va, acc = us.map Va.d ∧ us.length ≤ 2 * (k + 1) ∧ ∀ v ∈ us, Vcan b p low high v ∧ v.isNum = true) (tj_eqI G.hu (ej_call c_l_take (G.le (by decide)) (aj_cons (ej_bag 1) (aj_cons ej_int aj_nil)) (rt)) ej_int) (fun _ => ?_) (fun _ => ow_nil ⟨ok4, ⟨_, rfl⟩, vs ++ [nv], by rw [List.map_append]; rfl, by rw [List.length_append, List.length_singleton]; omega, hv2⟩) (fun Γ' B5 acc hM => ow_nil hM)
      have hl1 : 0 < (vs ++ [nv]).length := by rw [List.length_append, List.length_singleton]; omega
      have rs := R_some.mk B4 ((vs ++ [nv]).map Va.d) (by rw [List.length_map]; exact hl1) (by rw [List.length_map, List.length_append, List.length_singleton]; omega) ok4
      obtain ⟨u, hu, eu⟩ := pick_ex (vs ++ [nv]) Va.d B4 hl1
      rw [eu] at rs
      have ok5 := tkB_ok ok4 ((vs ++ [nv]).map Va.d).length
      generalize tkB B4 ((vs ++ [nv]).map Va.d).length = B5 at *
      have e2 : vs.map Va.d ++ [nv.d] = (vs ++ [nv]).map Va.d := by rw [List.map_append]; rfl
      rw [e2]
      refine ow_appO G.nd (oe_fz (y := u.opp.d) (ej_call c_l_turned_sign (G.le (by decide)) (aj_cons (ej_call c_l_some (G.le (by decide)) (aj_cons (ej_bag 1) (aj_cons (ej_dat (d := .list ((vs ++ [nv]).map Va.d)) 4) aj_nil)) (rs)) aj_nil) (R_tsign.mk u B5)) (lfree_va _)) (by rw [List.length_map, List.length_append, List.length_singleton]; omega) (ow_nil ⟨ok5, ⟨_, rfl⟩, vs ++ [nv] ++ [u.opp], by simp, by simp only [List.length_append, List.length_singleton]; omega, fun v h => ?_⟩)
      rcases List.mem_append.mp h with h | h
      · exact hv2 v h
      · rw [List.mem_singleton.mp h]; exact ⟨(hv2 u hu).1.opp, opp_num (hv2 u hu).2⟩
    obtain ⟨ok3, ⟨g5, rfl⟩, vs, rfl, hvl, hvc⟩ := hP
    have hvl : vs.length ≤ 10 := by omega
    have hvo : ∀ v ∈ vs, Vok b p low high v := fun v h => (hvc v h).1.ok
    have hvn : ∀ v ∈ vs, v.isNum = true := fun v h => (hvc v h).2
    have pss : PsS b p low 60 (sumQ b vs) := sum_pss (t := (b, p, low, high)) ht hvc (by omega)
    have psk : ∀ k, PsS b p low 60 (sumQ b (vs.take k)) := fun k => sum_pss (t := (b, p, low, high)) ht (fun v h => hvc v (List.mem_of_mem_take h)) (by rw [List.length_take]; omega)
    have onu : Okd (.list (vs.map Va.d)) := vas_okd F (by omega) hvo true
    have hvs : VsOk b p low high vs := ⟨by omega, hvo⟩
    have pnd := psD_nd F pss
    have okK := psK_ok F 60 (sumQ b vs) pss
    have two : Okd (.list [psD (psK b p low high 60 (sumQ b vs)), psD (psK b p low high 60 (sumQ b vs))]) := ((Nd.list (NdA.cons pnd (NdA.cons pnd (NdA.nil (W := 0))))).le (D' := 6) (W' := 5000) (by decide) (by decide)).okd
    refine ow_end ?_
    refine sj_par 6 7 G.nd G.calm (d1 := .da (psD (psK b p low high 60 (sumQ b vs)))) (d2 := .da (.str (PyData.list (vs.map Va.d)).shown)) (aj_cons (ej_call c_l_parted_sum (G.le (by decide)) (aj_cons (ej_dat (d := fmP b p low high) 3) (aj_cons (ej_call c_l_total (G.le (by decide)) (aj_cons (ej_dat (d := fmP b p low high) 3) (aj_cons (ej_dat (d := PyData.list (vs.map Va.d)) 4) aj_nil)) (R_total.mk b p low high vs B' F hvo (by omega) hvn psk)) aj_nil)) (R_lpsum.mk b p low high _ B' F pss)) (aj_cons (ej_repr G m_repr (ej_dat (d := PyData.list (vs.map Va.d)) 4) rfl onu.shows) aj_nil)) ?_ (by decide) (by rfl)
    refine sj_setX 8 G.nd (ex_mono (Φ := fun y B2 => Bok B2 ∧ y = .list [psD (psK b p low high 60 (sumQ b vs)), psD (psK b p low high 60 (sumQ b vs))]) (ex_lst (ax_cons (ex_ej (ej_call c_parted_sum_of (G.le (by decide)) (aj_cons (ej_dat (d := fmP b p low high) 3) (aj_cons (ej_is (y := lisD true (vs.map Va.d)) (ej_dat (d := PyData.list (vs.map Va.d)) 4) rfl) aj_nil)) (R_psumof.mk b p low high vs true B' F hvs hvn pss)) (ax_one (ex_callD c_parted_sum_of (G.le (by decide)) (ax_cons (ex_ej (ej_dat (d := fmP b p low high) 3) (ax_one (ex_tupleL m_tuple (ex_call c_l_mixed (G.le (by decide)) (ax_bag 1 (ax_aj (aj_cons (ej_is (y := lisD true (vs.map Va.d)) (ej_dat (d := PyData.list (vs.map Va.d)) 4) rfl) aj_nil) ⟨⟨true, vs.map Va.d, rfl, by rw [List.length_map]; omega, ok3⟩, fun r B2 hp => ?_⟩)))))))))))) fun y B2 hy => ?_)
    · obtain ⟨ds, rfl, hpm⟩ := hp.2 true (vs.map Va.d) rfl
      obtain ⟨us, rfl, hpu⟩ := perm_map hpm
      refine ⟨us.map Va.d, rfl, psD (psK b p low high 60 (sumQ b vs)), B2, ?_, [_, _], rfl, Nat.le_of_ble_eq_true rfl, hp.1, rfl⟩
      have hu : ∀ v ∈ us, Vcan b p low high v ∧ v.isNum = true := fun v h => hvc v (hpu.mem_iff.mp h)
      have r := R_psumof.mk b p low high us false B2 F ⟨by have := hpu.length_eq; omega, fun v h => (hu v h).1.ok⟩ (fun v h => (hu v h).2) (by rw [sumQ_perm b hpu]; exact pss)
      rw [sumQ_perm b hpu] at r
      exact r
    obtain ⟨ok4, rfl⟩ := hy
    refine sj_when (x := false) (tj_w (wj_or (x := false) (y := false) (tj_is (tj_not (tj_val (ej_call c_l_alike (G.le (by decide)) (aj_cons (ej_dat (d := .list [psD (psK b p low high 60 (sumQ b vs)), psD (psK b p low high 60 (sumQ b vs))]) 8) (aj_cons (ej_lstD (ad_cons (ej_dat (d := psD (psK b p low high 60 (sumQ b vs))) 6) (ad_cons (ej_dat (d := psD (psK b p low high 60 (sumQ b vs))) 6) ad_nil)) (Nat.le_of_ble_eq_true rfl)) aj_nil)) (R_alikeA.mk (.list [psD (psK b p low high 60 (sumQ b vs)), psD (psK b p low high 60 (sumQ b vs))]) B2 two (.inl rfl))))) rfl) fun _ => wj_or1 (tj_is (tj_neS (ej_repr G m_repr (ej_dat (d := PyData.list (vs.map Va.d)) 4) rfl onu.shows) (ej_dat (d := .str (PyData.list (vs.map Va.d)).shown) 7)) (by rw [decide_eq_true rfl]; rfl)))) (fun h => Bool.noConfusion h) (fun _ => ?_)
    have rps := fun (d : PyData) (B : Bag) (hd : OkA d) (hl : LenOk d) => R_isps.mk b p low high vs d B F hvs hvn pss hd hl
    cases ho : psK b p low high 60 (sumQ b vs) with
    | none =>
      rw [ho] at rps
      refine sj_when (x := true) (tj_is (tj_isN (ej_dat (d := .none) 6)) rfl) (fun _ => ?_) (fun h => Bool.noConfusion h)
      have hds : ∀ d ∈ ([.none, .tuple [], .tuple (vs.map Va.d)] : List PyData), OkA d ∧ LenOk d := by
        intro d hd
        simp only [List.mem_cons, List.not_mem_nil, or_false] at hd
        rcases hd with rfl | rfl | rfl
        · exact ⟨⟨by simp only [datB], by simp only [PyData.depth]; omega, by simp only [PyData.bulk]; omega⟩, trivial⟩
        · exact ⟨(nsq_vas (L := []) (M := []) (fun _ h => nomatch h) (by decide)).a, Nat.zero_le _⟩
        · have q := nsq_vas (L := []) (M := vs) (fun v h => can_bn F (hvc v h).1) (by omega)
          exact ⟨q.a, q.l⟩
      refine sj_when (x := false) (tj_is (tj_not (tj_val (ej_call c_l_alike (G.le (by decide)) (aj_cons (ej_is (ej_lcT (x := "_law_thing") (j := 9) G.nd G.calm (blkOk_by (N := ["_law_script", "_law_bag_here", "_law_turn", "_law_form", "_law_numbers", "_law_again", "_law_due", "_law_shown", "_law_told", "_law_thing"]) (sc := defScope s_law) (by decide +kernel)) (fun _ _ _ _ _ => pg_name (i := 9) G.nd rfl (Or.inl rfl)) (rj_lcT (ds := [.none, .tuple [], .tuple (vs.map Va.d)]) (ys := [.bool false, .bool false, .bool false]) (fun _ => B2) (ej_tupD (ad_cons ej_non (ad_cons (ej_tupD ad_nil (Nat.le_of_ble_eq_true rfl)) (ad_cons (ej_tupleL m_tuple (ej_dat (d := PyData.list (vs.map Va.d)) 4)) ad_nil))) (Nat.le_of_ble_eq_true rfl)) rfl (Nat.le_of_ble_eq_true rfl) (fun i y z hi hz s0 H0 C0 cl fp => ?_))) rfl) (aj_cons (ej_is (ej_repLn (k := 3) (ej_lstD (ad_cons ej_bl ad_nil) (Nat.le_of_ble_eq_true rfl)) ej_int (by decide) (by decide)) rfl) aj_nil)) (R_alikeA.mk (.list [.bool false, .bool false, .bool false]) B2 (((Nd.list (NdA.cons Nd.bool (NdA.cons Nd.bool (NdA.cons Nd.bool (NdA.nil (W := 0)))))).le (D' := 6) (W' := 100) (by decide) (by decide)).okd) (.inl rfl))))) rfl) (fun h => Bool.noConfusion h) (fun _ => sj_cont ⟨⟨_, _, _, _, _, _, _, _, rfl⟩, ok4⟩)
      have ez : z = .bool false := by
        match i, hz with
        | 0, hz => injection hz with hz; exact hz.symm
        | 1, hz => injection hz with hz; exact hz.symm
        | 2, hz => injection hz with hz; exact hz.symm
      subst ez
      obtain ⟨oy, ly⟩ := hds y (List.mem_of_getElem? hi)
      exact (ej_call c_is_parted_sum ⟨G.gd, G.rm.mono (by decide), G.nd, G.calm⟩ (aj_cons (ej_dat (d := fmP b p low high) 3) (aj_cons (ej_dat (d := PyData.list (vs.map Va.d)) 4) (aj_cons (ej_dat (d := y) 9) aj_nil))) (rps y B2 oy ly))
    | some L =>
      rw [ho] at rps pnd
      obtain ⟨hsL, hlL, hcL⟩ := okK L ho
      have qL := nsq_vas (L := L) (M := L) (fun v h => can_bn F (hcL v h).1) (by omega)
      have rp2 := R_psumof.mk b p low high L false B2 F ⟨by omega, fun v h => (hcL v h).1.ok⟩ (fun v h => (hcL v h).2) (by rw [hsL]; exact pss)
      rw [hsL, ho] at rp2
      have rd := rps (.tuple (L.map Va.d)) B2 qL.a qL.l
      rw [isTo_vas, decide_eq_true rfl] at rd
      have nb : Okd (.list [.bool true, .tuple (L.map Va.d)]) := ((Nd.list (NdA.cons (Nd.bool.le (D' := 3) (W' := 10) (by decide) (by decide)) (NdA.cons pnd (NdA.nil (W := 0))))).le (D' := 6) (W' := 4000) (by decide) (by decide)).okd
      refine sj_when (x := false) (tj_is (tj_isN (ej_dat (d := .tuple (L.map Va.d)) 6)) rfl) (fun h => Bool.noConfusion h) (fun _ => ?_)
      refine sj_when (x := false) (tj_is (tj_not (tj_val (ej_call c_l_alike (G.le (by decide)) (aj_cons (ej_lstD (ad_cons (ej_call c_is_parted_sum (G.le (by decide)) (aj_cons (ej_dat (d := fmP b p low high) 3) (aj_cons (ej_dat (d := PyData.list (vs.map Va.d)) 4) (aj_cons (ej_dat (d := .tuple (L.map Va.d)) 6) aj_nil))) (rd)) (ad_cons (ej_call c_parted_sum_of (G.le (by decide)) (aj_cons (ej_dat (d := fmP b p low high) 3) (aj_cons (ej_is (y := lisD false (L.map Va.d)) (ej_dat (d := .tuple (L.map Va.d)) 6) rfl) aj_nil)) (rp2)) ad_nil)) (Nat.le_of_ble_eq_true rfl)) (aj_cons (ej_lstD (ad_cons ej_bl (ad_cons (ej_dat (d := .tuple (L.map Va.d)) 6) ad_nil)) (Nat.le_of_ble_eq_true rfl)) aj_nil)) (R_alikeA.mk (.list [.bool true, .tuple (L.map Va.d)]) B2 nb (.inl rfl))))) rfl) (fun h => Bool.noConfusion h) (fun _ => ?_)
      refine sj_forLX 9 G.nd G.calm (ex_mono (Φ := fun y B3 => Bok B3 ∧ ∃ ds : List PyData, y = .list ds ∧ ∀ d ∈ ds, NsT L d ∧ OkA d ∧ LenOk d) (ex_call c_l_near_sums (G.le (by decide)) (ax_bag 1 (ax_aj (aj_cons (ej_dat (d := fmP b p low high) 3) (aj_cons (ej_dat (d := .tuple (L.map Va.d)) 6) aj_nil)) ⟨⟨b, p, low, high, L, rfl, F, ok4, hlL, hcL⟩, fun r B3 hp => ?_⟩))) fun y B3 hy => ?_)
      · obtain ⟨ds, rfl, _, h⟩ := hp.2 _ _ L rfl
        exact ⟨hp.1, ds, rfl, h⟩
      obtain ⟨ok5, ds, rfl, hds⟩ := hy
      refine ⟨ds, rfl, fun i Γ' B' => (∃ g5 g7 g8 g9, Γ' = [.no, .bag, .da (.int (ti : Nat)), .da (fmP b p low high), .da (.list (vs.map Va.d)), g5, .da (.tuple (L.map Va.d)), g7, g8, g9]) ∧ B' = B3, ⟨⟨_, _, _, _, rfl⟩, rfl⟩, fun i y Γ' B' hy hI => ?_, fun Γ' B' hI => ?_⟩
      · obtain ⟨⟨g5, g7, g8, g9, rfl⟩, rfl⟩ := hI
        obtain ⟨ny, oy, ly⟩ := hds y (List.mem_of_getElem? hy)
        have ob : Okd (.bool (isTo (some L) y)) := (Nd.bool.le (D' := 3) (W' := 10) (by decide) (by decide)).okd
        refine sj_set 7 G.nd (d := .da (.str y.shown)) (ej_reprA G sk m_repr (ej_dat (d := y) 9) oy) ?_
        exact sj_when (x := false) (tj_w (wj_or (x := false) (y := false) (tj_is (tj_not (tj_val (ej_call c_l_alike (G.le (by decide)) (aj_cons (ej_call c_is_parted_sum (G.le (by decide)) (aj_cons (ej_dat (d := fmP b p low high) 3) (aj_cons (ej_dat (d := PyData.list (vs.map Va.d)) 4) (aj_cons (ej_dat (d := y) 9) aj_nil))) (rps y B' oy ly)) (aj_cons (ej_call c_l_alike_x (G.le (by decide)) (aj_cons (ej_dat (d := y) 9) (aj_cons (ej_dat (d := .tuple (L.map Va.d)) 6) aj_nil)) (R_ns.mk L y B' ny oy qL.a)) aj_nil)) (R_alikeA.mk (.bool (isTo (some L) y)) B' ob (.inr (.inr (.inl ⟨_, rfl⟩))))))) rfl) fun _ => wj_or1 (tj_is (tj_neS (ej_reprA G sk m_repr (ej_dat (d := y) 9) oy) (ej_dat (d := .str y.shown) 7)) (by rw [decide_eq_true rfl]; rfl)))) (fun h => Bool.noConfusion h) (fun _ => sj_nil ⟨⟨_, _, _, _, rfl⟩, rfl⟩)
      · obtain ⟨⟨g5, g7, g8, g9, rfl⟩, rfl⟩ := hI
        exact sj_nil ⟨⟨_, _, _, _, _, _, _, _, rfl⟩, ok5⟩
  · obtain ⟨⟨g2, g3, g4, g5, g6, g7, g8, g9, rfl⟩, ok⟩ := hP
    exact sj_ret ej_bl rfl

end K51
namespace Gd
open PySem PySem.Spec PyProof.Rows L2
theorem bltB_ok {K : PySem.W.Frag} {h : Heap} {mg : Str → Option Value} {x : Str} {b : String} (X : K.In h) (G : h.Ns mainGlobals mg) (c : bltB K x b = true) : mg x = some (.builtin b) :=
  PySem.W.mg_of X G (He.eqO_ok c)
theorem ckM_blt {gl : List (Str × PyData)} {bl : List (Str × String)} {K : PySem.W.Frag} {h : Heap} {mg : Str → Option Value} {x : Str} {b : String} (X : K.In h) (G : h.Ns mainGlobals mg) (c : ckM gl bl K = true) (i : Nat) (e : bl[i]? = some (x, b)) : mg x = some (.builtin b) := by
  have c' : (gl.all (fun p => globB K p.1 p.2) && bl.all (fun p => bltB K p.1 p.2)) = true := c
  rw [Bool.and_eq_true] at c'
  exact bltB_ok X G (List.all_eq_true.1 c'.2 _ (List.mem_of_getElem? e))
theorem obM_eq {fa : List He.Fa} {fn : List He.DefD} {ck : PySem.W.Frag → Bool} (s : PySem.W.SharedT) : obM fa fn ck s = (hkM fa fn ck).obs s.abs := by
  have e : HandSHeadRun.getT s = s.abs.heap.get? := funext (HandSHeadRun.getT_eq s)
  unfold obM hkM
  rw [e]
theorem defD_at {K : PySem.W.Frag} {h : Heap} {mg : Str → Option Value} {fa : List He.Fa} {fn : List He.DefD} (X : K.In h) (G : h.Ns mainGlobals mg) (c : He.SaysD fa fn K) {y x : Str} {st : Stmt} (i : Nat) (e : fn[i]? = some (dfD y x st)) (ef : fa[i]? = some (.glo y)) :
    ∃ (f : Addr) (oc : Value) (od an : Option Addr) (osl : Array (Option Value)) (kV doc pm cdv ct : Value), PySem.W.nsIn K mainGlobals y = some (some (.ref f)) ∧
      K.lookup f = some ⟨oc, od, .func (PySem.W.fnOf x x (defArgs st) (defBody st) (defScope st) .none kV doc pm an cdv ct), osl⟩ ∧ PySem.W.codeIn K cdv x = true ∧ PySem.W.keepIn K (.ref f) = true := by
  have g := He.eqO_ok (c.fact i (f := .glo y) ef)
  obtain ⟨fd, ⟨oc, od, dV, kV, doc, pm, an, cdv, ct, osl, e1, e2, e3, e4, e5⟩, kp⟩ := c.def_ i (d := dfD y x st) e
  have d0 : dV = .none := by
    rcases e4 with ⟨_, z⟩ | ⟨z, _⟩
    · exact z
    · exact absurd rfl z
  subst d0 e1
  exact ⟨_, oc, od, an, osl, kV, doc, pm, cdv, ct, g, e2, e3, kp⟩
theorem at_mkH {K : PySem.W.Frag} {h : Heap} {mg : Str → Option Value} {fa : List He.Fa} {fn : List He.DefD} {x : Str} {st : Stmt} (ps : List Str) (X : K.In h) (G : h.Ns mainGlobals mg) (c : He.SaysD fa fn K) (i : Nat) (e : fn[i]? = some (dfD x x st)) (ef : fa[i]? = some (.glo x))
    (b : ∀ (kV doc pm : Value) (an : Option Addr) (cdv ct : Value) (us : List Value), us.length = ps.length → bindArgs (PySem.W.fnOf x x (defArgs st) (defBody st) (defScope st) .none kV doc pm an cdv ct) ⟨us, []⟩ = pure (ps.zip us)) :
    At K mg x st ps :=
  let ⟨_, _, _, _, _, _, _, _, _, _, a, l, d, k⟩ := defD_at X G c i e ef
  at_mk ps X G a l d k b
theorem law_mkH {P : Program} {w : World} {K : PySem.W.Frag} {h : Heap} {mg : Str → Option Value} {fas : List He.Fa} {fn : List He.DefD} {st : Stmt} {fa : Addr} {n : Nat}
    (X : K.In h) (G : h.Ns mainGlobals mg) (hfa : mg "law" = some (.ref fa)) (c : He.SaysD fas fn K) (i : Nat) (e : fn[i]? = some (dfD "law" "law" st)) (ef : fas[i]? = some (.glo "law"))
    (b : ∀ (kV doc pm : Value) (an : Option Addr) (cdv ct : Value) (s : Shared) (v : Value), BindsTo s (PySem.W.fnOf "law" "law" (defArgs st) (defBody st) (defScope st) .none kV doc pm an cdv ct) ⟨[v], []⟩ [("_law_script", v)])
    (H : ∀ (base : Heap) (f : Addr) (fd : FuncData), Fun K "law" "law" st f fd → FnG P w K mg base n f fd ["_law_script"] (spLaw K)) :
    ∃ fd : FuncData, (∀ (s : Shared) (v : Value), BindsTo s fd ⟨[v], []⟩ [("_law_script", v)]) ∧ ∀ base : Heap, K.In base → base.Ns mainGlobals mg → FnG P w K mg base n fa fd ["_law_script"] (spLaw K) :=
  let ⟨_, _, _, _, _, _, _, _, _, _, a, l, d, k⟩ := defD_at X G c i e ef
  law_mk X G hfa a l d k (fun s v => b _ _ _ _ _ _ s v) H
theorem walk_ofGH {l : PySem.W.OpenLaw} {k : Nat} {q : Program} {loose : List Str} {XP : (Str → Option Value) → Heap → Prop} {d : DefRec} {fas : List He.Fa} {fn : List He.DefD} {ck : PySem.W.Frag → Bool} {x : Str}
    (hn : l.most = some 63) (hdf : d.params.defaults = []) (hr : Room k callerA)
    (F : ∀ (w : World) (K : PySem.W.Frag) (mg : Str → Option Value) (fa : Addr) (h : Heap), K.In h → h.Ns mainGlobals mg → mg d.name = some (.ref fa) → He.SaysD fas fn K → ck K = true →
      ∃ fd : FuncData, (∀ (s : Shared) (u : Value), BindsTo s fd ⟨[u], []⟩ [(x, u)]) ∧ ∀ base : Heap, K.In base → base.Ns mainGlobals mg → FnG l.prog w K mg base k fa fd [x] (spLaw K)) :
    PySem.W.WalkO q loose XP (hkM fas fn ck).says l.row.toRowW d [] fun f vs => PySem.call f vs := by
  refine Att.attach_call hn hdf fun w sw sx mg mb fa o pm cd doc a vs ns G Y ho hd hcd hmg hobj hints hlen hg => ?_
  obtain ⟨K, KI, c1, c2⟩ := Y
  have ⟨fd, hb, hF⟩ := F w K mg fa _ KI G.T.g hmg c1 c2
  exact law_callG KI G.T.g G.T.b G.T.builtins G.T.nolimit hg hobj hints (Nat.le_trans hlen (by decide)) hr hF hb fun H hS => ⟨a, ns, rfl, hS, hlen, fun _ => rfl⟩
end Gd
namespace Gd
open PySem PySem.Spec PyProof.Rows
theorem endG_ok {M : Nat} {p : Program} {w : World} {s0 : Shared} {s : PySem.W.SharedT} (h : endG (PySem.W.stepT (denote treeTable) p w) M p s0 = some s) :
    PySem.W.topRun treeTable p w s0.heap.objs.size (s0.heap.nsMap mainGlobals (Str.ofString "__annotations__")) M s0 (PySem.W.topStub p) = some s.abs := by
  unfold endG at h
  split at h
  · rename_i t n e
    rw [HandSHeadRun.frNat_eq] at h
    have q := HandSHeadRun.goF_ok h
    have eh := HandSHeadRun.putAll_heap e
    have en : s0.heap.objs.size = n := by rw [← eh]; exact PySem.W.absHeap_size _ _ _
    rw [en]
    have eb : (PySem.W.SharedT.mk t n s0.heap.life s0.gens s0.drawn s0.toks s0.os).abs = s0 := by
      unfold PySem.W.SharedT.abs
      rw [eh]
    rw [eb] at q
    exact q
  · cases h
theorem endG_eq (M : Nat) (p : Program) (w : World) (s0 : Shared) : endG (PySem.W.stepT (denote treeTable) p w) M p s0 = endG (HandSHeadRun.stepQ (HandSHeadRun.denQ HandSHeadRun.tabQ) p w) M p s0 := by
  rw [HandSHeadRun.stepQ_eq, HandSHeadRun.denQ_eq, HandSHeadRun.tabQ_eq]
theorem goI_ok {tb : String → Option Builtin} {p : Program} {w : World} : ∀ (m : Nat) (s s' : PySem.W.SharedT) (t : Thread), goI (PySem.W.stepT (denote tb) p w) m s t = some s' → importEnds tb p w m s.abs t = some s'.abs
  | 0, _, _, _, h => by cases h
  | m + 1, s, s', t, h => by
    unfold goI at h
    unfold importEnds
    split at h
    · rename_i e
      rw [e]
      cases h
      rfl
    · cases h
    · rename_i e
      rw [e]
      split at h
      · rename_i s2 t2 e2
        rw [HandSHeadRun.frS_eq] at h
        have q := PySem.W.stepT_spec e2
        show (match step (denote tb) p w s.abs t with | .go s' t' => importEnds tb p w m s' t' | .halt _ _ => none) = _
        rw [q]
        exact goI_ok m _ _ _ h
      · cases h
theorem openI_ok {N : Nat} {p : Program} {w : World} {s0 : Shared} (h : openI (PySem.W.stepT (denote treeTable) (PySem.W.opening p) w) N p = some s0) : PySem.W.fencedOpening treeTable p w N = some s0 := by
  obtain ⟨s, a, b⟩ := Option.bind_eq_some_iff.mp h
  have q := goI_ok _ _ _ _ a
  unfold PySem.W.fencedOpening
  have e : (PySem.W.SharedT.mk PySem.W.BT.nil 0 {} #[] {} 1 (start (PySem.W.opening p)).1.os).abs = (start (PySem.W.opening p)).1 := by
    unfold PySem.W.SharedT.abs PySem.start
    simp only [HandSHeadRun.abs_nil]
  rw [e] at q
  rw [q]
  exact b
theorem left_two {r : PySem.W.OpenRow} {q : Program} {H : PySem.W.Hook} {ob : PySem.W.SharedT → H.α} {N M : Nat} {loose : List Str} (ho : ∀ s, ob s = H.obs s.abs) (le : M ≤ N) (runA : ∀ w, RunA r q N M loose w) (runB : ∀ w, RunB r H ob N M w) :
    PySem.W.LeftO r.prog q loose (fun s => PySem.W.xlAt q [] s && PySem.W.recOk r.records s) (fun s => H.obs s) H.val N := fun w => by
  obtain ⟨⟨s0, s⟩, hr, hv⟩ := Option.map_eq_some_iff.mp (runA w)
  have l3 : ob s = H.val w := by
    have z := runB w
    unfold RunB at z
    rw [hr] at z
    injection z
  obtain ⟨l1, l2⟩ : ((s0.heap.isNs mainGlobals && s0.gens.size == 0) && HandSHeadRun.looksF r.prog s0.heap s.abs) = true ∧ HandSHeadRun.seenQ q loose (importedModules r.prog.main.body) (fun s => PySem.W.xlAt q [] s && PySem.W.recOk r.records s) s.abs = PySem.W.openGood q loose := by
    injection hv with h1 h2
    exact ⟨h1, h2⟩
  unfold runI at hr
  obtain ⟨s0', a, b⟩ := Option.bind_eq_some_iff.mp hr
  obtain ⟨s', hs, hz⟩ := Option.map_eq_some_iff.mp b
  cases hz
  rw [← endG_eq] at hs
  have a' : openI (PySem.W.stepT (denote treeTable) (PySem.W.opening r.prog) w) N r.prog = some s0 := by
    rw [HandSHeadRun.stepQ_eq, HandSHeadRun.denQ_eq, HandSHeadRun.tabQ_eq]
    exact a
  have a := openI_ok a'
  have t0 := endG_ok hs
  have t1 := PySem.W.topRun_mono (N - M) M _ _ _ t0
  rw [show M + (N - M) = N by omega] at t1
  rw [Bool.and_eq_true] at l1
  have l1' : (PySem.W.staticsOk (importedModules r.prog.main.body) s0.heap s.abs.heap && PySem.W.namesBound r.prog s.abs.heap && PySem.W.gensDone s.abs && PySem.W.laidKept s0.heap s.abs.heap) = true := l1.2
  have tt : PySem.W.topFrom treeTable r.prog w N s0 = some s.abs := by
    unfold PySem.W.topFrom
    rw [l1.1]
    show (PySem.W.topRun _ _ _ _ _ _ _ _).bind _ = _
    rw [t1]
    show (match _ with | true => _ | false => _) = _
    rw [l1']
  show Option.map _ (PySem.W.openEnds treeTable r.prog w N) = _
  unfold PySem.W.openEnds
  rw [a]
  show Option.map _ (PySem.W.topFrom treeTable r.prog w N s0) = _
  rw [tt]
  show some (PySem.W.openSeen q loose _ _ true s.abs, H.obs s.abs) = _
  rw [HandSHeadRun.seenQ_eq, l2, ← ho s, l3]
theorem head_two {r : PySem.W.OpenRow} {q : Program} {H : PySem.W.Hook} {ob : PySem.W.SharedT → H.α} {N M : Nat} {loose : List Str} {d : DefRec} {kwd : List (Str × Expr)} (ho : ∀ s, ob s = H.obs s.abs) (le : M ≤ N) (runA : ∀ w, RunA r q N M loose w) (runB : ∀ w, RunB r H ob N M w)
    (hdef : PySem.W.defOf q r.name = some (d, kwd)) (hp : r.prog.theDef r.name = some (d.params, d.body, d.scope)) (hk : PySem.W.kwWritten? d.params.kwonlyargs d.params.kw_defaults = some kwd)
    (hwr : (!r.writes || List.isEmpty r.records) = true) (k1 : r.wellSaid = true) (ok : (PySem.W.chainsOk q && PySem.W.opensWell r.prog && (PySem.W.frees r.toRowW && r.within.isEmpty)) = true) (hb : r.prog.bare) (hw : r.promised)
    (call : PySem.W.WalkO q loose (PySem.W.XL q []) H.says r.toRowW d kwd fun f vs => PySem.call f vs) : r.Holds :=
  PySem.W.holds_open (left_two ho le runA runB) H.of H.keeps (fun s z => PySem.W.xl_of s (Bool.and_eq_true_iff.mp z).left) PySem.W.XL.keeps hdef hp hk
    (fun s z => PySem.W.recFacts_of (Bool.and_eq_true_iff.mp z).right) hwr k1 ok hb hw call
end Gd
namespace Gd
open PySem PySem.Spec PyProof.Rows L2
theorem ckS_ok {K : PySem.W.Frag} (h : ckS K = true) : KSys K := Option.isSome_iff_exists.mp h
end Gd
namespace K51
open PySem PySem.Spec PyProof.Rows L2 Gd Lw K51H
theorem all_mk {w : World} {K : PySem.W.Frag} {h : Heap} {mg : Str → Option Value} {fa : Addr} (X : K.In h) (G : h.Ns mainGlobals mg) (hfa : mg "law" = some (.ref fa)) (c : He.SaysD fas fn K) (kk : ck K = true) :
    ∃ fd : FuncData, (∀ (s : Shared) (v : Value), BindsTo s fd ⟨[v], []⟩ [("_law_script", v)]) ∧ ∀ base : Heap, K.In base → base.Ns mainGlobals mg → FnG PySem.Challenge.pw_nearestheld_k51_what_many_lack w K mg base 12 fa fd ["_law_script"] (spLaw K) := by
  have T_integer_power : At K mg "integer_power" s_integer_power ["base", "e"] := at_mkH ["base", "e"] X G c 0 rfl rfl (fun _ _ _ _ _ _ us hl => match us, hl with | [_, _], _ => rfl)
  have T_is_integer : At K mg "is_integer" s_is_integer ["thing"] := at_mkH ["thing"] X G c 1 rfl rfl (fun _ _ _ _ _ _ us hl => match us, hl with | [_], _ => rfl)
  have T_is_number : At K mg "is_number" s_is_number ["form", "thing"] := at_mkH ["form", "thing"] X G c 2 rfl rfl (fun _ _ _ _ _ _ us hl => match us, hl with | [_, _], _ => rfl)
  have T_is_worded : At K mg "is_worded" s_is_worded ["thing", "word", "many"] := at_mkH ["thing", "word", "many"] X G c 3 rfl rfl (fun _ _ _ _ _ _ us hl => match us, hl with | [_, _, _], _ => rfl)
  have T_reduced : At K mg "reduced" s_reduced ["n", "d"] := at_mkH ["n", "d"] X G c 4 rfl rfl (fun _ _ _ _ _ _ us hl => match us, hl with | [_, _], _ => rfl)
  have T_added : At K mg "added" s_added ["one", "other"] := at_mkH ["one", "other"] X G c 5 rfl rfl (fun _ _ _ _ _ _ us hl => match us, hl with | [_, _], _ => rfl)
  have T_lessened : At K mg "lessened" s_lessened ["one", "other"] := at_mkH ["one", "other"] X G c 6 rfl rfl (fun _ _ _ _ _ _ us hl => match us, hl with | [_, _], _ => rfl)
  have T_times : At K mg "times" s_times ["one", "other"] := at_mkH ["one", "other"] X G c 7 rfl rfl (fun _ _ _ _ _ _ us hl => match us, hl with | [_, _], _ => rfl)
  have T_size_of : At K mg "size_of" s_size_of ["one"] := at_mkH ["one"] X G c 8 rfl rfl (fun _ _ _ _ _ _ us hl => match us, hl with | [_], _ => rfl)
  have T_power_of : At K mg "power_of" s_power_of ["base", "e"] := at_mkH ["base", "e"] X G c 9 rfl rfl (fun _ _ _ _ _ _ us hl => match us, hl with | [_, _], _ => rfl)
  have T_sign_of_fraction : At K mg "sign_of_fraction" s_sign_of_fraction ["one"] := at_mkH ["one"] X G c 10 rfl rfl (fun _ _ _ _ _ _ us hl => match us, hl with | [_], _ => rfl)
  have T_part_of : At K mg "part_of" s_part_of ["left", "whole"] := at_mkH ["left", "whole"] X G c 11 rfl rfl (fun _ _ _ _ _ _ us hl => match us, hl with | [_, _], _ => rfl)
  have T_is_taken_outward : At K mg "is_taken_outward" s_is_taken_outward ["way", "s", "c", "part"] := at_mkH ["way", "s", "c", "part"] X G c 12 rfl rfl (fun _ _ _ _ _ _ us hl => match us, hl with | [_, _, _, _], _ => rfl)
  have T_power_below : At K mg "power_below" s_power_below ["base", "one"] := at_mkH ["base", "one"] X G c 13 rfl rfl (fun _ _ _ _ _ _ us hl => match us, hl with | [_, _], _ => rfl)
  have T_u_power_within : At K mg "_power_within" s_u_power_within ["base", "whole"] := at_mkH ["base", "whole"] X G c 14 rfl rfl (fun _ _ _ _ _ _ us hl => match us, hl with | [_, _], _ => rfl)
  have T_u_twos_in : At K mg "_twos_in" s_u_twos_in ["n"] := at_mkH ["n"] X G c 15 rfl rfl (fun _ _ _ _ _ _ us hl => match us, hl with | [_], _ => rfl)
  have T_worth : At K mg "worth" s_worth ["form", "number"] := at_mkH ["form", "number"] X G c 16 rfl rfl (fun _ _ _ _ _ _ us hl => match us, hl with | [_, _], _ => rfl)
  have T_zero : At K mg "zero" s_zero ["form", "s"] := at_mkH ["form", "s"] X G c 17 rfl rfl (fun _ _ _ _ _ _ us hl => match us, hl with | [_, _], _ => rfl)
  have T_rounded : At K mg "rounded" s_rounded ["form", "way", "x", "s"] := at_mkH ["form", "way", "x", "s"] X G c 18 rfl rfl (fun _ _ _ _ _ _ us hl => match us, hl with | [_, _, _, _], _ => rfl)
  have T_u_spot : At K mg "_spot" s_u_spot ["form", "unsigned"] := at_mkH ["form", "unsigned"] X G c 19 rfl rfl (fun _ _ _ _ _ _ us hl => match us, hl with | [_, _], _ => rfl)
  have T_u_nearest : At K mg "_nearest" s_u_nearest ["form", "way", "s", "spot"] := at_mkH ["form", "way", "s", "spot"] X G c 20 rfl rfl (fun _ _ _ _ _ _ us hl => match us, hl with | [_, _, _, _], _ => rfl)
  have T_u_outcome : At K mg "_outcome" s_u_outcome ["form", "way", "s", "spot"] := at_mkH ["form", "way", "s", "spot"] X G c 21 rfl rfl (fun _ _ _ _ _ _ us hl => match us, hl with | [_, _, _, _], _ => rfl)
  have T_u_too_great : At K mg "_too_great" s_u_too_great ["form", "way", "s"] := at_mkH ["form", "way", "s"] X G c 22 rfl rfl (fun _ _ _ _ _ _ us hl => match us, hl with | [_, _, _], _ => rfl)
  have T_is_inf : At K mg "is_inf" s_is_inf ["value"] := at_mkH ["value"] X G c 23 rfl rfl (fun _ _ _ _ _ _ us hl => match us, hl with | [_], _ => rfl)
  have T_exact_sum : At K mg "exact_sum" s_exact_sum ["form", "numbers"] := at_mkH ["form", "numbers"] X G c 24 rfl rfl (fun _ _ _ _ _ _ us hl => match us, hl with | [_, _], _ => rfl)
  have T_u_counted_sum : At K mg "_counted_sum" s_u_counted_sum ["form", "counted"] := at_mkH ["form", "counted"] X G c 25 rfl rfl (fun _ _ _ _ _ _ us hl => match us, hl with | [_, _], _ => rfl)
  have T_u_units_of : At K mg "_units_of" s_u_units_of ["form", "number"] := at_mkH ["form", "number"] X G c 26 rfl rfl (fun _ _ _ _ _ _ us hl => match us, hl with | [_, _], _ => rfl)
  have T_parted_sum_of : At K mg "parted_sum_of" s_parted_sum_of ["form", "values"] := at_mkH ["form", "values"] X G c 27 rfl rfl (fun _ _ _ _ _ _ us hl => match us, hl with | [_, _], _ => rfl)
  have T_is_parted_sum : At K mg "is_parted_sum" s_is_parted_sum ["form", "values", "thing"] := at_mkH ["form", "values", "thing"] X G c 28 rfl rfl (fun _ _ _ _ _ _ us hl => match us, hl with | [_, _, _], _ => rfl)
  have T_l_bag : At K mg "_law_bag" s_l_bag ["_law_script"] := at_mkH ["_law_script"] X G c 29 rfl rfl (fun _ _ _ _ _ _ us hl => match us, hl with | [_], _ => rfl)
  have T_l_take : At K mg "_law_take" s_l_take ["_law_bag_here", "_law_many"] := at_mkH ["_law_bag_here", "_law_many"] X G c 30 rfl rfl (fun _ _ _ _ _ _ us hl => match us, hl with | [_, _], _ => rfl)
  have T_l_some : At K mg "_law_some" s_l_some ["_law_bag_here", "_law_things"] := at_mkH ["_law_bag_here", "_law_things"] X G c 31 rfl rfl (fun _ _ _ _ _ _ us hl => match us, hl with | [_, _], _ => rfl)
  have T_l_mixed : At K mg "_law_mixed" s_l_mixed ["_law_bag_here", "_law_things"] := at_mkH ["_law_bag_here", "_law_things"] X G c 32 rfl rfl (fun _ _ _ _ _ _ us hl => match us, hl with | [_, _], _ => rfl)
  have T_l_alike : At K mg "_law_alike" s_l_alike ["_law_found", "_law_due"] := at_mkH ["_law_found", "_law_due"] X G c 33 rfl rfl (fun _ _ _ _ _ _ us hl => match us, hl with | [_, _], _ => rfl)
  have T_l_common : At K mg "_law_common" s_l_common ["_law_one", "_law_other"] := at_mkH ["_law_one", "_law_other"] X G c 34 rfl rfl (fun _ _ _ _ _ _ us hl => match us, hl with | [_, _], _ => rfl)
  have T_l_to : At K mg "_law_to" s_l_to ["_law_base", "_law_n"] := at_mkH ["_law_base", "_law_n"] X G c 35 rfl rfl (fun _ _ _ _ _ _ us hl => match us, hl with | [_, _], _ => rfl)
  have T_l_over : At K mg "_law_over" s_l_over ["_law_n", "_law_d"] := at_mkH ["_law_n", "_law_d"] X G c 36 rfl rfl (fun _ _ _ _ _ _ us hl => match us, hl with | [_, _], _ => rfl)
  have T_l_added : At K mg "_law_added" s_l_added ["_law_x", "_law_y"] := at_mkH ["_law_x", "_law_y"] X G c 37 rfl rfl (fun _ _ _ _ _ _ us hl => match us, hl with | [_, _], _ => rfl)
  have T_l_lessened : At K mg "_law_lessened" s_l_lessened ["_law_x", "_law_y"] := at_mkH ["_law_x", "_law_y"] X G c 38 rfl rfl (fun _ _ _ _ _ _ us hl => match us, hl with | [_, _], _ => rfl)
  have T_l_multiplied : At K mg "_law_multiplied" s_l_multiplied ["_law_x", "_law_y"] := at_mkH ["_law_x", "_law_y"] X G c 39 rfl rfl (fun _ _ _ _ _ _ us hl => match us, hl with | [_, _], _ => rfl)
  have T_l_is_below : At K mg "_law_is_below" s_l_is_below ["_law_x", "_law_y"] := at_mkH ["_law_x", "_law_y"] X G c 40 rfl rfl (fun _ _ _ _ _ _ us hl => match us, hl with | [_, _], _ => rfl)
  have T_l_sized : At K mg "_law_sized" s_l_sized ["_law_x"] := at_mkH ["_law_x"] X G c 41 rfl rfl (fun _ _ _ _ _ _ us hl => match us, hl with | [_], _ => rfl)
  have T_l_power : At K mg "_law_power" s_l_power ["_law_base", "_law_e"] := at_mkH ["_law_base", "_law_e"] X G c 42 rfl rfl (fun _ _ _ _ _ _ us hl => match us, hl with | [_, _], _ => rfl)
  have T_l_worth : At K mg "_law_worth" s_l_worth ["_law_form", "_law_number_here"] := at_mkH ["_law_form", "_law_number_here"] X G c 43 rfl rfl (fun _ _ _ _ _ _ us hl => match us, hl with | [_, _], _ => rfl)
  have T_l_formats : At K mg "_law_formats" s_l_formats ["_law_bag_here"] := at_mkH ["_law_bag_here"] X G c 44 rfl rfl (fun _ _ _ _ _ _ us hl => match us, hl with | [_], _ => rfl)
  have T_l_edges : At K mg "_law_edges" s_l_edges ["_law_form"] := at_mkH ["_law_form"] X G c 45 rfl rfl (fun _ _ _ _ _ _ us hl => match us, hl with | [_], _ => rfl)
  have T_l_number : At K mg "_law_number" s_l_number ["_law_bag_here", "_law_form"] := at_mkH ["_law_bag_here", "_law_form"] X G c 46 rfl rfl (fun _ _ _ _ _ _ us hl => match us, hl with | [_, _], _ => rfl)
  have T_l_grid : At K mg "_law_grid" s_l_grid ["_law_form", "_law_x"] := at_mkH ["_law_form", "_law_x"] X G c 47 rfl rfl (fun _ _ _ _ _ _ us hl => match us, hl with | [_, _], _ => rfl)
  have T_l_neighbours : At K mg "_law_neighbours" s_l_neighbours ["_law_form", "_law_x"] := at_mkH ["_law_form", "_law_x"] X G c 48 rfl rfl (fun _ _ _ _ _ _ us hl => match us, hl with | [_, _], _ => rfl)
  have T_l_greatest : At K mg "_law_greatest" s_l_greatest ["_law_form"] := at_mkH ["_law_form"] X G c 49 rfl rfl (fun _ _ _ _ _ _ us hl => match us, hl with | [_], _ => rfl)
  have T_l_normal : At K mg "_law_normal" s_l_normal ["_law_form"] := at_mkH ["_law_form"] X G c 50 rfl rfl (fun _ _ _ _ _ _ us hl => match us, hl with | [_], _ => rfl)
  have T_l_nearer : At K mg "_law_nearer" s_l_nearer ["_law_way", "_law_x", "_law_lower", "_law_upper", "_law_c"] := at_mkH ["_law_way", "_law_x", "_law_lower", "_law_upper", "_law_c"] X G c 51 rfl rfl (fun _ _ _ _ _ _ us hl => match us, hl with | [_, _, _, _, _], _ => rfl)
  have T_l_form_of : At K mg "_law_form_of" s_l_form_of ["_law_form", "_law_s", "_law_worth_here"] := at_mkH ["_law_form", "_law_s", "_law_worth_here"] X G c 52 rfl rfl (fun _ _ _ _ _ _ us hl => match us, hl with | [_, _, _], _ => rfl)
  have T_l_rounded : At K mg "_law_rounded" s_l_rounded ["_law_form", "_law_way", "_law_x", "_law_s"] := at_mkH ["_law_form", "_law_way", "_law_x", "_law_s"] X G c 53 rfl rfl (fun _ _ _ _ _ _ us hl => match us, hl with | [_, _, _, _], _ => rfl)
  have T_l_zero_of : At K mg "_law_zero_of" s_l_zero_of ["_law_form", "_law_s"] := at_mkH ["_law_form", "_law_s"] X G c 54 rfl rfl (fun _ _ _ _ _ _ us hl => match us, hl with | [_, _], _ => rfl)
  have T_l_turned_sign : At K mg "_law_turned_sign" s_l_turned_sign ["_law_value"] := at_mkH ["_law_value"] X G c 55 rfl rfl (fun _ _ _ _ _ _ us hl => match us, hl with | [_], _ => rfl)
  have T_l_near_format : At K mg "_law_near_format" s_l_near_format ["_law_bag_here"] := at_mkH ["_law_bag_here"] X G c 56 rfl rfl (fun _ _ _ _ _ _ us hl => match us, hl with | [_], _ => rfl)
  have T_l_parted_sum : At K mg "_law_parted_sum" s_l_parted_sum ["_law_form", "_law_exact"] := at_mkH ["_law_form", "_law_exact"] X G c 57 rfl rfl (fun _ _ _ _ _ _ us hl => match us, hl with | [_, _], _ => rfl)
  have T_l_total : At K mg "_law_total" s_l_total ["_law_form", "_law_numbers"] := at_mkH ["_law_form", "_law_numbers"] X G c 58 rfl rfl (fun _ _ _ _ _ _ us hl => match us, hl with | [_, _], _ => rfl)
  have T_l_near_sums : At K mg "_law_near_sums" s_l_near_sums ["_law_bag_here", "_law_form", "_law_due"] := at_mkH ["_law_bag_here", "_law_form", "_law_due"] X G c 59 rfl rfl (fun _ _ _ _ _ _ us hl => match us, hl with | [_, _, _], _ => rfl)
  have m_abs : mg "abs" = none := He.free_ok X G (c.fact 61 (f := .free "abs") rfl)
  have m_all : mg "all" = none := He.free_ok X G (c.fact 62 (f := .free "all") rfl)
  have m_bool : mg "bool" = none := He.free_ok X G (c.fact 63 (f := .free "bool") rfl)
  have m_divmod : mg "divmod" = none := He.free_ok X G (c.fact 64 (f := .free "divmod") rfl)
  have m_int : mg "int" = none := He.free_ok X G (c.fact 65 (f := .free "int") rfl)
  have m_isinstance : mg "isinstance" = none := He.free_ok X G (c.fact 66 (f := .free "isinstance") rfl)
  have m_len : mg "len" = none := He.free_ok X G (c.fact 67 (f := .free "len") rfl)
  have m_list : mg "list" = none := He.free_ok X G (c.fact 68 (f := .free "list") rfl)
  have m_max : mg "max" = none := He.free_ok X G (c.fact 69 (f := .free "max") rfl)
  have m_min : mg "min" = none := He.free_ok X G (c.fact 70 (f := .free "min") rfl)
  have m_range : mg "range" = none := He.free_ok X G (c.fact 71 (f := .free "range") rfl)
  have m_repr : mg "repr" = none := He.free_ok X G (c.fact 72 (f := .free "repr") rfl)
  have m_rev : mg "reversed" = none := He.free_ok X G (c.fact 73 (f := .free "reversed") rfl)
  have m_set : mg "set" = none := He.free_ok X G (c.fact 74 (f := .free "set") rfl)
  have m_sorted : mg "sorted" = none := He.free_ok X G (c.fact 75 (f := .free "sorted") rfl)
  have m_str : mg "str" = none := He.free_ok X G (c.fact 76 (f := .free "str") rfl)
  have m_sum : mg "sum" = none := He.free_ok X G (c.fact 77 (f := .free "sum") rfl)
  have m_tuple : mg "tuple" = none := He.free_ok X G (c.fact 78 (f := .free "tuple") rfl)
  have sk : KSys K := ckS_ok (Bool.and_eq_true_iff.mp kk).2
  have kk := (Bool.and_eq_true_iff.mp kk).1
  have m_gcd : mg "gcd" = some (.builtin "math.gcd") := ckM_blt X G kk 0 rfl
  refine law_mkH (st := s_law) (n := 12) X G hfa c 60 rfl rfl (fun _ _ _ _ _ _ _ _ => .of_eq rfl) (fun base f fd F => ?_)
  have c_l_take := c_of_l_take (P := PySem.Challenge.pw_nearestheld_k51_what_many_lack) (w := w) (base := base) m_int T_l_take
  have c_l_some := c_of_l_some (P := PySem.Challenge.pw_nearestheld_k51_what_many_lack) (w := w) (base := base) m_len c_l_take T_l_some
  have c_l_to := c_of_l_to (P := PySem.Challenge.pw_nearestheld_k51_what_many_lack) (w := w) (base := base) m_int T_l_to
  have c_l_edges := c_of_l_edges (P := PySem.Challenge.pw_nearestheld_k51_what_many_lack) (w := w) (base := base) c_l_to T_l_edges
  have c_l_number := c_of_l_number (P := PySem.Challenge.pw_nearestheld_k51_what_many_lack) (w := w) (base := base) m_min m_max c_l_take c_l_some c_l_edges c_l_to T_l_number
  have c_l_turned_sign := c_of_l_turned_sign (P := PySem.Challenge.pw_nearestheld_k51_what_many_lack) (w := w) (base := base) T_l_turned_sign
  have c_l_sized := c_of_l_sized (P := PySem.Challenge.pw_nearestheld_k51_what_many_lack) (w := w) (base := base) m_abs T_l_sized
  have c_l_grid := c_of_l_grid (P := PySem.Challenge.pw_nearestheld_k51_what_many_lack) (w := w) (base := base) m_int m_max c_l_to T_l_grid
  have c_l_power := c_of_l_power (P := PySem.Challenge.pw_nearestheld_k51_what_many_lack) (w := w) (base := base) c_l_to T_l_power
  have c_l_common := c_of_l_common (P := PySem.Challenge.pw_nearestheld_k51_what_many_lack) (w := w) (base := base) m_abs m_int T_l_common
  have c_l_over := c_of_l_over (P := PySem.Challenge.pw_nearestheld_k51_what_many_lack) (w := w) (base := base) m_int c_l_common T_l_over
  have c_l_multiplied := c_of_l_multiplied (P := PySem.Challenge.pw_nearestheld_k51_what_many_lack) (w := w) (base := base) c_l_over T_l_multiplied
  have c_l_neighbours := c_of_l_neighbours (P := PySem.Challenge.pw_nearestheld_k51_what_many_lack) (w := w) (base := base) c_l_grid c_l_power c_l_multiplied T_l_neighbours
  have c_l_lessened := c_of_l_lessened (P := PySem.Challenge.pw_nearestheld_k51_what_many_lack) (w := w) (base := base) c_l_over T_l_lessened
  have c_l_is_below := c_of_l_is_below (P := PySem.Challenge.pw_nearestheld_k51_what_many_lack) (w := w) (base := base) T_l_is_below
  have c_l_nearer := c_of_l_nearer (P := PySem.Challenge.pw_nearestheld_k51_what_many_lack) (w := w) (base := base) m_int c_l_lessened c_l_is_below T_l_nearer
  have c_l_normal := c_of_l_normal (P := PySem.Challenge.pw_nearestheld_k51_what_many_lack) (w := w) (base := base) c_l_power T_l_normal
  have c_l_greatest := c_of_l_greatest (P := PySem.Challenge.pw_nearestheld_k51_what_many_lack) (w := w) (base := base) c_l_to c_l_power c_l_multiplied T_l_greatest
  have c_l_form_of := c_of_l_form_of (P := PySem.Challenge.pw_nearestheld_k51_what_many_lack) (w := w) (base := base) c_l_grid T_l_form_of
  have c_l_rounded := c_of_l_rounded (P := PySem.Challenge.pw_nearestheld_k51_what_many_lack) (w := w) (base := base) m_int m_tuple m_sorted m_set c_l_sized c_l_neighbours c_l_nearer c_l_is_below c_l_normal c_l_greatest c_l_form_of T_l_rounded
  have c_l_worth := c_of_l_worth (P := PySem.Challenge.pw_nearestheld_k51_what_many_lack) (w := w) (base := base) c_l_multiplied c_l_power T_l_worth
  have c_l_parted_sum := c_of_l_parted_sum (P := PySem.Challenge.pw_nearestheld_k51_what_many_lack) (w := w) (base := base) m_tuple c_l_rounded c_l_lessened c_l_worth T_l_parted_sum
  have c_l_added := c_of_l_added (P := PySem.Challenge.pw_nearestheld_k51_what_many_lack) (w := w) (base := base) c_l_over T_l_added
  have c_l_total := c_of_l_total (P := PySem.Challenge.pw_nearestheld_k51_what_many_lack) (w := w) (base := base) c_l_added c_l_worth T_l_total
  have c_integer_power := c_of_integer_power (P := PySem.Challenge.pw_nearestheld_k51_what_many_lack) (w := w) (base := base) T_integer_power
  have c_u_units_of := c_of_u_units_of (P := PySem.Challenge.pw_nearestheld_k51_what_many_lack) (w := w) (base := base) c_integer_power T_u_units_of
  have c_u_twos_in := c_of_u_twos_in (P := PySem.Challenge.pw_nearestheld_k51_what_many_lack) (w := w) (base := base) T_u_twos_in
  have c_reduced := c_of_reduced (P := PySem.Challenge.pw_nearestheld_k51_what_many_lack) (w := w) (base := base) m_gcd m_min c_u_twos_in T_reduced
  have c_times := c_of_times (P := PySem.Challenge.pw_nearestheld_k51_what_many_lack) (w := w) (base := base) c_reduced T_times
  have c_power_of := c_of_power_of (P := PySem.Challenge.pw_nearestheld_k51_what_many_lack) (w := w) (base := base) c_integer_power T_power_of
  have c_u_counted_sum := c_of_u_counted_sum (P := PySem.Challenge.pw_nearestheld_k51_what_many_lack) (w := w) (base := base) m_sum c_u_units_of c_times c_power_of T_u_counted_sum
  have c_exact_sum := c_of_exact_sum (P := PySem.Challenge.pw_nearestheld_k51_what_many_lack) (w := w) (base := base) c_u_counted_sum T_exact_sum
  have c_zero := c_of_zero (P := PySem.Challenge.pw_nearestheld_k51_what_many_lack) (w := w) (base := base) T_zero
  have c_is_taken_outward := c_of_is_taken_outward (P := PySem.Challenge.pw_nearestheld_k51_what_many_lack) (w := w) (base := base) T_is_taken_outward
  have c_u_nearest := c_of_u_nearest (P := PySem.Challenge.pw_nearestheld_k51_what_many_lack) (w := w) (base := base) c_is_taken_outward c_integer_power T_u_nearest
  have c_u_too_great := c_of_u_too_great (P := PySem.Challenge.pw_nearestheld_k51_what_many_lack) (w := w) (base := base) c_integer_power T_u_too_great
  have c_u_outcome := c_of_u_outcome (P := PySem.Challenge.pw_nearestheld_k51_what_many_lack) (w := w) (base := base) c_u_nearest c_u_too_great c_integer_power T_u_outcome
  have c_sign_of_fraction := c_of_sign_of_fraction (P := PySem.Challenge.pw_nearestheld_k51_what_many_lack) (w := w) (base := base) T_sign_of_fraction
  have c_u_power_within := c_of_u_power_within (P := PySem.Challenge.pw_nearestheld_k51_what_many_lack) (w := w) (base := base) m_rev T_u_power_within
  have c_power_below := c_of_power_below (P := PySem.Challenge.pw_nearestheld_k51_what_many_lack) (w := w) (base := base) c_u_power_within T_power_below
  have c_part_of := c_of_part_of (P := PySem.Challenge.pw_nearestheld_k51_what_many_lack) (w := w) (base := base) T_part_of
  have c_u_spot := c_of_u_spot (P := PySem.Challenge.pw_nearestheld_k51_what_many_lack) (w := w) (base := base) m_max m_divmod c_power_below c_power_of c_part_of T_u_spot
  have c_size_of := c_of_size_of (P := PySem.Challenge.pw_nearestheld_k51_what_many_lack) (w := w) (base := base) m_abs T_size_of
  have c_rounded := c_of_rounded (P := PySem.Challenge.pw_nearestheld_k51_what_many_lack) (w := w) (base := base) c_zero c_u_outcome c_sign_of_fraction c_u_spot c_size_of T_rounded
  have c_is_inf := c_of_is_inf (P := PySem.Challenge.pw_nearestheld_k51_what_many_lack) (w := w) (base := base) T_is_inf
  have c_added := c_of_added (P := PySem.Challenge.pw_nearestheld_k51_what_many_lack) (w := w) (base := base) m_gcd c_reduced T_added
  have c_lessened := c_of_lessened (P := PySem.Challenge.pw_nearestheld_k51_what_many_lack) (w := w) (base := base) c_added T_lessened
  have c_worth := c_of_worth (P := PySem.Challenge.pw_nearestheld_k51_what_many_lack) (w := w) (base := base) c_times c_power_of T_worth
  have c_parted_sum_of := c_of_parted_sum_of (P := PySem.Challenge.pw_nearestheld_k51_what_many_lack) (w := w) (base := base) m_tuple c_exact_sum c_rounded c_is_inf c_lessened c_worth T_parted_sum_of
  have c_l_alike := c_of_l_alike (P := PySem.Challenge.pw_nearestheld_k51_what_many_lack) (w := w) (base := base) m_repr T_l_alike
  have c_is_worded := c_of_is_worded (P := PySem.Challenge.pw_nearestheld_k51_what_many_lack) (w := w) (base := base) m_isinstance m_tuple m_str m_len T_is_worded
  have c_is_integer := c_of_is_integer (P := PySem.Challenge.pw_nearestheld_k51_what_many_lack) (w := w) (base := base) m_isinstance m_int m_bool T_is_integer
  have c_is_number := c_of_is_number (P := PySem.Challenge.pw_nearestheld_k51_what_many_lack) (w := w) (base := base) m_all c_integer_power c_is_worded c_is_integer T_is_number
  have c_is_parted_sum := c_of_is_parted_sum (P := PySem.Challenge.pw_nearestheld_k51_what_many_lack) (w := w) (base := base) m_isinstance m_tuple m_all c_parted_sum_of c_is_number T_is_parted_sum
  have c_l_alike_x := c_of_l_alike_x (P := PySem.Challenge.pw_nearestheld_k51_what_many_lack) (w := w) (base := base) sk m_repr T_l_alike
  have c_l_bag := c_of_l_bag (P := PySem.Challenge.pw_nearestheld_k51_what_many_lack) (w := w) (base := base) m_abs T_l_bag
  have c_l_formats := c_of_l_formats (P := PySem.Challenge.pw_nearestheld_k51_what_many_lack) (w := w) (base := base) c_l_some T_l_formats
  have c_l_near_format := c_of_l_near_format (P := PySem.Challenge.pw_nearestheld_k51_what_many_lack) (w := w) (base := base) c_l_take c_l_some c_l_formats T_l_near_format
  have c_l_mixed := c_of_l_mixed (P := PySem.Challenge.pw_nearestheld_k51_what_many_lack) (w := w) (base := base) m_len c_l_take T_l_mixed
  have c_l_zero_of := c_of_l_zero_of (P := PySem.Challenge.pw_nearestheld_k51_what_many_lack) (w := w) (base := base) T_l_zero_of
  have c_l_near_sums := c_of_l_near_sums (P := PySem.Challenge.pw_nearestheld_k51_what_many_lack) (w := w) (base := base) m_list m_len c_l_zero_of c_l_take c_l_turned_sign c_l_number c_l_mixed T_l_near_sums
  exact ok_law sk m_range m_repr m_tuple c_l_some c_l_number c_l_take c_l_turned_sign c_l_parted_sum c_l_total c_parted_sum_of c_l_alike c_is_parted_sum c_l_alike_x c_l_bag c_l_near_format c_l_mixed c_l_near_sums F
end K51
open PySem PySem.W PySem.Calls PyProof.Rows
set_option maxRecDepth 100000 in
set_option maxHeartbeats 0 in
theorem PySem.Challenge.cw_nearestheld_k51_what_many_lack_holds : PySem.Challenge.rw_nearestheld_k51_what_many_lack.Holds := by
  w_on; o_law
  refine Gd.head_two (r := OpenLaw.row PySem.Challenge.rw_nearestheld_k51_what_many_lack) (q := view (OpenLaw.row PySem.Challenge.rw_nearestheld_k51_what_many_lack).prog [69]) (H := Gd.hkM K51H.fas K51H.fn K51H.ck) (ob := Gd.obM K51H.fas K51H.fn K51H.ck) (N := 8000) (M := 8000) (loose := K51H.loose) (d := HandSHeadRun.topDef (OpenLaw.row PySem.Challenge.rw_nearestheld_k51_what_many_lack).prog 69) (kwd := []) Gd.obM_eq (Nat.le_refl _)
    K51H.runA K51H.runB K51H.hdefT K51H.hpT K51H.hkT (by rfl) (by first | assumption | decide +kernel) K51H.okT K51H.hbT ?hw ?hc
  case hw => w_witness2
  case hc =>
    refine Gd.walk_ofGH (l := PySem.Challenge.rw_nearestheld_k51_what_many_lack) (k := 12) (x := "_law_script") (ck := K51H.ck) (fas := K51H.fas) (fn := K51H.fn) rfl rfl ⟨rfl, by decide, by decide⟩ ?F
    intro w K mg fa h KX G hmg c kk
    have hl : mg ("law" : PySem.Str) = some (.ref fa) := by
      have e : (HandSHeadRun.topDef (OpenLaw.row PySem.Challenge.rw_nearestheld_k51_what_many_lack).prog 69).name = ("law" : PySem.Str) := K51H.nameT
      rw [← e]
      exact hmg
    exact K51.all_mk KX G hl c kk
