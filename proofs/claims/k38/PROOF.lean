import PyProof.Rows.All
import Wide.All
import OpenK.AllK
import Wide.FinOn
import HandS.ForMost
import HandS.Head0
import HandS.Head1
import HandS.Head2
import HandS.HeadEnd
import HandS.HeadHook1
import HandS.HeadHook2
import HandS.Wide
import HandS.WideBits
import HandS.Gcd
import HandS.TupAny
import HandS.Flow
import HandS.Set
import HandS.SetFor
import HandS.Strs
import HandS.Rev
import HandS.Style
import HandS.TryOnly
import HandS.RaiseMore
import HandS.Deep
import HandS.TupMul
import HandS.Flt
import HandS.Zip
import HandS.IsInst
import HandS.Dict
import KE.KBits
import KE.DataMinMax
import HandS.SortKw
import HandS.More
import KE.GoesEnum
import HandS.Walk
import PyProof.ToksMono
import KE.DataMinKey
import KE.KMathG
import Flt.RightSqrt
import HandS.TupLe
import HandS.Comp
import HandS.CallLocal
import PyProof.AutoSeq1
import HandS.Star
import HandS.IterVal
import HandS.Conv
import KE.KRevSl
import HandS.DictTup
import HandS.Text
import KE.KDictDisplayH
import PyProof.TupleOfSeq
import KE.SortData
import KE.SortKeyHeap
import KE.KSortKey
import HandS.List
import PyProof.Rows.StrOr
import PySem.Challenge.RW_nearestheld_k38_shortest_decimals
set_option Elab.async false
set_option linter.all false
set_option maxRecDepth 100000
set_option maxHeartbeats 4000001
namespace Gd
open PySem PySem.Spec PyProof.Rows L2
def repAll (f : Value → PyData → Bool) : List Value → List PyData → Bool
  | [], [] => true
  | v :: vs, d :: ds => f v d && repAll f vs ds
  | _, _ => false
def repB (K : PySem.W.Frag) : Nat → Value → PyData → Bool
  | 0, _, _ => false
  | n + 1, .str y _, .str x => decide (y = x)
  | n + 1, .int j _, .int i => decide (j = i)
  | n + 1, .ref a, .tuple ds => match K.lookup a with
    | some ⟨c, _, .seq its _, _⟩ => decide (c = .type "tuple") && (Nat.ble its.size 60 && repAll (repB K n) its.toList ds)
    | _ => false
  | _ + 1, _, _ => false
def globB (K : PySem.W.Frag) (x : Str) (d : PyData) : Bool := match PySem.W.nsIn K mainGlobals x with
  | some (some v) => repB K 5 v d
  | _ => false
def bltB (K : PySem.W.Frag) (x : Str) (b : String) : Bool := He.eqO (PySem.W.nsIn K mainGlobals x) (some (some (.builtin b)))
def ckM (gl : List (Str × PyData)) (bl : List (Str × String)) (K : PySem.W.Frag) : Bool := gl.all (fun p => globB K p.1 p.2) && bl.all (fun p => bltB K p.1 p.2)
def refsAt (g : Addr → Option Obj) (a : Addr) : List Addr := match g a with
  | some o => He.refsO o
  | none => []
def asM (g : Addr → Option Obj) : List Addr := sysModules :: mainGlobals :: (refsAt g mainGlobals ++ (refsAt g mainGlobals).flatMap (refsAt g))
def hkM (fa : List He.Fa) (fn : List He.DefD) (ck : PySem.W.Frag → Bool) : PySem.W.Hook where
  α := He.AlD × Bool
  obs s := (fun K => (He.obsD fa fn K, ck K)) (He.frG s.heap.get? (asM s.heap.get?))
  val _ := (He.valD fn, true)
  says _ h := ∃ K : PySem.W.Frag, K.In h ∧ He.SaysD fa fn K ∧ ck K = true
  of w s h := ⟨_, He.frG_in, congrArg Prod.fst h, congrArg Prod.snd h⟩
  keeps w h h' := fun ⟨K, k, a, b⟩ up => ⟨K, fun x o e => up x o (k x o e), a, b⟩
def obM (fa : List He.Fa) (fn : List He.DefD) (ck : PySem.W.Frag → Bool) (s : PySem.W.SharedT) : He.AlD × Bool :=
  (fun K => (He.obsD fa fn K, ck K)) (He.frG (HandSHeadRun.getT s) (asM (HandSHeadRun.getT s)))
abbrev dfD (y x : Str) (st : Stmt) : He.DefD := ⟨(y, .none), x, x, defArgs st, defBody st, defScope st, [], []⟩
noncomputable def endG (st : PySem.W.SharedT → Thread → Option (PySem.W.SharedT × Thread)) (M : Nat) (p : Program) (s0 : Shared) : Option PySem.W.SharedT :=
  match HandSHeadRun.putAll s0.heap.objs.toList PySem.W.BT.nil 0 with
  | some (t, n) => HandSHeadRun.frNat n fun n0 => HandSHeadRun.goF st n0 (s0.heap.nsMap mainGlobals (Str.ofString "__annotations__")) M ⟨t, n0, s0.heap.life, s0.gens, s0.drawn, s0.toks, s0.os⟩ (PySem.W.topStub p)
  | none => none
def goI (st : PySem.W.SharedT → Thread → Option (PySem.W.SharedT × Thread)) : Nat → PySem.W.SharedT → Thread → Option PySem.W.SharedT
  | 0, _, _ => none
  | m + 1, s, t => match t.atExitBegin with
    | some [] => some s
    | some (_ :: _) => none
    | none => match st s t with
      | some (s', t') => HandSHeadRun.frS s' fun s' => goI st m s' t'
      | none => none
noncomputable def openI (st : PySem.W.SharedT → Thread → Option (PySem.W.SharedT × Thread)) (N : Nat) (p : Program) : Option Shared :=
  (goI st N ⟨PySem.W.BT.nil, 0, {}, #[], {}, 1, (start (PySem.W.opening p)).1.os⟩ (start (PySem.W.opening p)).2).bind fun s => fenceModules? p s.abs
noncomputable def runI (p : Program) (w : World) (N M : Nat) : Option (Shared × PySem.W.SharedT) :=
  (openI (HandSHeadRun.stepQ (HandSHeadRun.denQ HandSHeadRun.tabQ) (PySem.W.opening p) w) N p).bind fun s0 => (endG (HandSHeadRun.stepQ (HandSHeadRun.denQ HandSHeadRun.tabQ) p w) M p s0).map fun s => (s0, s)
def RunA (r : PySem.W.OpenRow) (q : Program) (N M : Nat) (loose : List Str) (w : World) : Prop :=
  (runI r.prog w N M).map (fun s => ((s.1.heap.isNs mainGlobals && s.1.gens.size == 0) && HandSHeadRun.looksF r.prog s.1.heap s.2.abs, HandSHeadRun.seenQ q loose (importedModules r.prog.main.body) (fun s => PySem.W.xlAt q [] s && PySem.W.recOk r.records s) s.2.abs)) = some (true, PySem.W.openGood q loose)
def RunB (r : PySem.W.OpenRow) (H : PySem.W.Hook) (ob : PySem.W.SharedT → H.α) (N M : Nat) (w : World) : Prop :=
  (runI r.prog w N M).map (fun s => ob s.2) = some (H.val w)
end Gd
namespace K38H
open PySem PySem.Spec PyProof.Rows L2 Gd
def topH (i : Nat) : Stmt := PySem.Challenge.pw_nearestheld_k38_shortest_decimals.main.body.getD i (.Pass ⟨0, 0, 0, 0⟩)
def fn0 : List He.DefD := [dfD "integer_power" "integer_power" (topH 2), dfD "is_integer" "is_integer" (topH 3), dfD "reduced" "reduced" (topH 5), dfD "added" "added" (topH 6), dfD "lessened" "lessened" (topH 7), dfD "times" "times" (topH 8), dfD "over" "over" (topH 9), dfD "size_of" "size_of" (topH 10), dfD "power_of" "power_of" (topH 11), dfD "compared" "compared" (topH 12), dfD "floor_of" "floor_of" (topH 13), dfD "ceiling_of" "ceiling_of" (topH 14), dfD "sign_of_fraction" "sign_of_fraction" (topH 15), dfD "part_of" "part_of" (topH 16), dfD "is_taken_outward" "is_taken_outward" (topH 17), dfD "power_below" "power_below" (topH 18), dfD "_power_within" "_power_within" (topH 19), dfD "_twos_in" "_twos_in" (topH 20), dfD "is_decimal" "is_decimal" (topH 22), dfD "decimal_worth" "decimal_worth" (topH 23), dfD "trimmed" "trimmed" (topH 24), dfD "worth" "worth" (topH 26), dfD "zero" "zero" (topH 27), dfD "is_finite" "is_finite" (topH 28), dfD "is_zero" "is_zero" (topH 29), dfD "stretch_of" "stretch_of" (topH 31), dfD "shortest" "shortest" (topH 32), dfD "is_shortest" "is_shortest" (topH 33), dfD "_multiples_in" "_multiples_in" (topH 34), dfD "_greatest_place" "_greatest_place" (topH 35)]
def fn1 : List He.DefD := [dfD "_has_multiple" "_has_multiple" (topH 36), dfD "rounded" "rounded" (topH 38), dfD "_spot" "_spot" (topH 39), dfD "_nearest" "_nearest" (topH 40), dfD "_outcome" "_outcome" (topH 41), dfD "_too_great" "_too_great" (topH 42), dfD "read_decimal" "read_decimal" (topH 44), dfD "_law_bag" "_law_bag" (topH 46), dfD "_law_take" "_law_take" (topH 47), dfD "_law_some" "_law_some" (topH 48), dfD "_law_alike" "_law_alike" (topH 49), dfD "_law_format" "_law_format" (topH 50), dfD "_law_to" "_law_to" (topH 51), dfD "_law_power" "_law_power" (topH 52), dfD "_law_size" "_law_size" (topH 53), dfD "_law_c" "_law_c" (topH 54), dfD "_law_number" "_law_number" (topH 55), dfD "_law_next" "_law_next" (topH 56), dfD "_law_compared" "_law_compared" (topH 57), dfD "_law_decimal_size" "_law_decimal_size" (topH 58), dfD "_law_ends" "_law_ends" (topH 59), dfD "_law_is_in" "_law_is_in" (topH 60), dfD "_law_gcd" "_law_gcd" (topH 61), dfD "_law_fraction" "_law_fraction" (topH 62), dfD "_law_trimmed" "_law_trimmed" (topH 63), dfD "_law_top" "_law_top" (topH 64), dfD "_law_shortest" "_law_shortest" (topH 65), dfD "law" "law" (topH 66)]
def fn : List He.DefD := fn0 ++ fn1
def fas0 : List He.Fa := [.glo "integer_power", .glo "is_integer", .glo "reduced", .glo "added", .glo "lessened", .glo "times", .glo "over", .glo "size_of", .glo "power_of", .glo "compared", .glo "floor_of", .glo "ceiling_of", .glo "sign_of_fraction", .glo "part_of", .glo "is_taken_outward", .glo "power_below", .glo "_power_within", .glo "_twos_in", .glo "is_decimal", .glo "decimal_worth", .glo "trimmed", .glo "worth", .glo "zero", .glo "is_finite", .glo "is_zero", .glo "stretch_of", .glo "shortest", .glo "is_shortest", .glo "_multiples_in", .glo "_greatest_place"]
def fas1 : List He.Fa := [.glo "_has_multiple", .glo "rounded", .glo "_spot", .glo "_nearest", .glo "_outcome", .glo "_too_great", .glo "read_decimal", .glo "_law_bag", .glo "_law_take", .glo "_law_some", .glo "_law_alike", .glo "_law_format", .glo "_law_to", .glo "_law_power", .glo "_law_size", .glo "_law_c", .glo "_law_number", .glo "_law_next", .glo "_law_compared", .glo "_law_decimal_size", .glo "_law_ends", .glo "_law_is_in", .glo "_law_gcd", .glo "_law_fraction", .glo "_law_trimmed", .glo "_law_top", .glo "_law_shortest", .glo "law", .free "abs", .free "all"]
def fas2 : List He.Fa := [.free "bool", .free "divmod", .free "int", .free "isinstance", .free "len", .free "max", .free "min", .free "range", .free "repr", .free "reversed", .free "str", .free "tuple"]
def fas : List He.Fa := fas0 ++ fas1 ++ fas2
def ck (K : PySem.W.Frag) : Bool := ckM [] [("gcd", "math.gcd")] K
def loose0 : List Str := ["gcd", "__name__", "integer_power", "is_integer", "reduced", "added", "lessened", "times", "over", "size_of", "power_of", "compared", "floor_of", "ceiling_of", "sign_of_fraction", "part_of", "is_taken_outward", "power_below", "_power_within", "_twos_in", "is_decimal", "decimal_worth", "trimmed", "worth", "zero", "is_finite", "is_zero", "stretch_of", "shortest", "is_shortest"]
def loose1 : List Str := ["_multiples_in", "_greatest_place", "_has_multiple", "rounded", "_spot", "_nearest", "_outcome", "_too_great", "read_decimal", "_law_bag", "_law_take", "_law_some", "_law_alike", "_law_format", "_law_to", "_law_power", "_law_size", "_law_c", "_law_number", "_law_next", "_law_compared", "_law_decimal_size", "_law_ends", "_law_is_in", "_law_gcd", "_law_fraction", "_law_trimmed", "_law_top", "_law_shortest"]
def loose : List Str := loose0 ++ loose1
theorem runA (w : World) : RunA (PySem.W.OpenLaw.row PySem.Challenge.rw_nearestheld_k38_shortest_decimals) (PySem.W.view (PySem.W.OpenLaw.row PySem.Challenge.rw_nearestheld_k38_shortest_decimals).prog [66]) 8000 8000 loose w := by
  unfold RunA
  kernel_rfl
theorem runB (w : World) : RunB (PySem.W.OpenLaw.row PySem.Challenge.rw_nearestheld_k38_shortest_decimals) (hkM fas fn ck) (obM fas fn ck) 8000 8000 w := by
  unfold RunB
  kernel_rfl
theorem hdefT : PySem.W.defOf (PySem.W.view (PySem.W.OpenLaw.row PySem.Challenge.rw_nearestheld_k38_shortest_decimals).prog [66]) (PySem.W.OpenLaw.row PySem.Challenge.rw_nearestheld_k38_shortest_decimals).name = some ((HandSHeadRun.topDef (PySem.W.OpenLaw.row PySem.Challenge.rw_nearestheld_k38_shortest_decimals).prog 66), []) := by kernel_rfl
theorem hpT : (PySem.W.OpenLaw.row PySem.Challenge.rw_nearestheld_k38_shortest_decimals).prog.theDef (PySem.W.OpenLaw.row PySem.Challenge.rw_nearestheld_k38_shortest_decimals).name = some ((HandSHeadRun.topDef (PySem.W.OpenLaw.row PySem.Challenge.rw_nearestheld_k38_shortest_decimals).prog 66).params, (HandSHeadRun.topDef (PySem.W.OpenLaw.row PySem.Challenge.rw_nearestheld_k38_shortest_decimals).prog 66).body, (HandSHeadRun.topDef (PySem.W.OpenLaw.row PySem.Challenge.rw_nearestheld_k38_shortest_decimals).prog 66).scope) := by kernel_rfl
theorem hkT : PySem.W.kwWritten? (HandSHeadRun.topDef (PySem.W.OpenLaw.row PySem.Challenge.rw_nearestheld_k38_shortest_decimals).prog 66).params.kwonlyargs (HandSHeadRun.topDef (PySem.W.OpenLaw.row PySem.Challenge.rw_nearestheld_k38_shortest_decimals).prog 66).params.kw_defaults = some [] := by kernel_rfl
theorem okT : (PySem.W.chainsOk (PySem.W.view (PySem.W.OpenLaw.row PySem.Challenge.rw_nearestheld_k38_shortest_decimals).prog [66]) && PySem.W.opensWell (PySem.W.OpenLaw.row PySem.Challenge.rw_nearestheld_k38_shortest_decimals).prog && (PySem.W.frees (PySem.W.OpenLaw.row PySem.Challenge.rw_nearestheld_k38_shortest_decimals).toRowW && (PySem.W.OpenLaw.row PySem.Challenge.rw_nearestheld_k38_shortest_decimals).within.isEmpty)) = true := by decide +kernel
theorem hbT : (PySem.W.OpenLaw.row PySem.Challenge.rw_nearestheld_k38_shortest_decimals).prog.bare := ⟨rfl, rfl, rfl, rfl, rfl, by decide +kernel⟩
theorem nameT : (HandSHeadRun.topDef (PySem.W.OpenLaw.row PySem.Challenge.rw_nearestheld_k38_shortest_decimals).prog 66).name = ("law" : PySem.Str) := by kernel_rfl
end K38H
namespace Gd
open PySem PySem.Spec PyProof.Rows L2
mutual
inductive Rp (K : PySem.W.Frag) (H : Hp) : V → PyData → Prop
  | non : Rp K H .non .none
  | bl (b : Bool) : Rp K H (.bl b) (.bool b)
  | int (i : Int) : Rp K H (.int i) (.int i)
  | str (x : Str) : Rp K H (.str x) (.str x)
  | lst {a xs ds} (h : H a = some (.lst xs)) (r : RpAll K H xs ds) : Rp K H (.ref a) (.list ds)
  | tup {a xs ds} (h : SqT K H a xs) (r : RpAll K H xs ds) : Rp K H (.ref a) (.tuple ds)
  | dct {a} (h : H a = some (.dK [])) : Rp K H (.ref a) (.dict [])
  | dctT {a} (kvs : List (List Int × Int)) (h : H a = some (.dT (kvs.map fun p => (p.1.map .inl, V.int p.2)))) : Rp K H (.ref a) (.dict (kvs.map fun p => (.tuple (p.1.map .int), .int p.2)))
inductive RpAll (K : PySem.W.Frag) (H : Hp) : List V → List PyData → Prop
  | nil : RpAll K H [] []
  | cons {v vs d ds} (h : Rp K H v d) (r : RpAll K H vs ds) : RpAll K H (v :: vs) (d :: ds)
end
section
variable {K : PySem.W.Frag} {H H' : Hp}
theorem seqT (e : Same H H') {a : Addr} {xs : List V} (h : SqT K H a xs) : SqT K H' a xs := by
  rcases h with (hh | ⟨ob, hh⟩) | hh
  · exact .inl (.inl (e _ _ hh))
  · exact .inl (.inr ⟨ob, e _ _ hh⟩)
  · exact .inr hh
mutual
theorem Rp.mono (e : Same H H') : ∀ {v : V} {d : PyData}, Rp K H v d → Rp K H' v d
  | _, _, .non => .non
  | _, _, .bl b => .bl b
  | _, _, .int i => .int i
  | _, _, .str x => .str x
  | _, _, .lst h r => .lst (e _ _ h) (RpAll.mono e r)
  | _, _, .tup h r => .tup (seqT e h) (RpAll.mono e r)
  | _, _, .dct h => .dct (e _ _ h)
  | _, _, .dctT kvs h => .dctT kvs (e _ _ h)
theorem RpAll.mono (e : Same H H') : ∀ {vs : List V} {ds : List PyData}, RpAll K H vs ds → RpAll K H' vs ds
  | _, _, .nil => .nil
  | _, _, .cons h r => .cons (Rp.mono e h) (RpAll.mono e r)
end
mutual
theorem Rp.dp : ∀ {v : V} {d : PyData}, Rp K H v d → d.hasDict = false → Dp K H v d
  | _, _, .non, _ => .non
  | _, _, .bl b, _ => .bl b
  | _, _, .int i, _ => .int i
  | _, _, .str x, _ => .str x
  | _, _, .lst h r, n => .lst (SqL.of h) (RpAll.dp r (by simpa only [PyData.hasDict] using n))
  | _, _, .tup h r, n => .tup h (RpAll.dp r (by simpa only [PyData.hasDict] using n))
  | _, _, .dct h, n => by simp only [PyData.hasDict] at n; cases n
  | _, _, .dctT kvs h, n => by simp only [PyData.hasDict] at n; cases n
theorem RpAll.dp : ∀ {vs : List V} {ds : List PyData}, RpAll K H vs ds → PyData.hasDictAll ds = false → DpAll K H vs ds
  | _, _, .nil, _ => .nil
  | _, _, .cons h r, n => by
    simp only [PyData.hasDictAll, Bool.or_eq_false_iff] at n
    exact .cons (Rp.dp h n.1) (RpAll.dp r n.2)
end
theorem nd_shaped {d : PyData} (h : SeqAt.shaped d = true) : d.hasDict = false := PyData.hasDict_of_canLay d (by unfold SeqAt.shaped at h; exact (Bool.and_eq_true_iff.mp h).1)
theorem RpAll.length : ∀ {vs : List V} {ds : List PyData}, RpAll K H vs ds → vs.length = ds.length
  | _, _, .nil => rfl
  | _, _, .cons _ r => congrArg (· + 1) (RpAll.length r)
theorem RpAll.get : ∀ {vs : List V} {ds : List PyData} {i : Nat} {v : V}, RpAll K H vs ds → vs[i]? = some v → ∃ d, ds[i]? = some d ∧ Rp K H v d
  | _, _, 0, _, .cons h _, e => by cases e; exact ⟨_, rfl, h⟩
  | _, _, i + 1, _, .cons _ r, e => RpAll.get (i := i) r e
  | _, _, i, _, .nil, e => by simp at e
theorem RpAll.getD : ∀ {vs : List V} {ds : List PyData} {i : Nat} {d : PyData}, RpAll K H vs ds → ds[i]? = some d → ∃ v, vs[i]? = some v ∧ Rp K H v d
  | _, _, 0, _, .cons h _, e => by cases e; exact ⟨_, rfl, h⟩
  | _, _, i + 1, _, .cons _ r, e => RpAll.getD (i := i) r e
  | _, _, i, _, .nil, e => by simp at e
theorem RpAll.app : ∀ {vs ws : List V} {ds es : List PyData}, RpAll K H vs ds → RpAll K H ws es → RpAll K H (vs ++ ws) (ds ++ es)
  | _, _, _, _, .nil, q => q
  | _, _, _, _, .cons h r, q => .cons h (RpAll.app r q)
theorem RpAll.take : ∀ {vs : List V} {ds : List PyData} (n : Nat), RpAll K H vs ds → RpAll K H (vs.take n) (ds.take n)
  | _, _, 0, _ => .nil
  | _, _, _ + 1, .nil => .nil
  | _, _, n + 1, .cons h r => .cons h (RpAll.take n r)
theorem RpAll.drop : ∀ {vs : List V} {ds : List PyData} (n : Nat), RpAll K H vs ds → RpAll K H (vs.drop n) (ds.drop n)
  | _, _, 0, r => r
  | _, _, _ + 1, .nil => .nil
  | _, _, n + 1, .cons _ r => RpAll.drop n r
end
structure Bag where
  x : Int
  y : Int
  z : Int
  cs : List Int
abbrev Gh := Option (Addr × Addr)
def bagCells (B : Bag) (l : Addr) : List V := [.int B.x, .int B.y, .int B.z, .ref l]
structure On (K : PySem.W.Frag) (g : Gh) (B : Bag) (H0 H : Hp) : Prop where
  ex : Same H0 H
  bag : ∀ a l, g = some (a, l) → H0 a = none ∧ H a = some (.lst (bagCells B l)) ∧ H0 l = some (.lst (B.cs.map V.int))
def Off (g : Gh) (a : Addr) : Prop := ∀ l, g ≠ some (a, l)
structure To (g : Gh) (H0 H H0' H' : Hp) : Prop where
  ex : Same H0 H0'
  un : ∀ a o, Off g a → H0 a = none → H a = some o → H0' a = none ∧ H' a = some o
theorem To.refl {g : Gh} {H0 H : Hp} : To g H0 H H0 H := ⟨Same.refl _, fun _ _ _ h1 h2 => ⟨h1, h2⟩⟩
theorem To.trans {g : Gh} {H0 H H1 H' H2 H'' : Hp} (s : To g H0 H H1 H') (t : To g H1 H' H2 H'') : To g H0 H H2 H'' :=
  ⟨s.ex.trans t.ex, fun a o f h1 h2 => let ⟨p, q⟩ := s.un a o f h1 h2; t.un a o f p q⟩
inductive VD where
  | no
  | da (d : PyData)
  | bag
  | scr (ns : List Int)
  | dct (kvs : List (Str × PyData))
  | fn (f : Addr)
  | fns (fs : List Addr)
def Rv (K : PySem.W.Frag) (g : Gh) (H0 : Hp) (v : V) : VD → Prop
  | .no => True
  | .da d => Rp K H0 v d
  | .bag => ∃ a l, g = some (a, l) ∧ v = .ref a
  | .scr ns => ∃ a, v = .ref a ∧ SqL K H0 a (ns.map V.int)
  | .dct kvs => ∃ a xs, v = .ref a ∧ H0 a = some (.dK xs) ∧ xs.map (·.1) = kvs.map (fun kv => Sum.inr kv.1) ∧ RpAll K H0 (xs.map (·.2)) (kvs.map (·.2))
  | .fn f => v = .ref f
  | .fns fs => ∃ a, v = .ref a ∧ H0 a = some (.lst (fs.map V.ref))
theorem Rv.mono {K : PySem.W.Frag} {g : Gh} {H0 H1 : Hp} (e : Same H0 H1) {v : V} : ∀ {d : VD}, Rv K g H0 v d → Rv K g H1 v d
  | .no, h => h
  | .da _, h => Rp.mono e h
  | .bag, h => h
  | .scr _, ⟨a, h1, h2⟩ => ⟨a, h1, e.seq h2⟩
  | .dct _, ⟨a, xs, h1, h2, h3, h4⟩ => ⟨a, xs, h1, e _ _ h2, h3, h4.mono e⟩
  | .fn _, h => h
  | .fns _, ⟨a, h1, h2⟩ => ⟨a, h1, e _ _ h2⟩
def RvAll (K : PySem.W.Frag) (g : Gh) (H0 : Hp) : List V → List VD → Prop
  | [], [] => True
  | v :: vs, d :: ds => Rv K g H0 v d ∧ RvAll K g H0 vs ds
  | _, _ => False
theorem RvAll.mono {K : PySem.W.Frag} {g : Gh} {H0 H1 : Hp} (e : Same H0 H1) : ∀ {vs : List V} {ds : List VD}, RvAll K g H0 vs ds → RvAll K g H1 vs ds
  | [], [], h => h
  | _ :: _, _ :: _, h => ⟨h.1.mono e, RvAll.mono e h.2⟩
  | [], _ :: _, h => h.elim
  | _ :: _, [], h => h.elim
theorem RvAll.length {K : PySem.W.Frag} {g : Gh} {H0 : Hp} : ∀ {vs : List V} {ds : List VD}, RvAll K g H0 vs ds → vs.length = ds.length
  | [], [], _ => rfl
  | _ :: _, _ :: _, h => congrArg (· + 1) (RvAll.length h.2)
  | [], _ :: _, h => h.elim
  | _ :: _, [], h => h.elim
structure EnvD (K : PySem.W.Frag) (g : Gh) (H0 : Hp) (σ : L2.St) (Γ : List VD) : Prop where
  len : σ.length = Γ.length
  at' : ∀ (i : Nat) (d : VD), Γ[i]? = some d → d ≠ .no → ∃ v : V, σ[i]? = some (some v) ∧ Rv K g H0 v d
theorem EnvD.mono {K : PySem.W.Frag} {g : Gh} {H0 H1 : Hp} {σ : L2.St} {Γ : List VD} (e : Same H0 H1) (h : EnvD K g H0 σ Γ) : EnvD K g H1 σ Γ :=
  ⟨h.len, fun i d h1 h2 => let ⟨v, p, q⟩ := h.at' i d h1 h2; ⟨v, p, q.mono e⟩⟩
theorem EnvD.set {K : PySem.W.Frag} {g : Gh} {H0 : Hp} {σ : L2.St} {Γ : List VD} {v : V} {d : VD} (h : EnvD K g H0 σ Γ) (i : Nat) (r : Rv K g H0 v d) : EnvD K g H0 (σ.set i (some v)) (Γ.set i d) := by
  refine ⟨by rw [List.length_set, List.length_set, h.len], fun j e h1 h2 => ?_⟩
  by_cases hj : i = j
  · subst hj
    have hi : i < Γ.length := by
      have := (List.getElem?_eq_some_iff.mp h1).1
      rwa [List.length_set] at this
    rw [List.getElem?_set_self hi] at h1
    cases h1
    exact ⟨v, List.getElem?_set_self (by rw [h.len]; exact hi), r⟩
  · rw [List.getElem?_set_ne hj] at h1 ⊢
    exact h.at' j e h1 h2
def WE (X : Cx) (e : Expr) : TE := fun σ H Q => ∃ t, PE X e t ∧ t σ H Q
def WT (X : Cx) (e : Expr) : TT := fun σ H Q => ∃ t, PT X e t ∧ t σ H Q
def WA (X : Cx) (es : List Expr) : TA := fun σ H Q => ∃ t, PA X es t ∧ t σ H Q
def WS (X : Cx) (ss : List Stmt) : TS := fun D σ H => ∃ t, PSs X ss t ∧ t D σ H
theorem we {X : Cx} (e : Expr) : PE X e (WE X e) := ⟨fun p s σ H Q I ⟨_, ht, h⟩ => ht.run p s σ H Q I h⟩
theorem wt {X : Cx} (e : Expr) : PT X e (WT X e) := ⟨fun p s σ H Q I ⟨_, ht, h⟩ => ht.run p s σ H Q I h⟩
theorem wa {X : Cx} (es : List Expr) : PA X es (WA X es) := ⟨fun o p s σ H Q I ⟨_, ht, h⟩ => ht.run o p s σ H Q I h⟩
theorem ws {X : Cx} (ss : List Stmt) : PSs X ss (WS X ss) := ⟨fun p s σ H D I ⟨_, ht, h⟩ => ht.run p s σ H D I h⟩
def EJ (X : Cx) (Γ : List VD) (B : Bag) (e : Expr) (d : VD) (B' : Bag) : Prop :=
  ∀ g σ H0 H, EnvD X.K g H0 σ Γ → On X.K g B H0 H → ∀ Q : VK,
    (∀ v H0' H', To g H0 H H0' H' → On X.K g B' H0' H' → Rv X.K g H0' v d → Q v H') → WE X e σ H Q
def TJ (X : Cx) (Γ : List VD) (B : Bag) (e : Expr) (b : Bool) (B' : Bag) : Prop :=
  ∀ g σ H0 H, EnvD X.K g H0 σ Γ → On X.K g B H0 H → ∀ Q : Bool → Hp → Prop,
    (∀ H0' H', To g H0 H H0' H' → On X.K g B' H0' H' → Q b H') → WT X e σ H Q
def AJ (X : Cx) (Γ : List VD) (B : Bag) (es : List Expr) (ds : List VD) (B' : Bag) : Prop :=
  ∀ g σ H0 H, EnvD X.K g H0 σ Γ → On X.K g B H0 H → ∀ Q : List V → Hp → Prop,
    (∀ vs H0' H', To g H0 H H0' H' → On X.K g B' H0' H' → RvAll X.K g H0' vs ds → Q vs H') → WA X es σ H Q
structure En where
  nx : List VD → Bag → Prop
  rt : PyData → Bag → Prop
  bk : List VD → Bag → Prop := fun _ _ => False
  ct : List VD → Bag → Prop := fun _ _ => False
structure Gets (X : Cx) (E : En) (g : Gh) (H0 H : Hp) (D : Ends) : Prop where
  nx : ∀ Γ B σ H1 H', E.nx Γ B → To g H0 H H1 H' → EnvD X.K g H1 σ Γ → On X.K g B H1 H' → D.nx σ H'
  rt : ∀ r B v H1 H', E.rt r B → To g H0 H H1 H' → On X.K g B H1 H' → Rp X.K H1 v r → D.rt v H'
  bk : ∀ Γ B σ H1 H', E.bk Γ B → To g H0 H H1 H' → EnvD X.K g H1 σ Γ → On X.K g B H1 H' → D.bk σ H'
  ct : ∀ Γ B σ H1 H', E.ct Γ B → To g H0 H H1 H' → EnvD X.K g H1 σ Γ → On X.K g B H1 H' → D.ct σ H'
theorem Gets.on {X : Cx} {E : En} {g : Gh} {H0 H H1 H' : Hp} {D : Ends} (G : Gets X E g H0 H D) (t : To g H0 H H1 H') : Gets X E g H1 H' D :=
  ⟨fun Γ B σ a b e u => G.nx Γ B σ a b e (t.trans u), fun r B v a b e u => G.rt r B v a b e (t.trans u),
   fun Γ B σ a b e u => G.bk Γ B σ a b e (t.trans u), fun Γ B σ a b e u => G.ct Γ B σ a b e (t.trans u)⟩
def SJ (X : Cx) (Γ : List VD) (B : Bag) (ss : List Stmt) (E : En) : Prop :=
  ∀ g σ H0 H, EnvD X.K g H0 σ Γ → On X.K g B H0 H → ∀ D : Ends, Gets X E g H0 H D → WS X ss D σ H
section
variable {X : Cx} {Γ : List VD} {B B1 B2 B' : Bag} {e a b c : Expr} {es : List Expr} {d da db dc : VD} {pos p : Pos}
theorem laid {K : PySem.W.Frag} {g : Gh} {B : Bag} {H0 H : Hp} {p : Addr} {o : HO} (O : On K g B H0 H) (n : H p = none) :
    To g H0 H (upd H0 p o) (upd H p o) ∧ On K g B (upd H0 p o) (upd H p o) := by
  have n0 : H0 p = none := O.ex.free n
  refine ⟨⟨fun q u h => ?_, fun q u f h1 h2 => ?_⟩, ⟨fun q u h => ?_, fun q l h => ?_⟩⟩
  · rw [upd_ne (ne_of_none h n0)]; exact h
  · have hq := ne_of_none h2 n
    rw [upd_ne hq, upd_ne hq]; exact ⟨h1, h2⟩
  · by_cases hq : q = p
    · subst hq; rw [upd_same] at h ⊢; exact h
    · rw [upd_ne hq] at h ⊢; exact O.ex _ _ h
  · obtain ⟨h1, h2, h3⟩ := O.bag q l h
    have hq := ne_of_none h2 n
    have hl := ne_of_none h3 n0
    rw [upd_ne hq, upd_ne hq, upd_ne hl]; exact ⟨h1, h2, h3⟩
theorem ej_c {v : V} {d : PyData} (h : PE X e (tC v)) (r : ∀ H0, Rp X.K H0 v d) : EJ X Γ B e (.da d) B :=
  fun g σ H0 H _ O Q q => ⟨_, h, q v H0 H To.refl O (r H0)⟩
theorem ej_int {i : Int} {j} : EJ X Γ B (.Constant (.int i) j pos) (.da (.int i)) B := ej_c pe_int fun _ => .int i
theorem ej_bl {i : Bool} {j} : EJ X Γ B (.Constant (.bool i) j pos) (.da (.bool i)) B := ej_c pe_bl fun _ => .bl i
theorem ej_str {i : Str} {j} : EJ X Γ B (.Constant (.str i) j pos) (.da (.str i)) B := ej_c pe_str fun _ => .str i
theorem ej_var (i : Nat) {x : Str} (h : Γ[i]? = some d) (hd : d ≠ .no) (hN : X.N[i]? = some x := by rfl)
    (hv : Vis X.env.scope x := by first | exact Or.inl rfl | exact Or.inr (Or.inl rfl) | exact Or.inr (Or.inr rfl))
    (h1 : (x == ("__debug__" : Str)) = false := by decide) (h2 : (x == ("__classdict__" : Str)) = false := by decide) : EJ X Γ B (.Name x pos) d B :=
  fun g σ H0 H E O Q q => let ⟨v, hs, r⟩ := E.at' i d h hd; ⟨_, pe_var hN hv h1 h2, v, hs, q v H0 H To.refl O r⟩
theorem ej_dat (i : Nat) {x : Str} {d : PyData} (h : Γ[i]? = some (.da d) := by rfl) (hN : X.N[i]? = some x := by rfl)
    (hv : Vis X.env.scope x := by first | exact Or.inl rfl | exact Or.inr (Or.inl rfl) | exact Or.inr (Or.inr rfl))
    (h1 : (x == ("__debug__" : Str)) = false := by decide) (h2 : (x == ("__classdict__" : Str)) = false := by decide) : EJ X Γ B (.Name x pos) (.da d) B :=
  ej_var i h (fun z => nomatch z) hN hv h1 h2
theorem ej_bag (i : Nat) {x : Str} (h : Γ[i]? = some .bag := by rfl) (hN : X.N[i]? = some x := by rfl)
    (hv : Vis X.env.scope x := by first | exact Or.inl rfl | exact Or.inr (Or.inl rfl) | exact Or.inr (Or.inr rfl))
    (h1 : (x == ("__debug__" : Str)) = false := by decide) (h2 : (x == ("__classdict__" : Str)) = false := by decide) : EJ X Γ B (.Name x pos) .bag B :=
  ej_var i h (fun z => nomatch z) hN hv h1 h2
theorem ej_un {r : V → Hp → VK → Prop} (ha : EJ X Γ B a da B1) (hp : ∀ t, PE X a t → PE X e (tUn r t))
    (hr : ∀ g v H0 H, On X.K g B1 H0 H → Rv X.K g H0 v da → ∀ Q : VK, (∀ z H0' H', To g H0 H H0' H' → On X.K g B1 H0' H' → Rv X.K g H0' z d → Q z H') → r v H Q) :
    EJ X Γ B e d B1 := fun g σ H0 H E O Q q =>
  ⟨_, hp _ (we a), ha g σ H0 H E O _ fun v H1 H' t o rv => hr g v H1 H' o rv Q fun z H2 H'' t2 o2 r2 => q z H2 H'' (t.trans t2) o2 r2⟩
theorem ej_bin {r : R2} (ha : EJ X Γ B a da B1) (hb : EJ X Γ B1 b db B2) (hp : ∀ t u, PE X a t → PE X b u → PE X e (tOp r t u))
    (hr : ∀ g v w H0 H, On X.K g B2 H0 H → Rv X.K g H0 v da → Rv X.K g H0 w db → ∀ Q : VK, (∀ z H0' H', To g H0 H H0' H' → On X.K g B2 H0' H' → Rv X.K g H0' z d → Q z H') → r v w H Q) :
    EJ X Γ B e d B2 := fun g σ H0 H E O Q q =>
  ⟨_, hp _ _ (we a) (we b), ha g σ H0 H E O _ fun v H1 H' t o rv => hb g σ H1 H' (E.mono t.ex) o _ fun w H2 H'' t2 o2 rw' =>
    hr g v w H2 H'' o2 (rv.mono t2.ex) rw' Q fun z H3 H3' t3 o3 r3 => q z H3 H3' ((t.trans t2).trans t3) o3 r3⟩
theorem rvI {K : PySem.W.Frag} {g : Gh} {H0 : Hp} {v : V} {i : Int} (h : Rv K g H0 v (.da (.int i))) : v = .int i := by
  have h : Rp K H0 v (.int i) := h
  cases h; rfl
theorem rvB {K : PySem.W.Frag} {g : Gh} {H0 : Hp} {v : V} {i : Bool} (h : Rv K g H0 v (.da (.bool i))) : v = .bl i := by
  have h : Rp K H0 v (.bool i) := h
  cases h; rfl
theorem rvS {K : PySem.W.Frag} {g : Gh} {H0 : Hp} {v : V} {i : Str} (h : Rv K g H0 v (.da (.str i))) : v = .str i := by
  have h : Rp K H0 v (.str i) := h
  cases h; rfl
theorem rvL {K : PySem.W.Frag} {g : Gh} {H0 : Hp} {v : V} {ds : List PyData} (h : Rv K g H0 v (.da (.list ds))) : ∃ a xs, v = .ref a ∧ H0 a = some (.lst xs) ∧ RpAll K H0 xs ds := by
  have h : Rp K H0 v (.list ds) := h
  cases h with
  | lst h1 r => exact ⟨_, _, rfl, h1, r⟩
theorem rvT {K : PySem.W.Frag} {g : Gh} {H0 : Hp} {v : V} {ds : List PyData} (h : Rv K g H0 v (.da (.tuple ds))) : ∃ a xs, v = .ref a ∧ SqT K H0 a xs ∧ RpAll K H0 xs ds := by
  have h : Rp K H0 v (.tuple ds) := h
  cases h with
  | tup h1 r => exact ⟨_, _, rfl, h1, r⟩
theorem ej_ii {i j : Int} {z : Int → Int → V} {y : PyData} {op : Operator} (ha : EJ X Γ B a (.da (.int i)) B1) (hb : EJ X Γ B1 b (.da (.int j)) B2)
    (ho : OpR X (binaryOp op) (rI0 z)) (hz : ∀ H0, Rp X.K H0 (z i j) y) : EJ X Γ B (.BinOp a op b pos) (.da y) B2 :=
  ej_bin ha hb (fun _ _ h1 h2 => pe_op ho h1 h2) fun g v w H0 H O r1 r2 Q q => ⟨i, j, rvI r1, rvI r2, q _ H0 H To.refl O (hz H0)⟩
theorem ej_iic {i j : Int} {C : Int → Int → Prop} {z : Int → Int → V} {y : PyData} {op : Operator} (ha : EJ X Γ B a (.da (.int i)) B1) (hb : EJ X Γ B1 b (.da (.int j)) B2)
    (ho : OpR X (binaryOp op) (rI C z)) (hc : C i j) (hz : ∀ H0, Rp X.K H0 (z i j) y) : EJ X Γ B (.BinOp a op b pos) (.da y) B2 :=
  ej_bin ha hb (fun _ _ h1 h2 => pe_op ho h1 h2) fun g v w H0 H O r1 r2 Q q => ⟨i, j, rvI r1, rvI r2, hc, q _ H0 H To.refl O (hz H0)⟩
theorem ej_add {i j : Int} (ha : EJ X Γ B a (.da (.int i)) B1) (hb : EJ X Γ B1 b (.da (.int j)) B2) : EJ X Γ B (.BinOp a .Add b pos) (.da (.int (i + j))) B2 :=
  ej_ii ha hb op_add fun _ => .int _
theorem ej_sub {i j : Int} (ha : EJ X Γ B a (.da (.int i)) B1) (hb : EJ X Γ B1 b (.da (.int j)) B2) : EJ X Γ B (.BinOp a .Sub b pos) (.da (.int (i - j))) B2 :=
  ej_ii ha hb op_sub fun _ => .int _
theorem ej_mul {i j : Int} (ha : EJ X Γ B a (.da (.int i)) B1) (hb : EJ X Γ B1 b (.da (.int j)) B2) (hc : CMulW i j) : EJ X Γ B (.BinOp a .Mult b pos) (.da (.int (i * j))) B2 :=
  ej_iic ha hb op_mulW hc fun _ => .int _
theorem ej_fdiv {i j : Int} (ha : EJ X Γ B a (.da (.int i)) B1) (hb : EJ X Γ B1 b (.da (.int j)) B2) (hc : CDivW i j) : EJ X Γ B (.BinOp a .FloorDiv b pos) (.da (.int (i / j))) B2 :=
  ej_iic ha hb op_fdivW hc fun _ => .int _
theorem ej_mod {i j : Int} (ha : EJ X Γ B a (.da (.int i)) B1) (hb : EJ X Γ B1 b (.da (.int j)) B2) (hc : 0 < j) : EJ X Γ B (.BinOp a .Mod b pos) (.da (.int (i % j))) B2 :=
  ej_iic ha hb op_mod hc fun _ => .int _
theorem ej_pow {i j : Int} (ha : EJ X Γ B a (.da (.int i)) B1) (hb : EJ X Γ B1 b (.da (.int j)) B2) (hc : CPow i j) : EJ X Γ B (.BinOp a .Pow b pos) (.da (.int (i ^ j.toNat))) B2 :=
  ej_iic ha hb op_pow hc fun _ => .int _
theorem ej_neg {i : Int} (ha : EJ X Γ B a (.da (.int i)) B1) : EJ X Γ B (.UnaryOp .USub a pos) (.da (.int (-i))) B1 :=
  ej_un ha (fun _ h => pe_un un_neg h) fun g v H0 H O r Q q => ⟨i, rvI r, q _ H0 H To.refl O (Rp.int _)⟩
theorem ej_cmpI {i j : Int} {z : Int → Int → V} {y : PyData} {op : CmpOp} (ha : EJ X Γ B a (.da (.int i)) B1) (hb : EJ X Γ B1 b (.da (.int j)) B2)
    (ho : OpR X (compareOp op) (rI0 z)) (hz : ∀ H0, Rp X.K H0 (z i j) y) (hm : behindInMarks op b = false) : EJ X Γ B (.Compare a [op] [b] pos) (.da y) B2 :=
  ej_bin ha hb (fun _ _ h1 h2 => pe_cmpR ho h1 h2 hm) fun g v w H0 H O r1 r2 Q q => ⟨i, j, rvI r1, rvI r2, q _ H0 H To.refl O (hz H0)⟩
theorem ej_le {i j : Int} (ha : EJ X Γ B a (.da (.int i)) B1) (hb : EJ X Γ B1 b (.da (.int j)) B2) : EJ X Γ B (.Compare a [.LtE] [b] pos) (.da (.bool (decide (i ≤ j)))) B2 :=
  ej_cmpI ha hb op_le (fun _ => .bl _) (nomark _)
theorem ej_gt {i j : Int} (ha : EJ X Γ B a (.da (.int i)) B1) (hb : EJ X Γ B1 b (.da (.int j)) B2) : EJ X Γ B (.Compare a [.Gt] [b] pos) (.da (.bool (decide (j < i)))) B2 :=
  ej_cmpI ha hb op_gt (fun _ => .bl _) (nomark _)
theorem ej_ge {i j : Int} (ha : EJ X Γ B a (.da (.int i)) B1) (hb : EJ X Γ B1 b (.da (.int j)) B2) : EJ X Γ B (.Compare a [.GtE] [b] pos) (.da (.bool (decide (j ≤ i)))) B2 :=
  ej_cmpI ha hb op_ge (fun _ => .bl _) (nomark _)
theorem ej_eq {x y : PyData} (hu : X.A.units + 64 < cLine) (ha : EJ X Γ B a (.da x) B1) (hb : EJ X Γ B1 b (.da y) B2) (hx : SeqAt.shaped x = true) (hy : SeqAt.shaped y = true) :
    EJ X Γ B (.Compare a [.Eq] [b] pos) (.da (.bool (PyData.eqv x y))) B2 :=
  ej_bin ha hb (fun _ _ h1 h2 => pe_cmpR (op_eqD hu) h1 h2 (nomark _)) fun g v w H0 H O r1 r2 Q q =>
    ⟨x, y, (Rp.mono O.ex r1).dp (nd_shaped hx), (Rp.mono O.ex r2).dp (nd_shaped hy), hx, hy, q _ H0 H To.refl O (Rp.bl _)⟩
theorem ej_eqI {i j : Int} (hu : X.A.units + 64 < cLine) (ha : EJ X Γ B a (.da (.int i)) B1) (hb : EJ X Γ B1 b (.da (.int j)) B2) : EJ X Γ B (.Compare a [.Eq] [b] pos) (.da (.bool (decide (i = j)))) B2 := by
  have h := ej_eq (pos := pos) hu ha hb rfl rfl
  have e : PyData.eqv (.int i) (.int j) = decide (i = j) := by simp only [PyData.eqv]; exact Bool.beq_eq_decide_eq i j
  rw [e] at h; exact h
theorem ej_eqS {i j : Str} (ha : EJ X Γ B a (.da (.str i)) B1) (hb : EJ X Γ B1 b (.da (.str j)) B2) : EJ X Γ B (.Compare a [.Eq] [b] pos) (.da (.bool (decide (i = j)))) B2 :=
  ej_bin ha hb (fun _ _ h1 h2 => pe_cmpR op_eq h1 h2 (nomark _)) fun g v w H0 H O r1 r2 Q q => by
    rw [rvS r1, rvS r2]
    have e : decide (V.str i = V.str j) = decide (i = j) := by
      by_cases h : i = j
      · subst h; simp
      · rw [decide_eq_false h, decide_eq_false fun z => h (V.str.inj z)]
    refine ⟨rfl, ?_⟩
    rw [e]; exact q _ H0 H To.refl O (Rp.bl _)
theorem ej_ixT {ds : List PyData} {i : Int} {y : PyData} (ha : EJ X Γ B a (.da (.tuple ds)) B1) (hb : EJ X Γ B1 b (.da (.int i)) B2) (h : atI ds i = some y) (hs : PlainIx b) :
    EJ X Γ B (.Subscript a b pos) (.da y) B2 :=
  ej_bin ha hb (fun _ _ h1 h2 => pe_ix ix_tup h1 h2 hs) fun g v w H0 H O r1 r2 Q q => by
    obtain ⟨p, xs, rfl, hx, rs⟩ := rvT r1
    obtain ⟨j, h1, h2⟩ := Option.bind_eq_some_iff.mp h
    rw [← rs.length] at h1
    obtain ⟨z, h3, h4⟩ := rs.getD h2
    exact ⟨p, xs, i, z, rfl, rvI r2, seqT O.ex hx, Option.bind_eq_some_iff.mpr ⟨j, h1, h3⟩, q z H0 H To.refl O h4⟩
theorem ej_ixL {ds : List PyData} {i : Int} {y : PyData} (ha : EJ X Γ B a (.da (.list ds)) B1) (hb : EJ X Γ B1 b (.da (.int i)) B2) (h : atI ds i = some y) (hs : PlainIx b) :
    EJ X Γ B (.Subscript a b pos) (.da y) B2 :=
  ej_bin ha hb (fun _ _ h1 h2 => pe_ix ix_list h1 h2 hs) fun g v w H0 H O r1 r2 Q q => by
    obtain ⟨p, xs, rfl, hx, rs⟩ := rvL r1
    obtain ⟨j, h1, h2⟩ := Option.bind_eq_some_iff.mp h
    rw [← rs.length] at h1
    obtain ⟨z, h3, h4⟩ := rs.getD h2
    exact ⟨p, xs, i, z, rfl, rvI r2, SqL.of (O.ex _ _ hx), Option.bind_eq_some_iff.mpr ⟨j, h1, h3⟩, q z H0 H To.refl O h4⟩
theorem aj_nil : AJ X Γ B [] [] B := fun g σ H0 H _ O Q q => ⟨_, pa_nil, q [] H0 H To.refl O trivial⟩
theorem aj_cons {ds : List VD} (h : EJ X Γ B e d B1) (r : AJ X Γ B1 es ds B2) (hs : starEach (e :: es) X.env = (false, eval e X.env) :: starEach es X.env := by rfl) :
    AJ X Γ B (e :: es) (d :: ds) B2 := fun g σ H0 H E O Q q =>
  ⟨_, pa_cons (we e) (wa es) hs, h g σ H0 H E O _ fun v H1 H' t o rv => r g σ H1 H' (E.mono t.ex) o _ fun vs H2 H'' t2 o2 rs => q (v :: vs) H2 H'' (t.trans t2) o2 ⟨rv.mono t2.ex, rs⟩⟩
theorem RvAll.dat {K : PySem.W.Frag} {g : Gh} {H0 : Hp} : ∀ {vs : List V} {ds : List PyData}, RvAll K g H0 vs (ds.map .da) → RpAll K H0 vs ds
  | [], [], _ => .nil
  | _ :: _, _ :: _, h => .cons h.1 (RvAll.dat h.2)
  | [], _ :: _, h => h.elim
  | _ :: _, [], h => h.elim
theorem ej_tup {ds : List PyData} {k} (h : AJ X Γ B es (ds.map .da) B1) (hl : ds.length ≤ 1000) : EJ X Γ B (.Tuple es k pos) (.da (.tuple ds)) B1 := fun g σ H0 H E O Q q =>
  ⟨_, pe_tup (wa es), h g σ H0 H E O _ fun vs H1 H' t o rs => by
    have rs := RvAll.dat rs
    refine ⟨by rw [rs.length]; exact Nat.le_of_lt (small1000 hl), fun p n => ?_⟩
    obtain ⟨t2, o2⟩ := laid (o := .tup vs) o n
    exact q _ _ _ (t.trans t2) o2 (Rp.tup (SqT.of upd_same) (rs.mono t2.ex))⟩
theorem ej_lst {ds : List PyData} (h : AJ X Γ B es (ds.map .da) B1) (hl : ds.length ≤ 1000) : EJ X Γ B (.List es pos) (.da (.list ds)) B1 := fun g σ H0 H E O Q q =>
  ⟨_, pe_lst (wa es), h g σ H0 H E O _ fun vs H1 H' t o rs => by
    have rs := RvAll.dat rs
    refine ⟨by rw [rs.length]; exact Nat.le_of_lt (small1000 hl), fun p n => ?_⟩
    obtain ⟨t2, o2⟩ := laid (o := .lst vs) o n
    exact q _ _ _ (t.trans t2) o2 (Rp.lst upd_same (rs.mono t2.ex))⟩
theorem ej_catL {ds es' : List PyData} (ha : EJ X Γ B a (.da (.list ds)) B1) (hb : EJ X Γ B1 b (.da (.list es')) B2) (hl : ds.length + es'.length ≤ 1000) :
    EJ X Γ B (.BinOp a .Add b pos) (.da (.list (ds ++ es'))) B2 :=
  ej_bin ha hb (fun _ _ h1 h2 => pe_op op_cat h1 h2) fun g v w H0 H O r1 r2 Q q => by
    obtain ⟨p, xs, rfl, hx, rs⟩ := rvL r1
    obtain ⟨p2, ys, rfl, hy, rs2⟩ := rvL r2
    refine ⟨p, p2, xs, ys, rfl, rfl, O.ex _ _ hx, O.ex _ _ hy, by rw [rs.length, rs2.length]; exact Nat.le_of_lt (small1000 hl), fun n hn => ?_⟩
    obtain ⟨t2, o2⟩ := laid (o := .lst (xs ++ ys)) O hn
    exact q _ _ _ t2 o2 (Rp.lst upd_same ((rs.app rs2).mono t2.ex))
end
end Gd
namespace Gd
open PySem PySem.Spec PyProof.Rows L2
structure FnG (P : Program) (w : World) (K : PySem.W.Frag) (mg : Str → Option Value)
    (base : Heap) (k : Nat) (f : Addr) (fd : FuncData) (ps : List Str) (sp : Sp) : Prop where
  len : ∀ vs H Q E, sp vs H Q E → List.length vs = ps.length
  run : ∀ (A : Around) (out : List Env) (s : Shared) (H : Hp) (args : Args) (us : List Value) (vs : List V) (Q : VK) (E : XK),
    A.guards = some [] → Room k A → Env0 P w K mg base A out s H → BindsTo s fd args (ps.zip us) →
    Vals vs us → sp vs H Q E → codeAny (model P w) A (.call (.ref f) args) (CR CX0 out P w H s Q E) s
theorem FnG.le {P : Program} {w : World} {K : PySem.W.Frag} {mg : Str → Option Value} {base : Heap} {j k : Nat} {f : Addr} {fd : FuncData} {ps : List Str} {sp : Sp}
    (F : FnG P w K mg base j f fd ps sp) (h : j ≤ k) : FnG P w K mg base k f fd ps sp :=
  ⟨F.len, fun A o s H ar us vs Q E hg hr => F.run A o s H ar us vs Q E hg (hr.mono h)⟩
structure Gx (k : Nat) (X : Cx) : Prop where
  gd : X.A.guards = some []
  rm : Room k X.A
  nd : X.N.Nodup
  calm : X.calm = true
theorem Gx.hu {k : Nat} {X : Cx} (g : Gx k X) : X.A.units + 64 < cLine := g.rm.units
theorem Gx.le {j k : Nat} {X : Cx} (g : Gx k X) (h : j ≤ k) : Gx j X := ⟨g.gd, g.rm.mono h, g.nd, g.calm⟩
theorem runG {X : Cx} {k : Nat} {f : Addr} {fd : FuncData} {ps : List Str} {sp : Sp} {E : XK} {pins : List (Addr × Obj)} {σ : L2.St} {H : Hp} {s : Shared}
    {Q : VK} {us : List Value} {vs : List V} (F : FnG X.prog X.w X.K X.mg X.base k f fd ps sp) (g : Gx k X) (hb : Binds X.K fd ps [])
    (I : Inv X pins σ H s) (r : Vals vs us) (h : sp vs H Q E) : wpAny (model X.prog X.w) X.A (call (.ref f) us) (EP X pins σ Q) X.xe s := by
  have e : us.length = ps.length := r.length.symm.trans (F.len _ _ _ _ h)
  have hz := hb s us I.kIn (by rw [List.append_nil]; exact e)
  rw [List.append_nil] at hz
  have cc := F.run X.A X.stack s H ⟨us, []⟩ us vs Q E g.gd g.rm I.env0 hz r h
  refine wpAny_call (codeAny_mono cc fun res s2 q => ?_)
  match res, q with
  | .ok (.ret _), q => exact I.after q
  | .ok .next, q => exact q.elim
  | .ok .brk, q => exact q.elim
  | .ok .cont, q => exact q.elim
  | .error _, q => exact q.elim
theorem fnG_of {P : Program} {w : World} {K : PySem.W.Frag} {mg : Str → Option Value} {base : Heap} {x qual : Str} {st : Stmt} {f : Addr} {fd : FuncData}
    {N ps : List Str} {k : Nat} {sp : Sp} (F : Fun K x qual st f fd) (S : FnScope N ps (defScope st)) (len : ∀ vs H Q E, sp vs H Q E → vs.length = ps.length)
    (body : ∀ (cdv : Value) (A : Around) (out : List Env) (s : Shared) (H : Hp) (vs : List V) (Q : VK) (E : XK),
      Gx k (cxOf CX0 P w K mg base N qual (defScope st) f cdv A out s H E).nox → sp vs H Q E →
      WS (cxOf CX0 P w K mg base N qual (defScope st) f cdv A out s H E).nox (defBody st) { nx := fun _ H' => Q .non H', rt := Q } (L2.start N vs) H) :
    FnG P w K mg base (k + 1) f fd ps sp := by
  obtain ⟨c1, c2, c3, c4, c5, c6, cdv, c8, c9, rfl, lk, hcd⟩ := F.ex
  refine ⟨len, ?_⟩
  intro A out s H args us vs Q E hg hr e0 hb r hsp
  have up : ∀ b o, base.get? b = some o → s.heap.get? b = some o := fun b o e => (e0.bs b o e).1
  have KX : K.In s.heap := e0.mod.kin.keeps up
  have lim : s.heap.NoLimit := e0.mod.nolimit.keeps up
  have kinds : ∀ y ∈ ps.zip us, (defScope st).names.lookup y.1 = some .local ∨
      ((defScope st).names.lookup y.1 = some .cell ∧ ((cellsFrom (s.heap.objs.size + 1) (defScope st).names []).lookup y.1).isSome = true) := by
    rintro ⟨n, v⟩ hy
    cases S.par n (List.of_mem_zip hy).1 with
    | inl q => exact .inl q
    | inr q => exact .inr ⟨q, PySem.W.cellsFrom_some _ _ _ (.inl q)⟩
  have recd := PySem.W.codeRec_of KX hcd
  refine codeAny_call_function hr.depth (KX _ _ lk) rfl S.co S.gen rfl recd (hb _ _ _ _ ?_)
  refine wpAny_newFunctionEnv_cells S.kind kinds fun env he s1 x1 => ?_
  subst he
  refine ⟨lim.keeps x1.toInCall.keep, codeAny_func ?_⟩
  have I := inv_start (CX := CX0) (E := E) (qual := qual) (f := f) (cd := cdv) S hr.hd e0 (len _ _ _ _ hsp) r x1
  have G : Gx k (cxOf CX0 P w K mg base N qual (defScope st) f cdv A out s H E).nox := ⟨hg, hr.deeper _, S.nd, rfl⟩
  obtain ⟨t, ht, hq⟩ := body cdv A out s H vs Q E G hsp
  refine wpAny_mono (ht.nox.run [] s1 (L2.start N vs) H _ I hq) (fun fl s2 q => ?_) (fun _ _ q => q)
  match fl, q with
  | .ret u, ⟨v, σ', H', J, rv, q⟩ => exact ⟨v, H', J.os, J.bare, J.base, J.hok, rv, q⟩
  | .next, ⟨σ', H', J, q⟩ => exact ⟨.non, H', J.os, J.bare, J.base, J.hok, rfl, q⟩
  | .brk, ⟨_, _, _, q⟩ => exact q.elim
  | .cont, ⟨_, _, _, q⟩ => exact q.elim
abbrev Rel := List VD → Bag → PyData → Bag → Prop
def DefSp (K : PySem.W.Frag) (R : Rel) : Sp := fun vs H Q _ =>
  ∃ g Γ B H0 r B', RvAll K g H0 vs Γ ∧ On K g B H0 H ∧ R Γ B r B' ∧
    ∀ v H0' H', To g H0 H H0' H' → On K g B' H0' H' → Rp K H0' v r → Q v H'
def Cal (P : Program) (w : World) (K : PySem.W.Frag) (mg : Str → Option Value) (base : Heap) (x : Str) (k : Nat) (R : Rel) : Prop :=
  ∃ f fd ps, FnG P w K mg base k f fd ps (DefSp K R) ∧ mg x = some (.ref f) ∧ PySem.W.keepIn K (.ref f) = true ∧ Binds K fd ps []
theorem Cal.imp {P : Program} {w : World} {K : PySem.W.Frag} {mg : Str → Option Value} {base : Heap} {x : Str} {k : Nat} {R R' : Rel}
    (c : Cal P w K mg base x k R) (h : ∀ Γ B r B', R' Γ B r B' → R Γ B r B') : Cal P w K mg base x k R' := by
  obtain ⟨f, fd, ps, F, h1, h2, h3⟩ := c
  refine ⟨f, fd, ps, ⟨?_, ?_⟩, h1, h2, h3⟩
  · rintro vs H Q E ⟨g, Γ, B, H0, r, B', a, b, c, d⟩
    exact F.len vs H Q E ⟨g, Γ, B, H0, r, B', a, b, h _ _ _ _ c, d⟩
  · intro A o s H ar us vs Q E q1 q2 q3 q4 q5 ⟨g, Γ, B, H0, r, B', a, b, c, d⟩
    exact F.run A o s H ar us vs Q E q1 q2 q3 q4 q5 ⟨g, Γ, B, H0, r, B', a, b, h _ _ _ _ c, d⟩
theorem start_env {K : PySem.W.Frag} {g : Gh} {H0 : Hp} {N : List Str} {vs : List V} {Γ : List VD} (h : RvAll K g H0 vs Γ) (hl : Γ.length ≤ N.length) :
    EnvD K g H0 (L2.start N vs) (Γ ++ List.replicate (N.length - Γ.length) .no) := by
  have e := h.length
  refine ⟨?_, ?_⟩
  · unfold L2.start; rw [List.length_append, List.length_append, List.length_map, List.length_replicate, List.length_replicate]; omega
  · have : ∀ (vs : List V) (Γ : List VD) (m n : Nat), RvAll K g H0 vs Γ → ∀ (i : Nat) (d : VD), (Γ ++ List.replicate m .no)[i]? = some d → d ≠ .no →
        ∃ v : V, (vs.map some ++ List.replicate n (none : Option V))[i]? = some (some v) ∧ Rv K g H0 v d := by
      intro vs
      induction vs with
      | nil =>
        intro Γ m n h i d h1 h2
        cases Γ with
        | nil =>
          rw [List.nil_append, List.getElem?_replicate] at h1
          split at h1
          · cases h1; exact absurd rfl h2
          · cases h1
        | cons _ _ => exact h.elim
      | cons v vs ih =>
        intro Γ m n h i d h1 h2
        cases Γ with
        | nil => exact h.elim
        | cons d' Γ =>
          cases i with
          | zero => cases h1; exact ⟨v, rfl, h.1⟩
          | succ i => exact ih Γ m n h.2 i d h1 h2
    unfold L2.start
    exact this vs Γ _ _ h
theorem cal_of {P : Program} {w : World} {K : PySem.W.Frag} {mg : Str → Option Value} {base : Heap} {x qual : Str} {st : Stmt} {f : Addr} {fd : FuncData}
    {N ps : List Str} {k : Nat} {R : Rel} (F : Fun K x qual st f fd) (hm : mg x = some (.ref f)) (hb : Binds K fd ps []) (S : FnScope N ps (defScope st))
    (len : ∀ Γ B r B', R Γ B r B' → Γ.length = ps.length)
    (body : ∀ (cdv : Value) (A : Around) (out : List Env) (s : Shared) (H : Hp) (E : XK),
      Gx k (cxOf CX0 P w K mg base N qual (defScope st) f cdv A out s H E).nox → ∀ Γ B r B', R Γ B r B' →
      SJ (cxOf CX0 P w K mg base N qual (defScope st) f cdv A out s H E).nox (Γ ++ List.replicate (N.length - ps.length) .no) B (defBody st)
        { nx := fun _ B2 => r = .none ∧ B2 = B', rt := fun d B2 => d = r ∧ B2 = B' }) :
    Cal P w K mg base x (k + 1) R := by
  have hpl : ps.length ≤ N.length := by
    have := congrArg List.length S.pre
    rw [List.length_take] at this; omega
  refine ⟨f, fd, ps, fnG_of F S ?_ ?_, hm, F.kp, hb⟩
  · rintro vs H Q E ⟨g, Γ, B, H0, r, B', a, b, c, d⟩
    rw [a.length]; exact len _ _ _ _ c
  · intro cdv A out s H vs Q E G ⟨g, Γ, B, H0, r, B', a, b, c, d⟩
    have hl := len _ _ _ _ c
    have E0' := start_env (N := N) a (by rw [hl]; exact hpl)
    rw [hl] at E0'
    refine body cdv A out s H E G Γ B r B' c g _ H0 H E0' b _ ⟨?_, ?_, ?_, ?_⟩
    · rintro Γ2 B2 σ H1 H' ⟨rfl, rfl⟩ t _ o
      exact d _ _ _ t o .non
    · rintro r2 B2 v H1 H' ⟨rfl, rfl⟩ t o rv
      exact d _ _ _ t o rv
    · intro _ _ _ _ _ z; exact z.elim
    · intro _ _ _ _ _ z; exact z.elim
section
variable {X : Cx} {Γ : List VD} {B B1 B2 B' : Bag} {e a b c : Expr} {es : List Expr} {d da db dc : VD} {pos p pos' : Pos} {rest ss s1 s2 : List Stmt} {E : En}
theorem ej_call {x : Str} {k : Nat} {R : Rel} {ds : List VD} {r : PyData} (c : Cal X.prog X.w X.K X.mg X.base x k R) (g : Gx k X) (ha : AJ X Γ B (e :: es) ds B1) (hR : R ds B1 r B2)
    (hg : Gl X x := by rfl) (hdb : (x == ("__debug__" : Str)) = false := by decide) (he : starEach (e :: es) X.env = (false, eval e X.env) :: starEach es X.env := by rfl)
    (hpl : (backTo pos (starEach es X.env)).any (·.1) = false := by rfl) : EJ X Γ B (.Call (.Name x p) (e :: es) [] pos) (.da r) B2 := by
  obtain ⟨f, fd, ps, F, hm, hk, hb⟩ := c
  intro gh σ H0 H E O Q q
  refine ⟨fun σ H Q => WA X (e :: es) σ H fun vs H1 => DefSp X.K R vs H1 Q E0, ⟨fun pins s σ H Q I h => ?_⟩, ?_⟩
  · refine wpAny_Call_Name_kw (ld_glob I hg hm ?_ hdb)
    refine PySem.W.callWith_K (h₀ := X.base) I.ok.mod.kin hk (thn ((wa (e :: es)).run pos pins s σ H _ I h) ?_) he hpl
    rintro us s1 ⟨vs, H1, I1, r1, q1⟩
    exact ⟨I1.kIn, runG F g hb I1 r1 q1⟩
  · refine ha gh σ H0 H E O _ fun vs H1 H' t o rs => ?_
    exact ⟨gh, ds, B1, H1, r, B2, rs, o, hR, fun v H2 H'' t2 o2 rv => q v H2 H'' (t.trans t2) o2 rv⟩
theorem ej_callB {x : Str} {id : String} {r : List V → Hp → VK → Prop} {ds : List VD} (hc : CallR X (.builtin id) r) (hm : X.mg x = none) (ha : AJ X Γ B (e :: es) ds B1)
    (hr : ∀ g vs H0 H, On X.K g B1 H0 H → RvAll X.K g H0 vs ds → ∀ Q : VK, (∀ z H0' H', To g H0 H H0' H' → On X.K g B1 H0' H' → Rv X.K g H0' z d → Q z H') → r vs H Q)
    (hv : bootBuiltins x = some (.builtin id) := by decide +kernel) (hg : Gl X x := by rfl) (hn : x ≠ "__name__" := by decide) (hdb : (x == ("__debug__" : Str)) = false := by decide)
    (hpl : (backTo pos (starEach es X.env)).any (·.1) = false := by rfl) (he : starEach (e :: es) X.env = (false, eval e X.env) :: starEach es X.env := by rfl) :
    EJ X Γ B (.Call (.Name x p) (e :: es) [] pos) d B1 := fun g σ H0 H E O Q q =>
  ⟨_, pe_callB hc hg hm hv (wa (e :: es)) hn hdb he hpl, ha g σ H0 H E O _ fun vs H1 H' t o rs => hr g vs H1 H' o rs Q fun z H2 H'' t2 o2 rz => q z H2 H'' (t.trans t2) o2 rz⟩
theorem ej_callTy {x : Str} {T : String} {r : List V → Hp → VK → Prop} {ds : List VD} (hc : CallR X (.type T) r) (hm : X.mg x = none) (ha : AJ X Γ B (e :: es) ds B1)
    (hr : ∀ g vs H0 H, On X.K g B1 H0 H → RvAll X.K g H0 vs ds → ∀ Q : VK, (∀ z H0' H', To g H0 H H0' H' → On X.K g B1 H0' H' → Rv X.K g H0' z d → Q z H') → r vs H Q)
    (hv : bootBuiltins x = some (.type T) := by decide +kernel) (hg : Gl X x := by rfl) (hn : x ≠ "__name__" := by decide) (hdb : (x == ("__debug__" : Str)) = false := by decide)
    (hpl : (backTo pos (starEach es X.env)).any (·.1) = false := by rfl) (he : starEach (e :: es) X.env = (false, eval e X.env) :: starEach es X.env := by rfl) :
    EJ X Γ B (.Call (.Name x p) (e :: es) [] pos) d B1 := fun g σ H0 H E O Q q =>
  ⟨_, pe_callTy hc hg hm hv (wa (e :: es)) hn hdb he hpl, ha g σ H0 H E O _ fun vs H1 H' t o rs => hr g vs H1 H' o rs Q fun z H2 H'' t2 o2 rz => q z H2 H'' (t.trans t2) o2 rz⟩
theorem rv1 {K : PySem.W.Frag} {g : Gh} {H0 : Hp} {vs : List V} {d : VD} (h : RvAll K g H0 vs [d]) : ∃ v, vs = [v] ∧ Rv K g H0 v d := by
  match vs, h with
  | [v], h => exact ⟨v, rfl, h.1⟩
theorem rv2 {K : PySem.W.Frag} {g : Gh} {H0 : Hp} {vs : List V} {d d' : VD} (h : RvAll K g H0 vs [d, d']) : ∃ v v', vs = [v, v'] ∧ Rv K g H0 v d ∧ Rv K g H0 v' d' := by
  match vs, h with
  | [v, v'], h => exact ⟨v, v', rfl, h.1, h.2.1⟩
theorem ej_abs {i : Int} (hm : X.mg "abs" = none) (ha : EJ X Γ B a (.da (.int i)) B1) (hs : starEach [a] X.env = [(false, eval a X.env)] := by rfl) (hg : Gl X "abs" := by rfl) :
    EJ X Γ B (.Call (.Name "abs" p) [a] [] pos) (.da (.int (if i < 0 then -i else i))) B1 :=
  ej_callB call_abs hm (aj_cons ha aj_nil hs) (fun g vs H0 H O r Q q => by
    obtain ⟨v, rfl, h⟩ := rv1 r
    exact ⟨i, by rw [rvI h], q _ _ _ To.refl O (Rp.int _)⟩) (hg := hg) (he := hs)
theorem ej_int1 {i : Int} (hm : X.mg "int" = none) (ha : EJ X Γ B a (.da (.int i)) B1) (hs : starEach [a] X.env = [(false, eval a X.env)] := by rfl) (hg : Gl X "int" := by rfl) :
    EJ X Γ B (.Call (.Name "int" p) [a] [] pos) (.da (.int i)) B1 :=
  ej_callTy call_int1 hm (aj_cons ha aj_nil hs) (fun g vs H0 H O r Q q => by
    obtain ⟨v, rfl, h⟩ := rv1 r
    exact .inl ⟨i, by rw [rvI h], q _ _ _ To.refl O (Rp.int _)⟩) (hg := hg) (he := hs)
theorem ej_lenL {ds : List PyData} (hm : X.mg "len" = none) (ha : EJ X Γ B a (.da (.list ds)) B1) (hs : starEach [a] X.env = [(false, eval a X.env)] := by rfl) (hg : Gl X "len" := by rfl) :
    EJ X Γ B (.Call (.Name "len" p) [a] [] pos) (.da (.int ds.length)) B1 :=
  ej_callB call_len_seq hm (aj_cons ha aj_nil hs) (fun g vs H0 H O r Q q => by
    obtain ⟨v, rfl, h⟩ := rv1 r
    obtain ⟨p, xs, rfl, hx, rs⟩ := rvL h
    refine ⟨p, xs, rfl, .inl (SqL.of (O.ex _ _ hx)), ?_⟩
    rw [rs.length]; exact q _ _ _ To.refl O (Rp.int _)) (hg := hg) (he := hs)
theorem ej_lenT {ds : List PyData} (hm : X.mg "len" = none) (ha : EJ X Γ B a (.da (.tuple ds)) B1) (hs : starEach [a] X.env = [(false, eval a X.env)] := by rfl) (hg : Gl X "len" := by rfl) :
    EJ X Γ B (.Call (.Name "len" p) [a] [] pos) (.da (.int ds.length)) B1 :=
  ej_callB call_len_seq hm (aj_cons ha aj_nil hs) (fun g vs H0 H O r Q q => by
    obtain ⟨v, rfl, h⟩ := rv1 r
    obtain ⟨p, xs, rfl, hx, rs⟩ := rvT h
    refine ⟨p, xs, rfl, .inr (seqT O.ex hx), ?_⟩
    rw [rs.length]; exact q _ _ _ To.refl O (Rp.int _)) (hg := hg) (he := hs)
def boxed : PyData → Bool
  | .list _ => true
  | .tuple _ => true
  | _ => false
theorem tj_val {x : Bool} (h : EJ X Γ B e (.da (.bool x)) B1) (he : ∀ whole, isTrue e X.env whole = (do let v ← whole; standAt e.pos; holding [v] (truthy v)) := by intro _; rfl) :
    TJ X Γ B e x B1 := fun g σ H0 H E O Q q => ⟨_, pt_val (we e) he, h g σ H0 H E O _ fun v H1 H' t o r => ⟨x, rvB r, q H1 H' t o⟩⟩
theorem tj_cmp {op : CmpOp} {x : Bool} {r : R2} (ha : EJ X Γ B a da B1) (hb : EJ X Γ B1 b db B2) (ho : OpR X (compareOp op) r) (hm : behindInMarks op b = false)
    (hr : ∀ g v w H0 H, On X.K g B2 H0 H → Rv X.K g H0 v da → Rv X.K g H0 w db → ∀ Q : VK, (∀ H0' H', To g H0 H H0' H' → On X.K g B2 H0' H' → Q (.bl x) H') → r v w H Q) :
    TJ X Γ B (.Compare a [op] [b] pos) x B2 := fun g σ H0 H E O Q q =>
  ⟨_, pt_cmpR ho (we a) (we b) hm, ha g σ H0 H E O _ fun v H1 H' t o rv => hb g σ H1 H' (E.mono t.ex) o _ fun w H2 H'' t2 o2 rw' =>
    hr g v w H2 H'' o2 (rv.mono t2.ex) rw' _ fun H3 H3' t3 o3 => ⟨x, rfl, q H3 H3' ((t.trans t2).trans t3) o3⟩⟩
theorem tj_cmpI {i j : Int} {z : Int → Int → V} {y : Bool} {op : CmpOp} (ha : EJ X Γ B a (.da (.int i)) B1) (hb : EJ X Γ B1 b (.da (.int j)) B2)
    (ho : OpR X (compareOp op) (rI0 z)) (hz : z i j = .bl y) (hm : behindInMarks op b = false) : TJ X Γ B (.Compare a [op] [b] pos) y B2 :=
  tj_cmp ha hb ho hm fun g v w H0 H O r1 r2 Q q => ⟨i, j, rvI r1, rvI r2, by rw [hz]; exact q H0 H To.refl O⟩
theorem tj_lt {i j : Int} (ha : EJ X Γ B a (.da (.int i)) B1) (hb : EJ X Γ B1 b (.da (.int j)) B2) : TJ X Γ B (.Compare a [.Lt] [b] pos) (decide (i < j)) B2 := tj_cmpI ha hb op_lt rfl (nomark _)
theorem tj_le {i j : Int} (ha : EJ X Γ B a (.da (.int i)) B1) (hb : EJ X Γ B1 b (.da (.int j)) B2) : TJ X Γ B (.Compare a [.LtE] [b] pos) (decide (i ≤ j)) B2 := tj_cmpI ha hb op_le rfl (nomark _)
theorem tj_gt {i j : Int} (ha : EJ X Γ B a (.da (.int i)) B1) (hb : EJ X Γ B1 b (.da (.int j)) B2) : TJ X Γ B (.Compare a [.Gt] [b] pos) (decide (j < i)) B2 := tj_cmpI ha hb op_gt rfl (nomark _)
theorem tj_ge {i j : Int} (ha : EJ X Γ B a (.da (.int i)) B1) (hb : EJ X Γ B1 b (.da (.int j)) B2) : TJ X Γ B (.Compare a [.GtE] [b] pos) (decide (j ≤ i)) B2 := tj_cmpI ha hb op_ge rfl (nomark _)
theorem tj_eq {x y : PyData} (hu : X.A.units + 64 < cLine) (ha : EJ X Γ B a (.da x) B1) (hb : EJ X Γ B1 b (.da y) B2) (hx : SeqAt.shaped x = true) (hy : SeqAt.shaped y = true) :
    TJ X Γ B (.Compare a [.Eq] [b] pos) (PyData.eqv x y) B2 :=
  tj_cmp ha hb (op_eqD hu) (nomark _) fun g v w H0 H O r1 r2 Q q => ⟨x, y, (Rp.mono O.ex r1).dp (nd_shaped hx), (Rp.mono O.ex r2).dp (nd_shaped hy), hx, hy, q H0 H To.refl O⟩
theorem tj_ne {x y : PyData} (hu : X.A.units + 64 < cLine) (ha : EJ X Γ B a (.da x) B1) (hb : EJ X Γ B1 b (.da y) B2) (hx : SeqAt.shaped x = true) (hy : SeqAt.shaped y = true) :
    TJ X Γ B (.Compare a [.NotEq] [b] pos) (!PyData.eqv x y) B2 :=
  tj_cmp ha hb (op_neD hu) (nomark _) fun g v w H0 H O r1 r2 Q q => ⟨x, y, (Rp.mono O.ex r1).dp (nd_shaped hx), (Rp.mono O.ex r2).dp (nd_shaped hy), hx, hy, q H0 H To.refl O⟩
theorem eqv_int (i j : Int) : PyData.eqv (.int i) (.int j) = decide (i = j) := by
  simp only [PyData.eqv]; exact Bool.beq_eq_decide_eq i j
theorem tj_eqI {i j : Int} (hu : X.A.units + 64 < cLine) (ha : EJ X Γ B a (.da (.int i)) B1) (hb : EJ X Γ B1 b (.da (.int j)) B2) : TJ X Γ B (.Compare a [.Eq] [b] pos) (decide (i = j)) B2 := by
  rw [← eqv_int]; exact tj_eq hu ha hb rfl rfl
theorem tj_neI {i j : Int} (hu : X.A.units + 64 < cLine) (ha : EJ X Γ B a (.da (.int i)) B1) (hb : EJ X Γ B1 b (.da (.int j)) B2) : TJ X Γ B (.Compare a [.NotEq] [b] pos) (!decide (i = j)) B2 := by
  rw [← eqv_int]; exact tj_ne hu ha hb rfl rfl
theorem tj_eqS {i j : Str} (ha : EJ X Γ B a (.da (.str i)) B1) (hb : EJ X Γ B1 b (.da (.str j)) B2) : TJ X Γ B (.Compare a [.Eq] [b] pos) (decide (i = j)) B2 :=
  tj_cmp ha hb op_eq (nomark _) fun g v w H0 H O r1 r2 Q q => by
    rw [rvS r1, rvS r2]
    have e : decide (V.str i = V.str j) = decide (i = j) := by
      by_cases h : i = j
      · subst h; simp
      · rw [decide_eq_false h, decide_eq_false fun z => h (V.str.inj z)]
    refine ⟨rfl, ?_⟩
    rw [e]; exact q H0 H To.refl O
theorem tj_is {x y : Bool} (h : TJ X Γ B e x B1) (hxy : x = y) : TJ X Γ B e y B1 := hxy ▸ h
theorem ej_is {x y : PyData} (h : EJ X Γ B e (.da x) B1) (hxy : x = y) : EJ X Γ B e (.da y) B1 := hxy ▸ h
theorem tj_not {x : Bool} (h : TJ X Γ B e x B1) : TJ X Γ B (.UnaryOp .Not e pos) (!x) B1 := fun g σ H0 H E O Q q =>
  ⟨_, pt_not (wt e), h g σ H0 H E O _ fun H1 H' t o => q H1 H' t o⟩
def WW (X : Cx) (e : Expr) : TT := fun σ H Q => ∃ t, PW X e t ∧ t σ H Q
theorem ww {X : Cx} (e : Expr) : PW X e (WW X e) := ⟨fun w p s σ H Q I ⟨_, ht, h⟩ => ht.run w p s σ H Q I h⟩
def WJ (X : Cx) (Γ : List VD) (B : Bag) (e : Expr) (b : Bool) (B' : Bag) : Prop :=
  ∀ g σ H0 H, EnvD X.K g H0 σ Γ → On X.K g B H0 H → ∀ Q : Bool → Hp → Prop, (∀ H0' H', To g H0 H H0' H' → On X.K g B' H0' H' → Q b H') → WW X e σ H Q
theorem tj_w {x : Bool} (h : WJ X Γ B e x B1) : TJ X Γ B e x B1 := fun g σ H0 H E O Q q => let ⟨t, h1, h2⟩ := h g σ H0 H E O Q q; ⟨t, h1.pt, h2⟩
theorem wj_and1 {x : Bool} (h : TJ X Γ B e x B1) : WJ X Γ B (.BoolOp .And [e] pos) x B1 := fun g σ H0 H E O Q q => ⟨_, pw_and1 (wt e), h g σ H0 H E O Q q⟩
theorem wj_or1 {x : Bool} (h : TJ X Γ B e x B1) : WJ X Γ B (.BoolOp .Or [e] pos) x B1 := fun g σ H0 H E O Q q => ⟨_, pw_or1 (wt e), h g σ H0 H E O Q q⟩
theorem wj_and {x y : Bool} (h : TJ X Γ B e x B) (hr : x = true → WJ X Γ B (.BoolOp .And (a :: es) pos) y B) : WJ X Γ B (.BoolOp .And (e :: a :: es) pos) (x && y) B := fun g σ H0 H E O Q q =>
  ⟨_, pw_and (wt e) (ww _), h g σ H0 H E O _ fun H1 H' t o => by
    cases x with
    | true => exact iteT (hr rfl g σ H1 H' (E.mono t.ex) o Q fun H2 H'' t2 o2 => q H2 H'' (t.trans t2) o2)
    | false => exact iteF (q H1 H' t o)⟩
theorem wj_or {x y : Bool} (h : TJ X Γ B e x B) (hr : x = false → WJ X Γ B (.BoolOp .Or (a :: es) pos) y B) : WJ X Γ B (.BoolOp .Or (e :: a :: es) pos) (x || y) B := fun g σ H0 H E O Q q =>
  ⟨_, pw_or (wt e) (ww _), h g σ H0 H E O _ fun H1 H' t o => by
    cases x with
    | true => exact iteT (q H1 H' t o)
    | false => exact iteF (hr rfl g σ H1 H' (E.mono t.ex) o Q fun H2 H'' t2 o2 => q H2 H'' (t.trans t2) o2)⟩
theorem ej_one {op} (h : EJ X Γ B e d B1) : EJ X Γ B (.BoolOp op [e] pos) d B1 := fun g σ H0 H E O Q q => ⟨_, pe_one (we e), h g σ H0 H E O Q q⟩
theorem ej_and {x y : Bool} (h : EJ X Γ B e (.da (.bool x)) B1) (hr : x = true → EJ X Γ B1 (.BoolOp .And (a :: es) pos) (.da (.bool y)) B1) : EJ X Γ B (.BoolOp .And (e :: a :: es) pos) (.da (.bool (x && y))) B1 := fun g σ H0 H E O Q q =>
  ⟨_, pe_and (we e) (we _), h g σ H0 H E O _ fun v H1 H' t o r => ⟨x, rvB r, by
    cases x with
    | true => exact iteT (hr rfl g σ H1 H' (E.mono t.ex) o Q fun z H2 H'' t2 o2 r2 => q z H2 H'' (t.trans t2) o2 r2)
    | false => exact iteF (q _ H1 H' t o (Rp.bl _))⟩⟩
theorem ej_or {x y : Bool} (h : EJ X Γ B e (.da (.bool x)) B1) (hr : x = false → EJ X Γ B1 (.BoolOp .Or (a :: es) pos) (.da (.bool y)) B1) : EJ X Γ B (.BoolOp .Or (e :: a :: es) pos) (.da (.bool (x || y))) B1 := fun g σ H0 H E O Q q =>
  ⟨_, pe_or (we e) (we _), h g σ H0 H E O _ fun v H1 H' t o r => ⟨x, rvB r, by
    cases x with
    | true => exact iteT (q _ H1 H' t o (Rp.bl _))
    | false => exact iteF (hr rfl g σ H1 H' (E.mono t.ex) o Q fun z H2 H'' t2 o2 r2 => q z H2 H'' (t.trans t2) o2 r2)⟩⟩
theorem ej_not {x : Bool} (h : EJ X Γ B e (.da (.bool x)) B1) : EJ X Γ B (.UnaryOp .Not e pos) (.da (.bool (!x))) B1 := fun g σ H0 H E O Q q =>
  ⟨_, pe_not (we e), h g σ H0 H E O _ fun v H1 H' t o r => ⟨x, rvB r, q _ H1 H' t o (Rp.bl _)⟩⟩
theorem ej_if {x : Bool} (h : TJ X Γ B c x B1) (h1 : x = true → EJ X Γ B1 a d B2) (h2 : x = false → EJ X Γ B1 b d B2) : EJ X Γ B (.IfExp c a b pos) d B2 := fun g σ H0 H E O Q q =>
  ⟨_, pe_ifExp (wt c) (we a) (we b), h g σ H0 H E O _ fun H1 H' t o => by
    cases x with
    | true => exact iteT (h1 rfl g σ H1 H' (E.mono t.ex) o Q fun z H2 H'' t2 o2 r2 => q z H2 H'' (t.trans t2) o2 r2)
    | false => exact iteF (h2 rfl g σ H1 H' (E.mono t.ex) o Q fun z H2 H'' t2 o2 r2 => q z H2 H'' (t.trans t2) o2 r2)⟩
theorem sj_nil (h : E.nx Γ B) : SJ X Γ B [] E := fun g σ H0 H Ev O D G => ⟨_, pss_nil, G.nx Γ B σ H0 H h To.refl Ev O⟩
theorem sj_ret (h : EJ X Γ B e (.da da') B1) (hr : E.rt da' B1) : SJ X Γ B (.Return (some e) pos :: rest) E := fun g σ H0 H Ev O D G =>
  ⟨_, pss_cons (ps_ret (we e)) (ws rest), h g σ H0 H Ev O _ fun v H1 H' t o r => G.rt _ B1 v H1 H' hr t o r⟩
theorem sj_set (i : Nat) {x : Str} (nd : X.N.Nodup) (h : EJ X Γ B e d B1) (k : SJ X (Γ.set i d) B1 rest E) (hi : X.N[i]? = some x := by rfl)
    (hx : Loc X.env.scope x := by first | exact Or.inl rfl | exact Or.inr rfl) (hs : swapsWith e (some (.Name x pos')) pos.line X.env = pure false := by rfl)
    (hf : X.fn x = true ∨ X.env.scope.names.lookup x = some .local := by first | exact Or.inl rfl | exact Or.inr rfl) : SJ X Γ B (.Assign [.Name x pos'] e pos :: rest) E := fun g σ H0 H Ev O D G =>
  ⟨_, pss_cons (ps_set nd hi hx (we e) hs hf) (ws rest), h g σ H0 H Ev O _ fun v H1 H' t o r => k g _ H1 H' ((Ev.mono t.ex).set i r) o D (G.on t)⟩
theorem sj_if {x : Bool} (h : TJ X Γ B c x B1) (h1 : x = true → SJ X Γ B1 s1 { E with nx := fun Γ' B' => SJ X Γ' B' rest E }) (h2 : x = false → SJ X Γ B1 s2 { E with nx := fun Γ' B' => SJ X Γ' B' rest E }) :
    SJ X Γ B (.If c s1 s2 pos :: rest) E := fun g σ H0 H Ev O D G =>
  ⟨_, pss_cons (ps_if (wt c) (ws s1) (ws s2)) (ws rest), h g σ H0 H Ev O _ fun H1 H' t o => by
    have G' : Gets X { E with nx := fun Γ' B' => SJ X Γ' B' rest E } g H1 H' { D with nx := WS X rest D } :=
      ⟨fun Γ2 B2 σ2 H2 H'' q t2 ev o2 => q g σ2 H2 H'' ev o2 D (G.on (t.trans t2)), (G.on t).rt, (G.on t).bk, (G.on t).ct⟩
    cases x with
    | true => exact iteT (h1 rfl g σ H1 H' (Ev.mono t.ex) o _ G')
    | false => exact iteF (h2 rfl g σ H1 H' (Ev.mono t.ex) o _ G')⟩
theorem sj_when {x : Bool} (h : TJ X Γ B c x B1) (h1 : x = true → SJ X Γ B1 s1 { E with nx := fun Γ' B' => SJ X Γ' B' rest E }) (h2 : x = false → SJ X Γ B1 rest E) :
    SJ X Γ B (.If c s1 [] pos :: rest) E := sj_if h h1 fun e => sj_nil (h2 e)
theorem sj_mono {E' : En} (h : SJ X Γ B ss E) (h1 : ∀ Γ B, E.nx Γ B → E'.nx Γ B) (h2 : ∀ r B, E.rt r B → E'.rt r B) (h3 : ∀ Γ B, E.bk Γ B → E'.bk Γ B) (h4 : ∀ Γ B, E.ct Γ B → E'.ct Γ B) : SJ X Γ B ss E' :=
  fun g σ H0 H Ev O D G => h g σ H0 H Ev O D ⟨fun Γ B σ a b q => G.nx Γ B σ a b (h1 _ _ q), fun r B v a b q => G.rt r B v a b (h2 _ _ q), fun Γ B σ a b q => G.bk Γ B σ a b (h3 _ _ q), fun Γ B σ a b q => G.ct Γ B σ a b (h4 _ _ q)⟩
end
end Gd
namespace Gd
open PySem PySem.Spec PyProof.Rows L2
def cutP (ds : List PyData) (lo hi : Option Int) : List PyData := (ds.drop (HT.sIx ds.length 0 lo)).take (HT.sIx ds.length ds.length hi - HT.sIx ds.length 0 lo)
theorem RpAll.cut {K : PySem.W.Frag} {H : Hp} {xs : List V} {ds : List PyData} (r : RpAll K H xs ds) (lo hi : Option Int) : RpAll K H (cutV xs lo hi) (cutP ds lo hi) := by
  unfold cutV cutP
  rw [r.length]
  exact (r.drop _).take _
theorem RpAll.ints {K : PySem.W.Frag} {H : Hp} : ∀ ns : List Int, RpAll K H (ns.map V.int) (ns.map PyData.int)
  | [] => .nil
  | n :: ns => .cons (.int n) (RpAll.ints ns)
theorem RpAll.ints_of {K : PySem.W.Frag} {H : Hp} : ∀ {xs : List V} {ns : List Int}, RpAll K H xs (ns.map PyData.int) → xs = ns.map V.int
  | [], [], _ => rfl
  | _ :: _, n :: ns, .cons h r => by
    cases h
    rw [RpAll.ints_of r]; rfl
section
variable {X : Cx} {Γ : List VD} {B B1 B2 B3 B' : Bag} {e a b c : Expr} {es : List Expr} {d da db dc : VD} {pos p pos' : Pos} {rest ss s1 s2 : List Stmt} {E : En}
def OJ (X : Cx) (Γ : List VD) (B : Bag) (o : Option Expr) (v : Option Int) (B' : Bag) : Prop :=
  ∀ g σ H0 H, EnvD X.K g H0 σ Γ → On X.K g B H0 H → ∀ Q : Option Int → Hp → Prop,
    (∀ H0' H', To g H0 H H0' H' → On X.K g B' H0' H' → Q v H') → ∃ t, PO X o t ∧ t σ H Q
theorem oj_none : OJ X Γ B none none B := fun g σ H0 H _ O Q q => ⟨_, po_none, q H0 H To.refl O⟩
theorem oj_some {i : Int} (h : EJ X Γ B e (.da (.int i)) B1) : OJ X Γ B (some e) (some i) B1 := fun g σ H0 H E O Q q =>
  ⟨_, po_some (we e), h g σ H0 H E O _ fun v H1 H' t o r => ⟨i, rvI r, q H1 H' t o⟩⟩
def WO (X : Cx) (o : Option Expr) : TO := fun σ H Q => ∃ t, PO X o t ∧ t σ H Q
theorem wo (o : Option Expr) : PO X o (WO X o) := ⟨fun p s σ H Q I ⟨_, ht, h⟩ => ht.run p s σ H Q I h⟩
theorem ej_slice {r : V → Option Int → Option Int → Hp → VK → Prop} {lo hi : Option Expr} {l u : Option Int} {p2 : Pos} (hr : SlR X r) (ha : EJ X Γ B a da B1) (hl : OJ X Γ B1 lo l B2) (hu : OJ X Γ B2 hi u B3)
    (k : ∀ g v H0 H, On X.K g B3 H0 H → Rv X.K g H0 v da → ∀ Q : VK, (∀ z H0' H', To g H0 H H0' H' → On X.K g B3 H0' H' → Rv X.K g H0' z d → Q z H') → r v l u H Q) :
    EJ X Γ B (.Subscript a (.Slice lo hi none p2) pos) d B3 := fun g σ H0 H E O Q q =>
  ⟨_, pe_slice hr (we a) (wo lo) (wo hi), ha g σ H0 H E O _ fun v H1 H' t o rv => hl g σ H1 H' (E.mono t.ex) o _ fun H2 H'' t2 o2 =>
    hu g σ H2 H'' (E.mono (t.trans t2).ex) o2 _ fun H3 H3' t3 o3 => k g v H3 H3' o3 (rv.mono (t2.trans t3).ex) Q fun z H4 H4' t4 o4 r4 => q z H4 H4' (((t.trans t2).trans t3).trans t4) o4 r4⟩
theorem ej_sliceL {lo hi : Option Expr} {l u : Option Int} {p2 : Pos} {ds : List PyData} (ha : EJ X Γ B a (.da (.list ds)) B1) (hl : OJ X Γ B1 lo l B2) (hu : OJ X Γ B2 hi u B3) :
    EJ X Γ B (.Subscript a (.Slice lo hi none p2) pos) (.da (.list (cutP ds l u))) B3 :=
  ej_slice sl_list ha hl hu fun g v H0 H O r Q q => by
    obtain ⟨p, xs, rfl, hx, rs⟩ := rvL r
    refine ⟨p, xs, rfl, SqL.of (O.ex _ _ hx), fun n hn => ?_⟩
    obtain ⟨t2, o2⟩ := laid (o := .lst (cutV xs l u)) O hn
    exact q _ _ _ t2 o2 (Rp.lst upd_same ((rs.cut l u).mono t2.ex))
theorem ej_sliceT {lo hi : Option Expr} {l u : Option Int} {p2 : Pos} {ds : List PyData} (ha : EJ X Γ B a (.da (.tuple ds)) B1) (hl : OJ X Γ B1 lo l B2) (hu : OJ X Γ B2 hi u B3) :
    EJ X Γ B (.Subscript a (.Slice lo hi none p2) pos) (.da (.tuple (cutP ds l u))) B3 :=
  ej_slice sl_tupA ha hl hu fun g v H0 H O r Q q => by
    obtain ⟨p, xs, rfl, hx, rs⟩ := rvT r
    refine ⟨p, xs, rfl, seqT O.ex hx, fun w => ?_, fun _ n hn => ?_⟩
    · have e : cutP ds l u = ds := by
        rw [rs.length] at w
        unfold cutP
        rw [w.1, w.2]
        simp
      have q := q (.ref p) H0 H To.refl O
      rw [e] at q
      exact q (Rp.tup hx rs)
    · obtain ⟨t2, o2⟩ := laid (o := .tup (cutV xs l u)) O hn
      exact q _ _ _ t2 o2 (Rp.tup (SqT.of upd_same) ((rs.cut l u).mono t2.ex))
theorem ej_sliceScr {lo hi : Option Expr} {l u : Option Int} {p2 : Pos} {ns : List Int} (ha : EJ X Γ B a (.scr ns) B1) (hl : OJ X Γ B1 lo l B2) (hu : OJ X Γ B2 hi u B3) :
    EJ X Γ B (.Subscript a (.Slice lo hi none p2) pos) (.da (.list (cutP (ns.map .int) l u))) B3 :=
  ej_slice sl_list ha hl hu fun g v H0 H O r Q q => by
    obtain ⟨p, rfl, hx⟩ := r
    refine ⟨p, _, rfl, O.ex.seq hx, fun n hn => ?_⟩
    obtain ⟨t2, o2⟩ := laid (o := .lst (cutV (ns.map V.int) l u)) O hn
    exact q _ _ _ t2 o2 (Rp.lst upd_same ((RpAll.ints ns).cut l u))
theorem ej_bagAt {i : Int} {y : PyData} {k : Nat} (ha : EJ X Γ B a .bag B1) (hb : EJ X Γ B1 b (.da (.int i)) B2) (hi : i = (k : Int)) (hk : k = 0 ∧ y = .int B2.x ∨ k = 1 ∧ y = .int B2.y ∨ k = 2 ∧ y = .int B2.z ∨ k = 3 ∧ y = .list (B2.cs.map .int)) (hs : PlainIx b) :
    EJ X Γ B (.Subscript a b pos) (.da y) B2 :=
  ej_bin ha hb (fun _ _ h1 h2 => pe_ix ix_list h1 h2 hs) fun g v w H0 H O r1 r2 Q q => by
    obtain ⟨p, l, hg, rfl⟩ := r1
    obtain ⟨_, h2, h3⟩ := O.bag p l hg
    subst hi
    rcases hk with ⟨rfl, rfl⟩ | ⟨rfl, rfl⟩ | ⟨rfl, rfl⟩ | ⟨rfl, rfl⟩
    · exact ⟨p, _, _, _, rfl, rvI r2, SqL.of h2, rfl, q _ _ _ To.refl O (Rp.int _)⟩
    · exact ⟨p, _, _, _, rfl, rvI r2, SqL.of h2, rfl, q _ _ _ To.refl O (Rp.int _)⟩
    · exact ⟨p, _, _, _, rfl, rvI r2, SqL.of h2, rfl, q _ _ _ To.refl O (Rp.int _)⟩
    · exact ⟨p, _, _, _, rfl, rvI r2, SqL.of h2, rfl, q _ _ _ To.refl O (Rp.lst h3 (RpAll.ints _))⟩
theorem bagged {K : PySem.W.Frag} {g : Gh} {B B' : Bag} {H0 H : Hp} {a l : Addr} (O : On K g B H0 H) (hg : g = some (a, l)) (hc : B'.cs = B.cs) :
    To g H0 H H0 (upd H a (.lst (bagCells B' l))) ∧ On K g B' H0 (upd H a (.lst (bagCells B' l))) := by
  obtain ⟨h1, h2, h3⟩ := O.bag a l hg
  refine ⟨⟨Same.refl _, fun q u f e1 e2 => ⟨e1, ?_⟩⟩, ⟨fun q u e => ?_, fun q m e => ?_⟩⟩
  · rw [upd_ne (fun z => f l (by rw [z]; exact hg))]; exact e2
  · rw [upd_ne (ne_of_none e h1)]; exact O.ex _ _ e
  · rw [hg] at e; cases e
    exact ⟨h1, upd_same, by rw [hc]; exact h3⟩
theorem sj_bagSet {i n : Int} {k : Nat} {px : Pos} (hv : EJ X Γ B e (.da (.int n)) B1) (ha : EJ X Γ B1 a .bag B2) (hb : EJ X Γ B2 b (.da (.int i)) B3) (hi : i = (k : Int))
    (hk : k = 0 ∧ B' = { B3 with x := n } ∨ k = 1 ∧ B' = { B3 with y := n } ∨ k = 2 ∧ B' = { B3 with z := n }) (q : SJ X Γ B' rest E)
    (h1 : swapsWithSole [.Subscript a b px] e pos.line X.env = pure false := by rfl) (h2 : swappedStores [.Subscript a b px] e X.env = pure none := by rfl)
    (h3 : (assignEach [.Subscript a b px] X.env).map (·.2) = [assign (.Subscript a b px) X.env] := by rfl)
    (h4 : ∀ v, assign (.Subscript a b px) X.env v = (do
      let ov ← holding [v] (eval a X.env)
      let iv ← holding [v, ov] (eval b X.env)
      standAt px; holding [v, ov, iv] (setItem ov iv v)
      release [v, ov, iv] []) := by intro _; rfl) :
    SJ X Γ B (.Assign [.Subscript a b px] e pos :: rest) E := fun g σ H0 H Ev O D G =>
  ⟨_, pss_cons (ps_asg (we e) (pg_sub (we a) (we b) set_list h4) h1 h2 h3) (ws rest), hv g σ H0 H Ev O _ fun v H1 H' t o rv => ha g σ H1 H' (Ev.mono t.ex) o _ fun w H2 H'' t2 o2 rw' =>
    hb g σ H2 H'' (Ev.mono (t.trans t2).ex) o2 _ fun u H3 H3' t3 o3 ru => by
      obtain ⟨p, l, hg, rfl⟩ := rw'
      rw [rvI ru, rvI rv]
      subst hi
      obtain ⟨_, e2, _⟩ := o3.bag p l hg
      have tt := (t.trans t2).trans t3
      have fin : ∀ (H4 : Hp), H4 = upd H3' p (.lst (bagCells B' l)) → B'.cs = B3.cs → WS X rest D σ H4 := by
        rintro H4 rfl hc
        obtain ⟨t4, o4⟩ := bagged o3 hg hc
        exact q g σ H3 _ (Ev.mono tt.ex) o4 D (G.on (tt.trans t4))
      rcases hk with ⟨rfl, rfl⟩ | ⟨rfl, rfl⟩ | ⟨rfl, rfl⟩
      · exact ⟨p, _, _, 0, rfl, rfl, e2, rfl, fin _ rfl rfl⟩
      · exact ⟨p, _, _, 1, rfl, rfl, e2, rfl, fin _ rfl rfl⟩
      · exact ⟨p, _, _, 2, rfl, rfl, e2, rfl, fin _ rfl rfl⟩⟩
def rGetL : V → V → Hp → VK → Prop := fun o i H Q => ∃ p xs k v, o = .ref p ∧ i = .int ((k : Nat) : Int) ∧ H p = some (.lst xs) ∧ xs[k]? = some v ∧ k < 1000 ∧ Q v H
theorem get_list : PGet X rGetL := by
  intro pins s σ H o i ov iv Q I r1 r2 h
  obtain ⟨p, xs, k, v, rfl, rfl, hp, hv, hk, q⟩ := h
  cases (show ov = Value.ref p from r1)
  obtain ⟨t, rfl⟩ := r2
  obtain ⟨its, r, pl, hz⟩ := I.list (SqL.of hp)
  obtain ⟨u, hu, ru⟩ := r.get hv
  refine wpAny_getItem_list pl.isList (Int.natCast_nonneg k) (by omega) ?_ ⟨v, H, I, ru, q⟩
  rw [Int.toNat_natCast]; simpa using hu
theorem sj_bagAug {n : Int} {px : Pos} (ha : EJ X Γ B a .bag B1) (hb : EJ X Γ B1 b (.da (.int 2)) B2) (hv : EJ X Γ B2 e (.da (.int n)) B3) (hz : B3.z = B2.z) (q : SJ X Γ { B3 with z := B3.z + n } rest E)
    (h1 : ∀ ov iv new, augStore b ov iv new = (do holding [new, ov, iv] (setItem ov iv new); release [new, ov, iv] []; pure .next) := by intros; rfl) :
    SJ X Γ B (.AugAssign (.Subscript a b px) .Add e pos :: rest) E := fun g σ H0 H Ev O D G =>
  ⟨_, pss_cons (ps_augS (we a) (we b) get_list (we e) ip_add set_list h1) (ws rest), ha g σ H0 H Ev O _ fun w H1 H' t o rw' => hb g σ H1 H' (Ev.mono t.ex) o _ fun u H2 H'' t2 o2 ru => by
    obtain ⟨p, l, hg, rfl⟩ := rw'
    rw [rvI ru]
    obtain ⟨_, e2, _⟩ := o2.bag p l hg
    refine ⟨p, _, 2, .int B2.z, rfl, rfl, e2, rfl, by omega, ?_⟩
    refine hv g σ H2 H'' (Ev.mono (t.trans t2).ex) o2 _ fun v H3 H3' t3 o3 rv => ?_
    rw [rvI rv]
    obtain ⟨_, e3, _⟩ := o3.bag p l hg
    have tt := (t.trans t2).trans t3
    refine ⟨B2.z, n, rfl, rfl, p, _, 2, 2, rfl, rfl, e3, rfl, ?_⟩
    obtain ⟨t4, o4⟩ := bagged (B' := { B3 with z := B3.z + n }) o3 hg rfl
    rw [← hz]
    exact q g σ H3 _ (Ev.mono tt.ex) o4 D (G.on (tt.trans t4))⟩
theorem sj_while (nd : X.N.Nodup) (P : List VD → Bag → Prop) (μ : List VD → Bag → Nat) (h0 : P Γ B)
    (hs : ∀ Γ B, P Γ B → ∃ x, TJ X Γ B c x B ∧
      (x = true → SJ X Γ B s1 { nx := fun Γ' B' => P Γ' B' ∧ μ Γ' B' < μ Γ B, ct := fun Γ' B' => P Γ' B' ∧ μ Γ' B' < μ Γ B, bk := fun Γ' B' => SJ X Γ' B' rest E, rt := E.rt }) ∧
      (x = false → SJ X Γ B rest E))
    (hp : PassesOwn (model X.prog X.w) X.A X.env X.xe := by exact PassesOwn.never) : SJ X Γ B (.While c s1 [] pos :: rest) E := fun g σ H0 H Ev O D G =>
  ⟨_, pss_cons (ps_while hp (wt c) (ws s1)) (ws rest), by
    refine ⟨fun m σ' H' => ∃ Γ' B' H1, P Γ' B' ∧ μ Γ' B' = m ∧ To g H0 H H1 H' ∧ EnvD X.K g H1 σ' Γ' ∧ On X.K g B' H1 H', ⟨_, Γ, B, H0, h0, rfl, To.refl, Ev, O⟩, ?_⟩
    rintro m σ' H' ⟨Γ', B', H1, hP, rfl, t, ev, o⟩
    obtain ⟨x, ht, hb, hd⟩ := hs Γ' B' hP
    refine ht g σ' H1 H' ev o _ fun H2 H'' t2 o2 => ?_
    have tt := t.trans t2
    cases x with
    | true =>
      refine iteT ⟨fun σ2 H3' => ∃ m', m' < μ Γ' B' ∧ ∃ Γ2 B2 H3, P Γ2 B2 ∧ μ Γ2 B2 = m' ∧ To g H0 H H3 H3' ∧ EnvD X.K g H3 σ2 Γ2 ∧ On X.K g B2 H3 H3', fun _ _ z => z, ?_⟩
      refine hb rfl g σ' H2 H'' (ev.mono t2.ex) o2 _ ⟨?_, ?_, ?_, ?_⟩
      · rintro Γ3 B3 σ3 H3 H3' ⟨q1, q2⟩ t3 e3 o3
        exact ⟨_, q2, Γ3, B3, H3, q1, rfl, tt.trans t3, e3, o3⟩
      · intro r B3 v H3 H3' q t3 o3 rv
        exact (G.on tt).rt r B3 v H3 H3' q t3 o3 rv
      · intro Γ3 B3 σ3 H3 H3' q t3 e3 o3
        exact q g σ3 H3 H3' e3 o3 D (G.on (tt.trans t3))
      · rintro Γ3 B3 σ3 H3 H3' ⟨q1, q2⟩ t3 e3 o3
        exact ⟨_, q2, Γ3, B3, H3, q1, rfl, tt.trans t3, e3, o3⟩
    | false => exact iteF (hd rfl g σ' H2 H'' (ev.mono t2.ex) o2 D (G.on tt))⟩
theorem sj_forL (j : Nat) {x : Str} {ds : List PyData} {px : Pos} (nd : X.N.Nodup) (hc : X.calm = true) (P : Nat → List VD → Bag → Prop) (hi : EJ X Γ B e (.da (.list ds)) B1) (h0 : P 0 Γ B1)
    (hs : ∀ i y Γ' B', ds[i]? = some y → P i Γ' B' → SJ X (Γ'.set j (.da y)) B' s1 { nx := P (i + 1), ct := P (i + 1), bk := fun Γ' B' => SJ X Γ' B' rest E, rt := E.rt })
    (hd : ∀ Γ' B', P ds.length Γ' B' → SJ X Γ' B' rest E) (hN : X.N[j]? = some x := by rfl) (hx : Loc X.env.scope x := by first | exact Or.inl rfl | exact Or.inr rfl)
    (hf : X.fn x = true ∨ X.env.scope.names.lookup x = some .local := by first | exact Or.inl rfl | exact Or.inr rfl)
    (hp : PassesOwn (model X.prog X.w) X.A X.env X.xe := by exact PassesOwn.never) (hq : ∀ x, foldedSetIterable e X.env x = pure x := by intro _; rfl) :
    SJ X Γ B (.For (.Name x px) e s1 [] pos :: rest) E := fun g σ H0 H Ev O D G =>
  ⟨_, pss_cons (ps_for hp hc (pi_list (we e)) (pg_name nd hN hx hf) (ws s1) hq) (ws rest), hi g σ H0 H Ev O _ fun v H1 H' t o r => by
    obtain ⟨p, xs, rfl, hxs, rs⟩ := rvL r
    refine ⟨p, rfl, ⟨xs, SqL.of (o.ex _ _ hxs)⟩, ?_⟩
    refine for_list (xs := xs) (fun i σ' H'' => ∃ Γ' B' H2, P i Γ' B' ∧ To g H1 H' H2 H'' ∧ EnvD X.K g H2 σ' Γ' ∧ On X.K g B' H2 H'') ⟨Γ, B1, H1, h0, To.refl, Ev.mono t.ex, o⟩ ?_ ?_ ?_
    · rintro i σ' H'' _ ⟨Γ', B', H2, _, t2, _, o2⟩
      exact SqL.of (o2.ex _ _ (t2.ex _ _ hxs))
    · rintro i y σ' H'' hy ⟨Γ', B', H2, hP, t2, e2, o2⟩
      obtain ⟨d, hdi, rd⟩ := rs.get hy
      refine hs i d Γ' B' hdi hP g _ H2 H'' (e2.set j (Rp.mono t2.ex rd)) o2 _ ⟨?_, ?_, ?_, ?_⟩
      · intro Γ3 B3 σ3 H3 H3' q t3 e3 o3
        exact ⟨Γ3, B3, H3, q, t2.trans t3, e3, o3⟩
      · intro r B3 v H3 H3' q t3 o3 rv
        exact (G.on (t.trans t2)).rt r B3 v H3 H3' q t3 o3 rv
      · intro Γ3 B3 σ3 H3 H3' q t3 e3 o3
        exact q g σ3 H3 H3' e3 o3 D (G.on ((t.trans t2).trans t3))
      · intro Γ3 B3 σ3 H3 H3' q t3 e3 o3
        exact ⟨Γ3, B3, H3, q, t2.trans t3, e3, o3⟩
    · rintro σ' H'' ⟨Γ', B', H2, hP, t2, e2, o2⟩
      rw [rs.length] at hP
      exact hd Γ' B' hP g σ' H2 H'' e2 o2 D (G.on (t.trans t2))⟩
theorem sj_par (i j : Nat) {x y : Str} {px py pt : Pos} {kt k2 pt2} {d1 d2 : VD} (nd : X.N.Nodup) (hc : X.calm = true) (h : AJ X Γ B [a, b] [d1, d2] B1) (k : SJ X ((Γ.set i d1).set j d2) B1 rest E)
    (hij : i ≠ j) (hw : swappedStores [.Tuple [.Name x px, .Name y py] kt pt] (.Tuple [a, b] k2 pt2) X.env = pure (some [x, y])) (hi : X.N[i]? = some x := by rfl) (hj : X.N[j]? = some y := by rfl)
    (hx : X.env.scope.names.lookup x = some .local := by rfl) (hy : X.env.scope.names.lookup y = some .local := by rfl)
    (hsw : swapsWithSole [.Tuple [.Name x px, .Name y py] kt pt] (.Tuple [a, b] k2 pt2) pos.line X.env = pure false := by rfl) :
    SJ X Γ B (.Assign [.Tuple [.Name x px, .Name y py] kt pt] (.Tuple [a, b] k2 pt2) pos :: rest) E := fun g σ H0 H Ev O D G =>
  ⟨_, pss_cons (ps_par hc nd hi hj hij hx hy (wa [a, b]) hw hsw) (ws rest), h g σ H0 H Ev O _ fun vs H1 H' t o r => by
    obtain ⟨v, w, rfl, r1, r2⟩ := rv2 r
    exact ⟨v, w, rfl, k g _ H1 H' (((Ev.mono t.ex).set i r1).set j r2) o D (G.on t)⟩⟩
def gNames : List Nat → TGs
  | [] => gNil
  | i :: is => gCons (gName i) (gNames is)
def setAll (Γ : List VD) : List Nat → List PyData → List VD
  | i :: is, d :: ds => setAll (Γ.set i (.da d)) is ds
  | _, _ => Γ
theorem gNames_run {K : PySem.W.Frag} {g : Gh} {H0 H : Hp} {Q : L2.St → Hp → Prop} : ∀ (is : List Nat) (vs : List V) (ds : List PyData) (σ : L2.St) (Γ : List VD), RpAll K H0 vs ds → is.length = ds.length → EnvD K g H0 σ Γ →
    (∀ σ', EnvD K g H0 σ' (setAll Γ is ds) → Q σ' H) → gNames is vs σ H Q
  | [], _, _, σ, Γ, .nil, _, e, q => ⟨rfl, q σ e⟩
  | i :: is, _, _, σ, Γ, .cons h r, hl, e, q => ⟨_, _, rfl, gNames_run is _ _ _ _ r (Nat.succ.inj hl) (e.set (d := .da _) i h) q⟩
theorem sj_unpack (is : List Nat) {ts : List Expr} {k} {pt : Pos} {ds : List PyData} (hc : X.calm = true) (h : EJ X Γ B e (.da (.tuple ds)) B1) (hg : PGs X ts (gNames is)) (hl : is.length = ds.length)
    (q : SJ X (setAll Γ is ds) B1 rest E) (hn : (assignEach ts X.env).length = ds.length := by rfl) (hst : (assignEach ts X.env).findIdx? (·.1) = none := by rfl)
    (h1 : swapsWithSole [.Tuple ts k pt] e pos.line X.env = pure false := by rfl) (h2 : swappedStores [.Tuple ts k pt] e X.env = pure none := by rfl)
    (h3 : (assignEach [.Tuple ts k pt] X.env).map (·.2) = [assign (.Tuple ts k pt) X.env] := by rfl) : SJ X Γ B (.Assign [.Tuple ts k pt] e pos :: rest) E := fun g σ H0 H Ev O D G =>
  ⟨_, pss_cons (ps_asg (we e) (pg_tup hc hg hn hst) h1 h2 h3) (ws rest), h g σ H0 H Ev O _ fun v H1 H' t o r => by
    obtain ⟨p, xs, rfl, hxs, rs⟩ := rvT r
    exact ⟨p, xs, rfl, seqT o.ex hxs, rs.length, gNames_run is xs ds σ Γ rs hl (Ev.mono t.ex) fun σ' e' => q g σ' H1 H' e' o D (G.on t)⟩⟩
def Blk (X : Cx) (scope : Scope) (J : Cx → Prop) : Prop := ∀ (s : Shared) (H : Hp) (C : Addr) (cl : List (Str × Addr)) (fp : List Addr), J (X.blk s H scope (compEnvC scope cl C X.env) fp)
def WB (X : Cx) (scope : Scope) (e : Expr) : TE := fun σ H Q => ∀ (s : Shared) (H' : Hp) (C : Addr) (cl : List (Str × Addr)) (fp : List Addr), WE (X.blk s H' scope (compEnvC scope cl C X.env) fp) e σ H Q
theorem wb (scope : Scope) (e : Expr) (s : Shared) (H : Hp) (C : Addr) (cl : List (Str × Addr)) (fp : List Addr) : PE (X.blk s H scope (compEnvC scope cl C X.env) fp) e (WB X scope e) :=
  ⟨fun pins s' σ H' Q I h => (we e).run pins s' σ H' Q I (h s H C cl fp)⟩
structure LcI (K : PySem.W.Frag) (g : Gh) (H1 H' : Hp) (A : Addr) (acc : List PyData) (B : Bag) (H2 H'' : Hp) : Prop where
  to : To g H1 H' H2 H''
  new : H' A = none
  no : H2 A = none
  at' : ∃ zs, H'' A = some (.lst zs) ∧ RpAll K H2 zs acc
  on : On K g B H2 H''
theorem lcI_start {K : PySem.W.Frag} {g : Gh} {H1 H' : Hp} {A : Addr} (o : On K g B H1 H') (h : H' A = none) : Off g A ∧ LcI K g H1 H' A [] B H1 (upd H' A (.lst [])) := by
  have h1 : H1 A = none := o.ex.free h
  have off : Off g A := fun l e => by
    obtain ⟨_, q, _⟩ := o.bag A l e
    rw [h] at q; cases q
  refine ⟨off, ⟨⟨Same.refl _, fun q u f e1 e2 => ⟨e1, ?_⟩⟩, h, h1, ⟨[], upd_same, .nil⟩, ⟨fun q u e => ?_, fun q l e => ?_⟩⟩⟩
  · rw [upd_ne (ne_of_none e2 h)]; exact e2
  · rw [upd_ne (ne_of_none e h1)]; exact o.ex _ _ e
  · obtain ⟨q1, q2, q3⟩ := o.bag q l e
    exact ⟨q1, by rw [upd_ne (ne_of_none q2 h)]; exact q2, q3⟩
theorem lcI_app {K : PySem.W.Frag} {g : Gh} {H1 H' : Hp} {A : Addr} {acc : List PyData} {H2 H'' H3 H3' : Hp} {v : V} {y : PyData} (off : Off g A) (I : LcI K g H1 H' A acc B1 H2 H'') (t : To g H2 H'' H3 H3') (o : On K g B2 H3 H3') (r : Rp K H3 v y) :
    ∃ zs, H3' A = some (.lst zs) ∧ zs.length = acc.length ∧ LcI K g H1 H' A (acc ++ [y]) B2 H3 (upd H3' A (.lst (zs ++ [v]))) := by
  obtain ⟨zs, h1, h2⟩ := I.at'
  obtain ⟨h3, h4⟩ := t.un A _ off I.no h1
  refine ⟨zs, h4, h2.length, ⟨⟨I.to.ex.trans t.ex, fun q u f e1 e2 => ?_⟩, I.new, h3, ⟨_, upd_same, (h2.mono t.ex).app (.cons r .nil)⟩, ⟨fun q u e => ?_, fun q l e => ?_⟩⟩⟩
  · by_cases hq : q = A
    · subst hq
      have z := I.new
      rw [e2] at z; cases z
    · obtain ⟨q1, q2⟩ := I.to.un q u f e1 e2
      obtain ⟨q3, q4⟩ := t.un q u f q1 q2
      exact ⟨q3, by rw [upd_ne hq]; exact q4⟩
  · rw [upd_ne (ne_of_none e h3)]; exact o.ex _ _ e
  · obtain ⟨q1, q2, q3⟩ := o.bag q l e
    have hq : q ≠ A := fun z => off l (by rw [← z]; exact e)
    exact ⟨q1, by rw [upd_ne hq]; exact q2, q3⟩
theorem lcI_end {K : PySem.W.Frag} {g : Gh} {H0 H H1 H' : Hp} {A : Addr} {acc : List PyData} {H2 H'' : Hp} (off : Off g A) (t : To g H0 H H1 H') (I : LcI K g H1 H' A acc B H2 H'') :
    ∃ H3, To g H0 H H3 H'' ∧ On K g B H3 H'' ∧ Rp K H3 (.ref A) (.list acc) := by
  obtain ⟨zs, h1, h2⟩ := I.at'
  have tt := t.trans I.to
  have up : Same H2 (upd H2 A (.lst zs)) := fun q u e => by rw [upd_ne (ne_of_none e I.no)]; exact e
  refine ⟨upd H2 A (.lst zs), ⟨tt.ex.trans up, fun q u f e1 e2 => ?_⟩, ⟨fun q u e => ?_, fun q l e => ?_⟩, Rp.lst upd_same (h2.mono up)⟩
  · obtain ⟨q1, q2⟩ := tt.un q u f e1 e2
    have hq : q ≠ A := fun z => by
      subst z
      obtain ⟨_, q3⟩ := t.un q u f e1 e2
      rw [I.new] at q3; cases q3
    exact ⟨by rw [upd_ne hq]; exact q1, q2⟩
  · by_cases hq : q = A
    · subst hq; rw [upd_same] at e; cases e; exact h1
    · rw [upd_ne hq] at e; exact I.on.ex _ _ e
  · obtain ⟨q1, q2, q3⟩ := I.on.bag q l e
    have hq : q ≠ A := fun z => off l (by rw [← z]; exact e)
    have hl : l ≠ A := fun z => by rw [z, I.no] at q3; cases q3
    exact ⟨by rw [upd_ne hq]; exact q1, q2, by rw [upd_ne hl]; exact q3⟩
theorem wipe1 {σ : L2.St} {j : Nat} {v : Option V} : wipe ((wipe σ [j]).set j v) [j] = wipe σ [j] := by
  show (((σ.set j none).set j v).set j none) = σ.set j none
  rw [List.set_set, List.set_set]
theorem wipe_env {K : PySem.W.Frag} {g : Gh} {H0 : Hp} {σ : L2.St} {j : Nat} {v : V} {d : PyData} (Ev : EnvD K g H0 σ Γ) (r : Rp K H0 v d) : EnvD K g H0 ((wipe σ [j]).set j (some v)) (Γ.set j (.da d)) := by
  show EnvD K g H0 ((σ.set j none).set j (some v)) (Γ.set j (.da d))
  rw [List.set_set]
  exact Ev.set (d := .da d) j r
def RJ (X : Cx) (Γ : List VD) (B : Bag) (t : TE) (d : VD) (B' : Bag) : Prop :=
  ∀ g σ H0 H, EnvD X.K g H0 σ Γ → On X.K g B H0 H → ∀ Q : VK,
    (∀ v H0' H', To g H0 H H0' H' → On X.K g B' H0' H' → Rv X.K g H0' v d → Q v H') → t σ H Q
theorem ej_of {t : TE} (h : PE X e t) (r : RJ X Γ B t d B1) : EJ X Γ B e d B1 := fun g σ H0 H E O Q q => ⟨t, h, r g σ H0 H E O Q q⟩
section
variable {elt : Expr} {scope : Scope} {j : Nat} {x : Str} {px : Pos} {ds ys : List PyData}
theorem lc_turn {g : Gh} {H1 H' : Hp} {A : Addr} {acc : List PyData} {H'' H2 : Hp} {σ : L2.St} {v : V} {y z : PyData} {Nx : Hp → Prop} (off : Off g A) (Ev : EnvD X.K g H1 σ Γ) (I : LcI X.K g H1 H' A acc B1 H2 H'') (r : Rp X.K H2 v y)
    (hz : acc.length < 1000) (he : Blk X scope fun Y => EJ Y (Γ.set j (.da y)) B1 elt (.da z) B2) (k : ∀ H3 H3', LcI X.K g H1 H' A (acc ++ [z]) B2 H3 H3' → Nx H3') :
    gName j v (wipe σ [j]) H'' fun σ2 H2 => wipe σ2 [j] = wipe σ [j] ∧ tYes σ2 H2 fun b H3 => if b = true then WB X scope elt σ2 H3 fun y H4 => ∃ acc, H4 A = some (.lst acc) ∧ acc.length < sizeLine ∧ Nx (upd H4 A (.lst (acc ++ [y]))) else Nx H3 := by
  refine ⟨wipe1, ?_⟩
  unfold tYes
  refine iteT ?_
  intro s hH C cl fp
  refine he s hH C cl fp g _ H2 H'' (wipe_env (Ev.mono I.to.ex) r) I.on _ fun w H3 H3' t o rw' => ?_
  obtain ⟨zs, h1, h2, J⟩ := lcI_app off I t o rw'
  exact ⟨zs, h1, by rw [h2]; exact small1000 (Nat.le_of_lt hz), k _ _ J⟩
theorem rj_lc (Bs : Nat → Bag) (hi : EJ X Γ B e (.da (.list ds)) (Bs 0)) (hl : ys.length = ds.length) (hz : ds.length ≤ 1000)
    (hs : ∀ i y z, ds[i]? = some y → ys[i]? = some z → Blk X scope fun Y => EJ Y (Γ.set j (.da y)) (Bs i) elt (.da z) (Bs (i + 1))) :
    RJ X Γ B (tLc (iList X.K (WE X e)) (gName j) tYes (WB X scope elt) [j]) (.da (.list ys)) (Bs ds.length) := fun g σ H0 H Ev O Q q =>
  hi g σ H0 H Ev O _ fun v H1 H' t o r => by
    obtain ⟨p, xs, rfl, hxs, rs⟩ := rvL r
    refine ⟨p, rfl, ⟨xs, SqL.of (o.ex _ _ hxs)⟩, fun A hA => ?_⟩
    obtain ⟨off, I0⟩ := lcI_start o hA
    refine lc_list (xs := xs) (fun i H'' => ∃ H2, LcI X.K g H1 H' A (ys.take i) (Bs i) H2 H'') ⟨_, I0⟩ ?_ ?_ ?_
    · rintro i H'' _ ⟨H2, I⟩
      exact SqL.of (I.on.ex _ _ (I.to.ex _ _ hxs))
    · rintro i w H'' hw ⟨H2, I⟩
      obtain ⟨y, hy, ry⟩ := rs.get hw
      have hi2 : i < ys.length := by rw [hl]; exact (List.getElem?_eq_some_iff.mp hy).1
      have hyz : ys[i]? = some ys[i] := List.getElem?_eq_getElem hi2
      refine lc_turn off (Ev.mono t.ex) I (ry.mono I.to.ex) (by rw [List.length_take]; omega) (hs i y _ hy hyz) fun H3 H3' J => ⟨H3, ?_⟩
      rw [List.take_add_one, hyz]; exact J
    · rintro H'' ⟨H2, I⟩
      rw [rs.length, ← hl, List.take_length] at I
      obtain ⟨H3, t3, o3, r3⟩ := lcI_end off t I
      rw [hl] at o3
      exact q _ H3 H'' t3 o3 r3
theorem rj_lcT (Bs : Nat → Bag) (hi : EJ X Γ B e (.da (.tuple ds)) (Bs 0)) (hl : ys.length = ds.length) (hz : ds.length ≤ 1000)
    (hs : ∀ i y z, ds[i]? = some y → ys[i]? = some z → Blk X scope fun Y => EJ Y (Γ.set j (.da y)) (Bs i) elt (.da z) (Bs (i + 1))) :
    RJ X Γ B (tLc (iTup X.K (WE X e)) (gName j) tYes (WB X scope elt) [j]) (.da (.list ys)) (Bs ds.length) := fun g σ H0 H Ev O Q q =>
  hi g σ H0 H Ev O _ fun v H1 H' t o r => by
    obtain ⟨p, xs, rfl, hxs, rs⟩ := rvT r
    refine ⟨p, rfl, ⟨xs, seqT o.ex hxs⟩, fun A hA => ?_⟩
    obtain ⟨off, I0⟩ := lcI_start o hA
    refine lc_tup (xs := xs) (fun i H'' => ∃ H2, LcI X.K g H1 H' A (ys.take i) (Bs i) H2 H'') ⟨_, I0⟩ ?_ ?_ ?_
    · rintro i H'' _ ⟨H2, I⟩
      exact seqT I.on.ex (seqT I.to.ex hxs)
    · rintro i w H'' hw ⟨H2, I⟩
      obtain ⟨y, hy, ry⟩ := rs.get hw
      have hi2 : i < ys.length := by rw [hl]; exact (List.getElem?_eq_some_iff.mp hy).1
      have hyz : ys[i]? = some ys[i] := List.getElem?_eq_getElem hi2
      refine lc_turn off (Ev.mono t.ex) I (ry.mono I.to.ex) (by rw [List.length_take]; omega) (hs i y _ hy hyz) fun H3 H3' J => ⟨H3, ?_⟩
      rw [List.take_add_one, hyz]; exact J
    · rintro H'' ⟨H2, I⟩
      rw [rs.length, ← hl, List.take_length] at I
      obtain ⟨H3, t3, o3, r3⟩ := lcI_end off t I
      rw [hl] at o3
      exact q _ H3 H'' t3 o3 r3
theorem ej_lc (nd : X.N.Nodup) (hc : X.calm = true) (ok : BlkOk X.N X.env.scope scope [(x, j)])
    (hg : ∀ (s : Shared) (H : Hp) (C : Addr) (cl : List (Str × Addr)) (fp : List Addr), PG (X.blk s H scope (compEnvC scope cl C X.env) fp) (.Name x px) (gName j))
    (r : RJ X Γ B (tLc (iList X.K (WE X e)) (gName j) tYes (WB X scope elt) [j]) d B1) (hq : ∀ x, foldedSetIterable e X.env x = pure x := by intro _; rfl) :
    EJ X Γ B (.ListComp elt [⟨.Name x px, e, [], 0⟩] scope pos) d B1 := ej_of (pe_lc (own := [(x, j)]) hc nd (pi_list (we e)) ok hg (fun _ _ _ _ _ => pts_nil) (wb scope elt) hq) r
theorem ej_lcT (nd : X.N.Nodup) (hc : X.calm = true) (ok : BlkOk X.N X.env.scope scope [(x, j)])
    (hg : ∀ (s : Shared) (H : Hp) (C : Addr) (cl : List (Str × Addr)) (fp : List Addr), PG (X.blk s H scope (compEnvC scope cl C X.env) fp) (.Name x px) (gName j))
    (r : RJ X Γ B (tLc (iTup X.K (WE X e)) (gName j) tYes (WB X scope elt) [j]) d B1) (hq : ∀ x, foldedSetIterable e X.env x = pure x := by intro _; rfl) :
    EJ X Γ B (.ListComp elt [⟨.Name x px, e, [], 0⟩] scope pos) d B1 := ej_of (pe_lc (own := [(x, j)]) hc nd (pi_tup (we e)) ok hg (fun _ _ _ _ _ => pts_nil) (wb scope elt) hq) r
end
end
end Gd
namespace Gd
open PySem PySem.Spec PyProof.Rows L2
section
variable {X : Cx} {Γ : List VD} {B B1 B2 B3 B' : Bag} {e a b c : Expr} {es : List Expr} {d da db dc : VD} {pos p pos' : Pos} {rest ss s1 s2 : List Stmt} {E : En}
def CDivX (_ j : Int) : Prop := j ≠ 0 ∧ j.natAbs.log2 < 9000
theorem op_fdivX : OpR X (binaryOp .FloorDiv) (rI CDivX fun i j => .int (i.fdiv j)) :=
  opI fun i j _ _ _ _ _ hc q => PyProof.Rows.floordiv_int hc.1 q (.inl (PyProof.noPylong_of_log2 hc.2))
theorem ej_fdivX {i j : Int} (ha : EJ X Γ B a (.da (.int i)) B1) (hb : EJ X Γ B1 b (.da (.int j)) B2) (hc : CDivX i j) : EJ X Γ B (.BinOp a .FloorDiv b pos) (.da (.int (i.fdiv j))) B2 :=
  ej_iic ha hb op_fdivX hc fun _ => .int _
theorem ej_gcd {i j : Int} (hm : X.mg "gcd" = some (.builtin "math.gcd")) (ha : EJ X Γ B a (.da (.int i)) B1) (hb : EJ X Γ B1 b (.da (.int j)) B2) (hg : Gl X "gcd" := by rfl)
    (h1 : starEach [a, b] X.env = (false, eval a X.env) :: starEach [b] X.env := by rfl) (h2 : starEach [b] X.env = (false, eval b X.env) :: starEach [] X.env := by rfl)
    (hpl : (backTo pos (starEach [b] X.env)).any (·.1) = false := by rfl) :
    EJ X Γ B (.Call (.Name "gcd" p) [a, b] [] pos) (.da (.int (Nat.gcd i.natAbs j.natAbs : Nat))) B2 := fun g σ H0 H E O Q q =>
  ⟨_, pe_callBfun cr_gcd hg hm (wa [a, b]) (by decide) h1 hpl, (aj_cons ha (aj_cons hb aj_nil h2) h1) g σ H0 H E O _ fun vs H1 H' t o r => by
    obtain ⟨v, w, rfl, r1, r2⟩ := rv2 r
    exact ⟨i, j, by rw [rvI r1, rvI r2], q _ _ _ t o (Rp.int _)⟩⟩
theorem RpAll.rep {K : PySem.W.Frag} {H : Hp} {xs : List V} {ds : List PyData} (r : RpAll K H xs ds) : ∀ n : Nat, RpAll K H (List.replicate n xs).flatten (List.replicate n ds).flatten
  | 0 => .nil
  | n + 1 => by
    rw [List.replicate_succ, List.flatten_cons, List.replicate_succ, List.flatten_cons]
    exact r.app (RpAll.rep r n)
theorem tj_chain {op op' : CmpOp} {i j k : Int} {z z' : Int → Int → V} {x y : Bool} (ha : EJ X Γ B a (.da (.int i)) B1) (hb : EJ X Γ B1 b (.da (.int j)) B2) (hc : EJ X Γ B2 c (.da (.int k)) B2)
    (ho : OpR X (compareOp op) (rI0 z)) (ho' : OpR X (compareOp op') (rI0 z')) (h1 : z i j = .bl x) (h2 : z' j k = .bl y) (hm : lastMarks [op, op'] [b, c] = false := by with_unfolding_all rfl) :
    TJ X Γ B (.Compare a [op, op'] [b, c] pos) (x && y) B2 := fun g σ H0 H E O Q q =>
  ⟨_, pt_chain ho ho' (we a) (we b) (we c) hm, ha g σ H0 H E O _ fun v H1 H' t o r => hb g σ H1 H' (E.mono t.ex) o _ fun w H2 H'' t2 o2 r2 => by
    have tt := t.trans t2
    refine ⟨i, j, rvI r, rvI r2, x, h1, ?_⟩
    cases x with
    | true =>
      refine iteT ?_
      refine hc g σ H2 H'' (E.mono tt.ex) o2 _ fun u H3 H3' t3 o3 r3 => ⟨j, k, rvI r2, rvI r3, y, h2, ?_⟩
      exact q _ _ (tt.trans t3) o3
    | false => exact iteF ⟨false, rfl, q _ _ tt o2⟩⟩
theorem inV_strs (x : Str) : ∀ ss : List Str, inV (.str x) (ss.map V.str) = ss.any fun s => decide (s = x)
  | [] => rfl
  | s :: ss => by
    show (eqV (.str s) (.str x) || inV (.str x) (ss.map V.str)) = (decide (s = x) || ss.any fun s => decide (s = x))
    rw [inV_strs x ss]
    have e : eqV (.str s) (.str x) = decide (s = x) := by
      first
        | rfl
        | (unfold eqV; exact Bool.beq_eq_decide_eq s x)
        | (simp [eqV])
    rw [e]
theorem RpAll.strs_of {K : PySem.W.Frag} {H : Hp} : ∀ {xs : List V} {ns : List Str}, RpAll K H xs (ns.map PyData.str) → xs = ns.map V.str
  | [], [], _ => rfl
  | _ :: _, n :: ns, .cons h r => by
    cases h
    rw [RpAll.strs_of r]; rfl
theorem tj_inT {x : Str} {ss : List Str} (ha : EJ X Γ B a (.da (.str x)) B1) (hb : EJ X Γ B1 b (.da (.tuple (ss.map .str))) B2) (hm : behindInMarks .In b = false := by rfl) :
    TJ X Γ B (.Compare a [.In] [b] pos) (ss.any fun s => decide (s = x)) B2 :=
  tj_cmp ha hb op_in_seq hm fun g v w H0 H O r1 r2 Q q => by
    obtain ⟨p, xs, rfl, hx, rs⟩ := rvT r2
    rw [rvS r1]
    have e := rs.strs_of
    subst e
    refine ⟨p, _, rfl, .inr (seqT O.ex hx), rfl, ?_, ?_⟩
    · rw [List.all_map]; exact List.all_eq_true.mpr fun _ _ => rfl
    · rw [if_neg (by decide), inV_strs]; exact q _ _ To.refl O
theorem sj_augI (i : Nat) {x : Str} {m n : Int} (nd : X.N.Nodup) (h0 : Γ[i]? = some (.da (.int m))) (h : EJ X Γ B e (.da (.int n)) B1) (k : SJ X (Γ.set i (.da (.int (m + n)))) B1 rest E) (hi : X.N[i]? = some x := by rfl)
    (hx : Loc X.env.scope x := by first | exact Or.inl rfl | exact Or.inr rfl) (hf : X.fn x = true ∨ X.env.scope.names.lookup x = some .local := by first | exact Or.inl rfl | exact Or.inr rfl) :
    SJ X Γ B (.AugAssign (.Name x pos') .Add e pos :: rest) E := fun g σ H0 H Ev O D G =>
  ⟨_, pss_cons (ps_aug nd hi hx (we e) ip_add hf) (ws rest), by
    obtain ⟨v, hv, r⟩ := Ev.at' i _ h0 (fun z => nomatch z)
    refine ⟨v, hv, h g σ H0 H Ev O _ fun w H1 H' t o r2 => ⟨m, n, rvI r, rvI r2, ?_⟩⟩
    exact k g _ H1 H' ((Ev.mono t.ex).set (d := .da _) i (Rp.int _)) o D (G.on t)⟩
end
theorem sj_law {X : Cx} {Γ : List VD} {B B1 : Bag} {e : Expr} {x : Str} {pos pos' : Pos} {rest : List Stmt} {ns : List Int} {y : Int} (i : Nat) (nd : X.N.Nodup)
    (h : EJ X Γ B e (.da (.list [.int 0, .int y, .int 0, .list (ns.map .int)])) B1)
    (k : SJ X ((List.replicate Γ.length VD.no).set i .bag) ⟨0, y, 0, ns⟩ rest { nx := fun _ _ => False, rt := fun r _ => r = .bool true })
    (hi : X.N[i]? = some x := by rfl) (hx : Loc X.env.scope x := by first | exact Or.inl rfl | exact Or.inr rfl) (hs : swapsWith e (some (.Name x pos')) pos.line X.env = pure false := by rfl)
    (hf : X.fn x = true ∨ X.env.scope.names.lookup x = some .local := by first | exact Or.inl rfl | exact Or.inr rfl)
    {σ : L2.St} {H0 H : Hp} (Ev : EnvD X.K none H0 σ Γ) (O : On X.K none B H0 H) {Q : VK} (q : ∀ H', Q (.bl true) H') :
    WS X (.Assign [.Name x pos'] e pos :: rest) { nx := fun _ H' => Q .non H', rt := Q } σ H :=
  ⟨_, pss_cons (ps_set nd hi hx (we e) hs hf) (ws rest), h none σ H0 H Ev O _ fun v H1 H' t o r => by
    obtain ⟨p, xs, rfl, hp, rs⟩ := rvL r
    cases rs with
    | cons r0 rs =>
    cases rs with
    | cons r1 rs =>
    cases rs with
    | cons r2 rs =>
    cases rs with
    | cons r3 rs =>
    cases rs
    cases r0; cases r1; cases r2
    cases r3 with
    | lst hl rl =>
    rename_i l zs
    have ez := rl.ints_of
    subst ez
    have hlp : l ≠ p := by
      intro z
      rw [z, hp] at hl
      have e1 := HO.lst.inj (Option.some.inj hl)
      cases ns with
      | nil => cases e1
      | cons n ns =>
        cases ns with
        | nil => cases e1
        | cons m ns =>
          cases ns with
          | nil => cases e1
          | cons m2 ns =>
            cases ns with
            | nil => cases e1
            | cons m3 ns => cases e1
    refine k (some (p, l)) _ (fun b => if b = p then none else H1 b) H' ⟨?_, ?_⟩ ⟨fun b u hb => ?_, fun b m hb => ?_⟩ _ ⟨?_, ?_, ?_, ?_⟩
    · rw [List.length_set, List.length_set, List.length_replicate]; exact Ev.len
    · intro j dd hj hne
      by_cases hij : i = j
      · subst hij
        have hlt : i < Γ.length := by
          have := (List.getElem?_eq_some_iff.mp hj).1
          rwa [List.length_set, List.length_replicate] at this
        rw [List.getElem?_set_self (by rw [List.length_replicate]; exact hlt)] at hj
        cases hj
        exact ⟨.ref p, List.getElem?_set_self (by rw [Ev.len]; exact hlt), p, l, rfl, rfl⟩
      · rw [List.getElem?_set_ne hij, List.getElem?_replicate] at hj
        split at hj
        · cases hj; exact absurd rfl hne
        · cases hj
    · by_cases hb2 : b = p
      · rw [if_pos hb2] at hb; cases hb
      · rw [if_neg hb2] at hb; exact o.ex _ _ hb
    · cases hb
      refine ⟨if_pos rfl, o.ex _ _ hp, ?_⟩
      rw [if_neg hlp]; exact hl
    · intro _ _ _ _ _ z; exact z.elim
    · rintro r2 B2 v H2 H2' rfl _ _ rv
      cases rv; exact q _
    · intro _ _ _ _ _ z; exact z.elim
    · intro _ _ _ _ _ z; exact z.elim⟩
def spLaw (K : PySem.W.Frag) : Sp := fun vs H Q _ => ∃ (a : Addr) (ns : List Int), vs = [.ref a] ∧ SqL K H a (ns.map V.int) ∧ ns.length ≤ 63 ∧ ∀ H', Q (.bl true) H'
end Gd
namespace Gd
open PySem PySem.Spec PyProof.Rows L2
def Bd (n : Nat) (i : Int) : Prop := i.natAbs < 2 ^ n
theorem Bd.le {n m : Nat} {i : Int} (h : Bd n i) (e : n ≤ m) : Bd m i := Nat.lt_of_lt_of_le h (Nat.pow_le_pow_right (by decide) e)
theorem Bd.mul {n m : Nat} {i j : Int} (h : Bd n i) (k : Bd m j) : Bd (n + m) (i * j) := wide_lt h k
theorem Bd.add {n m : Nat} {i j : Int} (h : Bd n i) (k : Bd m j) : Bd (n + m + 1) (i + j) := by
  have h1 := h.le (Nat.le_add_right n m)
  have h2 := k.le (Nat.le_add_left m n)
  have := Int.natAbs_add_le i j
  unfold Bd at *
  rw [Nat.pow_succ]; omega
theorem Bd.neg {n : Nat} {i : Int} (h : Bd n i) : Bd n (-i) := by unfold Bd; rw [Int.natAbs_neg]; exact h
theorem Bd.sub {n m : Nat} {i j : Int} (h : Bd n i) (k : Bd m j) : Bd (n + m + 1) (i - j) := by
  rw [Int.sub_eq_add_neg]; exact h.add k.neg
theorem Bd.abs {n : Nat} {i : Int} (h : Bd n i) : Bd n (if i < 0 then -i else i) := by
  split
  · exact h.neg
  · exact h
theorem Bd.mod {n : Nat} {i j : Int} (k : Bd n j) (h : 0 < j) : Bd n (i % j) := by
  have h1 := Int.emod_nonneg i (Int.ne_of_gt h)
  have h2 := Int.emod_lt_of_pos i h
  unfold Bd at *; omega
theorem Bd.div {n : Nat} {i j : Int} (h : Bd n i) : Bd n (i / j) := by
  unfold Bd at *
  exact Nat.lt_of_le_of_lt (Int.natAbs_ediv_le_natAbs i j) h
theorem Bd.nat {n a : Nat} (h : a < 2 ^ n) : Bd n (a : Int) := h
theorem cm {n m : Nat} {i j : Int} (h : Bd n i) (k : Bd m j) (e : n + m + 2 ≤ 1000000 := by decide) : CMulW i j :=
  wide_mul (h.le (Nat.le_succ n)) (k.le (Nat.le_succ m)) (Nat.succ_pos _) (Nat.succ_pos _) (by omega)
theorem cdv {n : Nat} {i j : Int} (k : Bd n j) (h : 0 < j) (e : n + 1 ≤ 9000 := by decide) : CDivW i j := wide_div h (k.le (Nat.le_succ n)) (Nat.succ_pos _) e
theorem cdx {n : Nat} {i j : Int} (k : Bd n j) (h : j ≠ 0) (e : n + 1 ≤ 9000 := by decide) : CDivX i j := ⟨h, (wide_div (i := i) (j := ((j.natAbs : Nat) : Int)) (by omega) (by rw [Int.natAbs_natCast]; exact k.le (Nat.le_succ n)) (Nat.succ_pos _) e).2⟩
theorem lg {n : Nat} {j : Int} (k : Bd n j) (e : n + 1 ≤ 9000 := by decide) : j.natAbs.log2 < 9000 := Nat.lt_of_lt_of_le (PySem.Flt.log2_lt_of (Nat.succ_pos _) (k.le (Nat.le_succ n))) e
section
variable {X : Cx} {Γ : List VD} {B B1 B2 B3 B' : Bag} {e a b c : Expr} {es : List Expr} {d da db dc : VD} {pos p pos' : Pos} {rest ss s1 s2 : List Stmt} {E : En}
def AD (X : Cx) (Γ : List VD) (B : Bag) (es : List Expr) (ds : List PyData) (B' : Bag) : Prop := AJ X Γ B es (ds.map .da) B'
theorem ad_nil : AD X Γ B [] [] B := aj_nil
theorem ad_cons {y : PyData} {ds : List PyData} (h : EJ X Γ B e (.da y) B1) (r : AD X Γ B1 es ds B2) (hs : starEach (e :: es) X.env = (false, eval e X.env) :: starEach es X.env := by rfl) : AD X Γ B (e :: es) (y :: ds) B2 := aj_cons h r hs
theorem ej_tupD {ds : List PyData} {k} (h : AD X Γ B es ds B1) (hl : ds.length ≤ 1000 := by decide) : EJ X Γ B (.Tuple es k pos) (.da (.tuple ds)) B1 := ej_tup h hl
theorem ej_lstD {ds : List PyData} (h : AD X Γ B es ds B1) (hl : ds.length ≤ 1000 := by decide) : EJ X Γ B (.List es pos) (.da (.list ds)) B1 := ej_lst h hl
theorem ej_at {ds : List PyData} {i : Int} {y : PyData} {j} (ha : EJ X Γ B a (.da (.tuple ds)) B1) (h : atI ds i = some y := by rfl) : EJ X Γ B (.Subscript a (.Constant (.int i) j p) pos) (.da y) B1 :=
  ej_ixT ha ej_int h fun _ _ => rfl
theorem ej_ifI {x : Bool} {u v : Int} (h : TJ X Γ B c x B1) (h1 : x = true → EJ X Γ B1 a (.da (.int u)) B2) (h2 : x = false → EJ X Γ B1 b (.da (.int v)) B2) : EJ X Γ B (.IfExp c a b pos) (.da (.int (bif x then u else v))) B2 :=
  ej_if h (fun e => by subst e; exact h1 rfl) fun e => by subst e; exact h2 rfl
theorem sj_ifM {x : Bool} (M : List VD → Bag → Prop) (h : TJ X Γ B c x B1) (h1 : x = true → SJ X Γ B1 s1 { E with nx := M }) (h2 : x = false → SJ X Γ B1 s2 { E with nx := M }) (k : ∀ Γ' B', M Γ' B' → SJ X Γ' B' rest E) :
    SJ X Γ B (.If c s1 s2 pos :: rest) E :=
  sj_if h (fun e => sj_mono (h1 e) (fun Γ' B' q => k Γ' B' q) (fun _ _ q => q) (fun _ _ q => q) (fun _ _ q => q)) (fun e => sj_mono (h2 e) (fun Γ' B' q => k Γ' B' q) (fun _ _ q => q) (fun _ _ q => q) (fun _ _ q => q))
theorem ej_mulC {i j : Int} (ha : EJ X Γ B a (.da (.int i)) B1) (hb : EJ X Γ B1 b (.da (.int j)) B2) (hc : CMul i j) : EJ X Γ B (.BinOp a .Mult b pos) (.da (.int (i * j))) B2 :=
  ej_iic ha hb op_mul hc fun _ => .int _
theorem ej_atL {ds : List PyData} {i : Int} {y : PyData} {j} (ha : EJ X Γ B a (.da (.list ds)) B1) (h : atI ds i = some y) : EJ X Γ B (.Subscript a (.Constant (.int i) j p) pos) (.da y) B1 :=
  ej_ixL ha ej_int h fun _ _ => rfl
theorem eqv_refl_of {y : PyData} (h : SeqAt.shaped y = true) : PyData.eqv y y = true := SeqAt.eqv_refl y (SeqAt.canLay_of_shaped h)
end
def At (K : PySem.W.Frag) (mg : Str → Option Value) (x : Str) (st : Stmt) (ps : List Str) : Prop :=
  ∃ f fd, Fun K x x st f fd ∧ mg x = some (.ref f) ∧ Binds K fd ps []
theorem cal_at {P : Program} {w : World} {K : PySem.W.Frag} {mg : Str → Option Value} {base : Heap} {x : Str} {st : Stmt}
    {N ps : List Str} {k : Nat} {R : Rel} (T : At K mg x st ps) (S : FnScope N ps (defScope st))
    (len : ∀ Γ B r B', R Γ B r B' → Γ.length = ps.length)
    (body : ∀ (f : Addr) (cdv : Value) (A : Around) (out : List Env) (s : Shared) (H : Hp) (E : XK),
      Gx k (cxOf CX0 P w K mg base N x (defScope st) f cdv A out s H E).nox → ∀ Γ B r B', R Γ B r B' →
      SJ (cxOf CX0 P w K mg base N x (defScope st) f cdv A out s H E).nox (Γ ++ List.replicate (N.length - ps.length) .no) B (defBody st)
        { nx := fun _ B2 => r = .none ∧ B2 = B', rt := fun d B2 => d = r ∧ B2 = B' }) :
    Cal P w K mg base x (k + 1) R := by
  obtain ⟨f, fd, F, hm, hb⟩ := T
  exact cal_of F hm hb S len fun cdv A out s H E G => body f cdv A out s H E G
end Gd
namespace Fr
open Gd PySem
open scoped Rat
def fq (q : Rat) : PyData := .tuple [.int q.num, .int (q.den : Int)]
def com (n d : Int) : Int := if d < 0 then -((Nat.gcd n.natAbs d.natAbs : Nat) : Int) else ((Nat.gcd n.natAbs d.natAbs : Nat) : Int)
theorem com_ne {n d : Int} (h : d ≠ 0) : com n d ≠ 0 := by
  have : 0 < Nat.gcd n.natAbs d.natAbs := Nat.gcd_pos_of_pos_right _ (by omega)
  unfold com; split <;> omega
theorem com_bd {n d : Int} {k : Nat} (h : d ≠ 0) (b : Bd k d) : Bd k (com n d) := by
  have h1 : Nat.gcd n.natAbs d.natAbs ≤ d.natAbs := Nat.gcd_le_right _ (by omega)
  unfold Bd com at *; split <;> omega
theorem red_num {n d : Int} (h : d ≠ 0) : n.fdiv (com n d) = (n /. d).num := by
  rw [Rat.num_divInt]
  have hg : (d.gcd n : Int) = (Nat.gcd n.natAbs d.natAbs : Nat) := by rw [Int.gcd_comm]; rfl
  rw [hg]
  unfold com
  by_cases hd : d < 0
  · rw [if_pos hd, Int.sign_eq_neg_one_of_neg hd, Int.neg_one_mul]
    have := Int.neg_fdiv_neg (-n) ((Nat.gcd n.natAbs d.natAbs : Nat) : Int)
    rw [Int.neg_neg] at this
    rw [this, Int.fdiv_eq_ediv_of_nonneg _ (Int.natCast_nonneg _)]
  · rw [if_neg hd, Int.sign_eq_one_of_pos (by omega), Int.one_mul, Int.fdiv_eq_ediv_of_nonneg _ (Int.natCast_nonneg _)]
theorem red_den {n d : Int} (h : d ≠ 0) : d.fdiv (com n d) = ((n /. d).den : Int) := by
  rw [Rat.den_divInt, if_neg h]
  have hg : d.gcd n = Nat.gcd n.natAbs d.natAbs := by rw [Int.gcd_comm]; rfl
  rw [hg]
  unfold com
  by_cases hd : d < 0
  · rw [if_pos hd]
    have := Int.neg_fdiv_neg (-d) ((Nat.gcd n.natAbs d.natAbs : Nat) : Int)
    rw [Int.neg_neg] at this
    rw [this, Int.fdiv_eq_ediv_of_nonneg _ (Int.natCast_nonneg _)]
    rw [Int.natCast_ediv]
    have : -d = (d.natAbs : Int) := by omega
    rw [this]
  · rw [if_neg hd, Int.fdiv_eq_ediv_of_nonneg _ (Int.natCast_nonneg _), Int.natCast_ediv]
    have : d = (d.natAbs : Int) := by omega
    conv => lhs; lhs; rw [this]
theorem divInt_bd {n d : Int} {a b : Nat} (h : d ≠ 0) (ha : Bd a n) (hb : Bd b d) : Bd a (n /. d).num ∧ Bd b ((n /. d).den : Int) := by
  constructor
  · rw [← red_num h]
    unfold Bd at *
    refine Nat.lt_of_le_of_lt ?_ ha
    rw [red_num h, Rat.num_divInt]
    refine Nat.le_trans (Int.natAbs_ediv_le_natAbs _ _) ?_
    rw [Int.natAbs_mul, Int.natAbs_sign_of_ne_zero h, Nat.one_mul]
    exact Nat.le_refl _
  · unfold Bd at *
    rw [Int.natAbs_natCast, Rat.den_divInt, if_neg h]
    exact Nat.lt_of_le_of_lt (Nat.div_le_self _ _) hb
theorem den_pos (q : Rat) : (0 : Int) < (q.den : Int) := Int.natCast_pos.mpr q.den_pos
theorem den_ne (q : Rat) : (q.den : Int) ≠ 0 := Int.ne_of_gt (den_pos q)
theorem self_div (q : Rat) : q.num /. (q.den : Int) = q := Rat.num_divInt_den q
theorem add_div (x y : Rat) : (x.num * (y.den : Int) + y.num * (x.den : Int)) /. ((x.den : Int) * (y.den : Int)) = x + y := by
  rw [← Rat.divInt_add_divInt _ _ (den_ne x) (den_ne y), self_div, self_div]
theorem mul_div (x y : Rat) : (x.num * y.num) /. ((x.den : Int) * (y.den : Int)) = x * y := by
  rw [← Rat.divInt_mul_divInt, self_div, self_div]
theorem div_div (x y : Rat) (h : y ≠ 0) : (x.num * (y.den : Int)) /. ((x.den : Int) * y.num) = x / y := by
  rw [← Rat.divInt_mul_divInt, self_div, Rat.div_def, Rat.inv_def]
end Fr
namespace Gd
open PySem PySem.Spec PyProof.Rows L2
mutual
def nice : PyData → Bool
  | .none => true
  | .bool _ => true
  | .int i => decide (Nat.log2 i.natAbs < 1920)
  | .str x => x.cps.all fun c => c < 0x110000
  | .list xs => niceAll xs
  | .tuple xs => niceAll xs
  | .dict _ => false
def niceAll : List PyData → Bool
  | [] => true
  | x :: xs => nice x && niceAll xs
end
mutual
theorem nice_lay : ∀ d : PyData, nice d = true → d.canLay0 = true
  | .none, _ => by simp only [PyData.canLay0]
  | .bool _, _ => by simp only [PyData.canLay0]
  | .int i, h => by simp only [PyData.canLay0]
  | .str _, h => by simp only [nice] at h; simp only [PyData.canLay0]; exact h
  | .list xs, h => by simp only [nice] at h; simp only [PyData.canLay0]; exact nice_layA xs h
  | .tuple xs, h => by simp only [nice] at h; simp only [PyData.canLay0]; exact nice_layA xs h
  | .dict _, h => by simp only [nice] at h; cases h
theorem nice_layA : ∀ ds : List PyData, niceAll ds = true → PyData.canLayAll0 ds = true
  | [], _ => by simp only [PyData.canLayAll0]
  | x :: xs, h => by
    simp only [niceAll, Bool.and_eq_true] at h
    simp only [PyData.canLayAll0, Bool.and_eq_true]; exact ⟨nice_lay x h.1, nice_layA xs h.2⟩
end
mutual
theorem nice_short : ∀ d : PyData, nice d = true → d.leavesShort 1921 = true
  | .none, _ => by simp only [PyData.leavesShort]
  | .bool _, _ => by simp only [PyData.leavesShort]
  | .int i, h => by
    simp only [nice, decide_eq_true_eq] at h
    simp only [PyData.leavesShort, decide_eq_true_eq, PyData.shown_int]
    exact int_text_len_1921 h
  | .str x, h => by
    simp only [nice] at h
    simp only [PyData.leavesShort, List.all_eq_true, decide_eq_true_eq]
    intro c hc
    have h2 := Array.all_eq_true'.mp h c (by simpa using hc)
    have h3 : c < 0x110000 := of_decide_eq_true h2
    omega
  | .list xs, h => by simp only [nice] at h; simp only [PyData.leavesShort]; exact nice_shortA xs h
  | .tuple xs, h => by simp only [nice] at h; simp only [PyData.leavesShort]; exact nice_shortA xs h
  | .dict _, h => by simp only [nice] at h; cases h
theorem nice_shortA : ∀ ds : List PyData, niceAll ds = true → PyData.leavesShortAll 1921 ds = true
  | [], _ => by simp only [PyData.leavesShortAll]
  | x :: xs, h => by
    simp only [niceAll, Bool.and_eq_true] at h
    simp only [PyData.leavesShortAll, Bool.and_eq_true]; exact ⟨nice_short x h.1, nice_shortA xs h.2⟩
end
structure Okd (d : PyData) : Prop where
  nice : Gd.nice d = true
  dp : d.depth ≤ 60
  bulk : d.bulk ≤ 5000
theorem Okd.shaped {d : PyData} (h : Okd d) : SeqAt.shaped d = true := by
  unfold SeqAt.shaped
  rw [nice_lay d h.nice, Bool.true_and, decide_eq_true_eq]
  have := h.dp; omega
theorem nice_int {n : Nat} {i : Int} (h : Bd n i) (e : n ≤ 1920 := by decide) : nice (.int i) = true := by
  simp only [nice, decide_eq_true_eq]
  by_cases h0 : 0 < n
  · exact Nat.lt_of_lt_of_le (PySem.Flt.log2_lt_of h0 h) e
  · have : n = 0 := by omega
    subst this
    have : i.natAbs = 0 := by unfold Bd at h; omega
    rw [this]; decide
theorem niceAll_cons {d : PyData} {ds : List PyData} (h : nice d = true) (r : niceAll ds = true) : niceAll (d :: ds) = true := by simp only [niceAll, h, r, Bool.and_self]
theorem niceAll_nil : niceAll [] = true := by simp only [niceAll]
theorem nice_list {ds : List PyData} (r : niceAll ds = true) : nice (.list ds) = true := by simp only [nice]; exact r
theorem nice_tuple {ds : List PyData} (r : niceAll ds = true) : nice (.tuple ds) = true := by simp only [nice]; exact r
end Gd
namespace Gd
open PySem PySem.Spec PyProof.Rows L2
theorem at_mk {K : PySem.W.Frag} {h : Heap} {mg : Str → Option Value} {x : Str} {st : Stmt} (ps : List Str) {f : Addr} {oc : Value} {od an : Option Addr} {osl : Array (Option Value)} {kV doc pm cdv ct : Value}
    (X : K.In h) (G : h.Ns mainGlobals mg) (a : PySem.W.nsIn K mainGlobals x = some (some (.ref f)))
    (l : K.lookup f = some ⟨oc, od, .func (PySem.W.fnOf x x (defArgs st) (defBody st) (defScope st) .none kV doc pm an cdv ct), osl⟩) (c : PySem.W.codeIn K cdv x = true) (k : PySem.W.keepIn K (.ref f) = true)
    (b : ∀ (kV doc pm : Value) (an : Option Addr) (cdv ct : Value) (us : List Value), us.length = ps.length → bindArgs (PySem.W.fnOf x x (defArgs st) (defBody st) (defScope st) .none kV doc pm an cdv ct) ⟨us, []⟩ = pure (ps.zip us)) :
    At K mg x st ps := ⟨f, _, fun_mk l c k, PySem.W.mg_of X G a, (fun_mk (st := st) l c k).binds b⟩
end Gd
namespace Gd
open PySem PySem.Spec PyProof.Rows L2
def keyT (e : Int × Value) : Str := match e.2 with | .str k _ => k | _ => Str.empty
def TxE (w : World) (e : Int × Value) : Prop := ∃ k tk, e.2 = Value.str k tk ∧ e.1 = hashStr w k
structure TxAt (w : World) (l : List Str) (o : Obj) (es : Array (Int × Value)) (t : SetTable) : Prop where
  ex : o.ExactSet
  el : ∀ e ∈ es.toList, TxE w e
  nd : (es.toList.map keyT).Nodup
  me : ∀ k, k ∈ es.toList.map keyT ↔ k ∈ l
  sz : es.size ≤ l.length
  ft : t.fits es.size = true
  ri : Ris t.place.toList
  ld : w.params.followText "set-order" = true ∨ t.led = true
def TxSet (w : World) (h : Heap) (a : Addr) (l : List Str) : Prop := ∃ o es ep t, h.get? a = some o ∧ o.data = .set es ep t ∧ TxAt w l o es t
theorem TxSet.at {w : World} {h h' : Heap} {a : Addr} {l : List Str} (R : TxSet w h a l) (k : ∀ o, h.get? a = some o → h'.get? a = some o) : TxSet w h' a l :=
  let ⟨o, es, ep, t, ho, r⟩ := R; ⟨o, es, ep, t, k o ho, r⟩
section
variable {P : Program} {w : World} {A : Around} {E : Value → Shared → Prop} {s : Shared} {a : Addr} {l : List Str}
end
end Gd
namespace Gd
open PySem PySem.Spec PyProof.Rows L2
section
variable {P : Program} {w : World} {A : Around} {s : Shared} {E : Value → Shared → Prop}
end
end Gd
namespace Gd
open PySem PySem.Spec PyProof.Rows L2
section
variable {P : Program} {w : World} {A : Around} {E : Value → Shared → Prop} {s : Shared} {a : Addr} {l : List Str}
end
section
variable {X : Cx}
end
end Gd
namespace Gd
open PySem PySem.Spec PyProof.Rows L2
structure Own (K : PySem.W.Frag) (i : Nat) (g : Gh) (A0 A1 : Hp) (a : Addr) (B : Bag) (Γ : List VD) (acc : List PyData) (σ : L2.St) (H0 H : Hp) : Prop where
  to : To g A0 A1 H0 H
  fr : A1 a = none
  off : Off g a
  ev : EnvD K g H0 σ Γ
  at' : σ[i]? = some (some (.ref a))
  no : H0 a = none
  ls : ∃ zs, H a = some (.lst zs) ∧ RpAll K H0 zs acc
  on : On K g B H0 H
theorem Own.freeze {K : PySem.W.Frag} {i : Nat} {g : Gh} {A0 A1 : Hp} {a : Addr} {B : Bag} {Γ : List VD} {acc : List PyData} {σ : L2.St} {H0 H : Hp} (O : Own K i g A0 A1 a B Γ acc σ H0 H) :
    ∃ H1, To g A0 A1 H1 H ∧ EnvD K g H1 σ (Γ.set i (.da (.list acc))) ∧ On K g B H1 H := by
  obtain ⟨zs, hz, rz⟩ := O.ls
  have sm : Same H0 (upd H0 a (.lst zs)) := fun b o e => by
    rw [upd_ne fun z : b = a => by rw [z, O.no] at e; cases e]; exact e
  refine ⟨upd H0 a (.lst zs), ⟨O.to.ex.trans sm, fun b o f h1 h2 => ?_⟩, ?_, ⟨fun b o e => ?_, fun b l e => ?_⟩⟩
  · have hb : b ≠ a := fun z => by rw [z, O.fr] at h2; cases h2
    obtain ⟨p, q⟩ := O.to.un b o f h1 h2
    exact ⟨by rw [upd_ne hb]; exact p, q⟩
  · have e := (O.ev.mono sm).set (v := .ref a) (d := .da (.list acc)) i (Rp.lst upd_same (rz.mono sm))
    have es : σ.set i (some (.ref a)) = σ := by
      apply List.ext_getElem?
      intro j
      by_cases hj : i = j
      · subst hj
        rw [List.getElem?_set_self (List.getElem?_eq_some_iff.mp O.at').1, O.at']
      · rw [List.getElem?_set_ne hj]
    rw [es] at e; exact e
  · by_cases hb : b = a
    · subst hb; rw [upd_same] at e; rw [hz]; exact e
    · rw [upd_ne hb] at e; exact O.on.ex b o e
  · obtain ⟨p, q, r⟩ := O.on.bag b l e
    have hb : b ≠ a := fun z => O.off l (z ▸ e)
    have hl : l ≠ a := fun z => by rw [z, O.no] at r; cases r
    exact ⟨by rw [upd_ne hb]; exact p, q, by rw [upd_ne hl]; exact r⟩
structure EnO where
  nx : List VD → Bag → List PyData → Prop
  fx : List VD → Bag → Prop
  rt : PyData → Bag → Prop
  bk : List VD → Bag → List PyData → Prop := fun _ _ _ => False
  ct : List VD → Bag → List PyData → Prop := fun _ _ _ => False
  ro : List PyData → Bag → Prop := fun _ _ => False
  fc : List VD → Bag → Prop := fun _ _ => False
structure GetsO (X : Cx) (i : Nat) (E : EnO) (g : Gh) (A0 A1 : Hp) (a : Addr) (S : Hp) (D : Ends) : Prop where
  nx : ∀ Γ B acc σ H0 H, E.nx Γ B acc → Own X.K i g A0 A1 a B Γ acc σ H0 H → Same S H0 → D.nx σ H
  fx : ∀ Γ B σ H0 H, E.fx Γ B → To g A0 A1 H0 H → EnvD X.K g H0 σ Γ → On X.K g B H0 H → D.nx σ H
  rt : ∀ r B v H0 H, E.rt r B → To g A0 A1 H0 H → On X.K g B H0 H → Rp X.K H0 v r → D.rt v H
  bk : ∀ Γ B acc σ H0 H, E.bk Γ B acc → Own X.K i g A0 A1 a B Γ acc σ H0 H → Same S H0 → D.bk σ H
  ct : ∀ Γ B acc σ H0 H, E.ct Γ B acc → Own X.K i g A0 A1 a B Γ acc σ H0 H → Same S H0 → D.ct σ H
  ro : ∀ Γ B acc σ H0 H, E.ro acc B → Own X.K i g A0 A1 a B Γ acc σ H0 H → Same S H0 → D.rt (.ref a) H
  fc : ∀ Γ B σ H0 H, E.fc Γ B → To g A0 A1 H0 H → EnvD X.K g H0 σ Γ → On X.K g B H0 H → D.ct σ H
theorem GetsO.on {X : Cx} {i : Nat} {E : EnO} {g : Gh} {A0 A1 : Hp} {a : Addr} {S S' : Hp} {D : Ends} (G : GetsO X i E g A0 A1 a S D) (e : Same S S') : GetsO X i E g A0 A1 a S' D :=
  ⟨fun Γ B acc σ H0 H q w m => G.nx Γ B acc σ H0 H q w (e.trans m), G.fx, G.rt, fun Γ B acc σ H0 H q w m => G.bk Γ B acc σ H0 H q w (e.trans m), fun Γ B acc σ H0 H q w m => G.ct Γ B acc σ H0 H q w (e.trans m), fun Γ B acc σ H0 H q w m => G.ro Γ B acc σ H0 H q w (e.trans m), G.fc⟩
def OwJ (X : Cx) (i : Nat) (Γ : List VD) (B : Bag) (acc : List PyData) (ss : List Stmt) (E : EnO) : Prop :=
  ∀ g σ A0 A1 a H0 H, Own X.K i g A0 A1 a B Γ acc σ H0 H → ∀ D : Ends, GetsO X i E g A0 A1 a H0 D → WS X ss D σ H
def FJ (X : Cx) (Γ : List VD) (B : Bag) (e : Expr) (ds : List PyData) (B' : Bag) : Prop :=
  ∀ g σ H0 H, EnvD X.K g H0 σ Γ → On X.K g B H0 H → ∀ Q : VK,
    (∀ a zs H0' H', To g H0 H H0' H' → On X.K g B' H0' H' → RpAll X.K H0' zs ds → H' a = none → Q (.ref a) (upd H' a (.lst zs))) → WE X e σ H Q
section
variable {X : Cx} {i : Nat} {Γ : List VD} {B B1 B2 B' : Bag} {acc ds : List PyData} {e a b c : Expr} {es : List Expr} {d da db : VD} {y : PyData} {pos p p1 p2 p3 pos' : Pos} {rest ss s1 s2 : List Stmt} {E : EnO}
theorem fj_lst (h : AJ X Γ B es (ds.map .da) B1) (hl : ds.length ≤ 1000) : FJ X Γ B (.List es pos) ds B1 := fun g σ H0 H E O Q q =>
  ⟨_, pe_lst (wa es), h g σ H0 H E O _ fun vs H1 H' t o rs => by
    have rs := RvAll.dat rs
    exact ⟨by rw [rs.length]; exact Nat.le_of_lt (small1000 hl), fun p n => q p vs H1 H' t o rs n⟩⟩
theorem fj_lstD (h : AD X Γ B es ds B1) (hl : ds.length ≤ 1000 := by decide) : FJ X Γ B (.List es pos) ds B1 := fj_lst h hl
theorem sj_own {x : Str} {Es : En} (i : Nat) (nd : X.N.Nodup) (h : FJ X Γ B e ds B1) (hΓ : i < Γ.length)
    (k : OwJ X i (Γ.set i .no) B1 ds rest { nx := fun Γ' B' acc => Es.nx (Γ'.set i (.da (.list acc))) B', fx := Es.nx, rt := Es.rt, bk := fun Γ' B' acc => Es.bk (Γ'.set i (.da (.list acc))) B', ct := fun Γ' B' acc => Es.ct (Γ'.set i (.da (.list acc))) B' })
    (hi : X.N[i]? = some x := by rfl) (hx : Loc X.env.scope x := by first | exact Or.inl rfl | exact Or.inr rfl) (hs : swapsWith e (some (.Name x pos')) pos.line X.env = pure false := by rfl)
    (hf : X.fn x = true ∨ X.env.scope.names.lookup x = some .local := by first | exact Or.inl rfl | exact Or.inr rfl) : SJ X Γ B (.Assign [.Name x pos'] e pos :: rest) Es := fun g σ H0 H Ev O D G =>
  ⟨_, pss_cons (ps_set nd hi hx (we e) hs hf) (ws rest), h g σ H0 H Ev O _ fun a zs H1 H' t o r n => by
    have n1 : H1 a = none := o.ex.free n
    have off : Off g a := fun l z => by
      obtain ⟨_, q, _⟩ := o.bag a l z
      rw [n] at q; cases q
    have on : On X.K g B1 H1 (upd H' a (.lst zs)) := ⟨fun b u q => by
      rw [upd_ne (ne_of_none q n1)]; exact o.ex b u q, fun b l q => by
      obtain ⟨p1, p2, p3⟩ := o.bag b l q
      exact ⟨p1, by rw [upd_ne (ne_of_none p2 n)]; exact p2, p3⟩⟩
    have hi' : i < σ.length := by rw [Ev.len]; exact hΓ
    have ev : EnvD X.K g H1 (σ.set i (some (.ref a))) (Γ.set i .no) := (Ev.mono t.ex).set i (show Rv X.K g H1 (.ref a) .no from trivial)
    refine k g _ H1 H' a H1 _ ⟨⟨Same.refl _, fun b u f h1 h2 => ⟨h1, by rw [upd_ne (ne_of_none h2 n)]; exact h2⟩⟩, n, off, ev, List.getElem?_set_self hi', n1, ⟨zs, upd_same, r⟩, on⟩ D ⟨?_, ?_, ?_, ?_, ?_, ?_, ?_⟩
    · intro Γ' B' acc σ' H2 H2' q w _
      obtain ⟨H3, t3, e3, o3⟩ := w.freeze
      exact G.nx _ _ _ _ _ q (t.trans t3) e3 o3
    · intro Γ' B' σ' H2 H2' q t2 e2 o2
      exact G.nx _ _ _ _ _ q (t.trans t2) e2 o2
    · intro r B' v H2 H2' q t2 o2 rv
      exact G.rt _ _ _ _ _ q (t.trans t2) o2 rv
    · intro Γ' B' acc σ' H2 H2' q w _
      obtain ⟨H3, t3, e3, o3⟩ := w.freeze
      exact G.bk _ _ _ _ _ q (t.trans t3) e3 o3
    · intro Γ' B' acc σ' H2 H2' q w _
      obtain ⟨H3, t3, e3, o3⟩ := w.freeze
      exact G.ct _ _ _ _ _ q (t.trans t3) e3 o3
    · intro _ _ _ _ _ _ q; exact q.elim
    · intro _ _ _ _ _ q; exact q.elim⟩
theorem ow_end (h : SJ X (Γ.set i (.da (.list acc))) B ss { nx := E.fx, rt := E.rt, ct := E.fc }) : OwJ X i Γ B acc ss E := fun g σ A0 A1 a H0 H w D G => by
  obtain ⟨H1, t, ev, o⟩ := w.freeze
  exact h g σ H1 H ev o D ⟨fun Γ' B' σ' H2 H2' q t2 e2 o2 => G.fx _ _ _ _ _ q (t.trans t2) e2 o2, fun r B' v H2 H2' q t2 o2 rv => G.rt _ _ _ _ _ q (t.trans t2) o2 rv, fun _ _ _ _ _ q => q.elim, fun Γ' B' σ' H2 H2' q t2 e2 o2 => G.fc _ _ _ _ _ q (t.trans t2) e2 o2⟩
theorem ow_nil (h : E.nx Γ B acc) : OwJ X i Γ B acc [] E := fun g σ A0 A1 a H0 H w D G => ⟨_, pss_nil, G.nx _ _ _ _ _ _ h w (Same.refl _)⟩
theorem Own.step {K : PySem.W.Frag} {g : Gh} {A0 A1 : Hp} {a : Addr} {σ : L2.St} {H0 H H0' H' : Hp} (w : Own K i g A0 A1 a B Γ acc σ H0 H) (t : To g H0 H H0' H') (o : On K g B1 H0' H') : Own K i g A0 A1 a B1 Γ acc σ H0' H' := by
  obtain ⟨zs, hz, rz⟩ := w.ls
  obtain ⟨p, q⟩ := t.un a _ w.off w.no hz
  exact ⟨w.to.trans t, w.fr, w.off, w.ev.mono t.ex, w.at', p, ⟨zs, q, rz.mono t.ex⟩, o⟩
theorem ow_set {x : Str} (j : Nat) (nd : X.N.Nodup) (hij : j ≠ i) (h : EJ X Γ B e d B1) (k : OwJ X i (Γ.set j d) B1 acc rest E) (hi : X.N[j]? = some x := by rfl)
    (hx : Loc X.env.scope x := by first | exact Or.inl rfl | exact Or.inr rfl) (hs : swapsWith e (some (.Name x pos')) pos.line X.env = pure false := by rfl)
    (hf : X.fn x = true ∨ X.env.scope.names.lookup x = some .local := by first | exact Or.inl rfl | exact Or.inr rfl) : OwJ X i Γ B acc (.Assign [.Name x pos'] e pos :: rest) E := fun g σ A0 A1 a H0 H w D G =>
  ⟨_, pss_cons (ps_set nd hi hx (we e) hs hf) (ws rest), h g σ H0 H w.ev w.on _ fun v H1 H' t o r => by
    have w2 := w.step t o
    exact k g _ A0 A1 a H1 H' ⟨w2.to, w2.fr, w2.off, w2.ev.set j r, by rw [List.getElem?_set_ne hij]; exact w2.at', w2.no, w2.ls, w2.on⟩ D (G.on t.ex)⟩
theorem ow_app {x : Str} (nd : X.N.Nodup) (h : EJ X Γ B e (.da y) B1) (hl : acc.length < 1000) (k : OwJ X i Γ B1 (acc ++ [y]) rest E) (hi : X.N[i]? = some x := by rfl)
    (hv : Vis X.env.scope x := by first | exact Or.inl rfl | exact Or.inr (Or.inl rfl) | exact Or.inr (Or.inr rfl))
    (h1 : (x == ("__debug__" : Str)) = false := by decide) (h2 : (x == ("__classdict__" : Str)) = false := by decide)
    (hbase : attributeBase (.Name x p1) "append" X.env (eval (.Name x p1) X.env) = eval (.Name x p1) X.env := by rfl)
    (hfew : ((backTo p3 (starEach [e] X.env)).all (fun x => !x.1) && (backToKw p3 (keywordEach [] X.env)).all (fun x => x.1.isSome)
      && decide ([e].length + ([] : List Keyword).length + (if ([] : List Keyword).isEmpty then 0 else 1) < 30)) = true := by rfl)
    (hline : (p2.endLine == p3.line) = true := by rfl) (hst : starEach [e] X.env = [(false, eval e X.env)] := by rfl)
    (hs : swapsWith (.Call (.Attribute (.Name x p1) "append" p2) [e] [] p3) none pos.line X.env = pure false := by rfl) :
    OwJ X i Γ B acc (.Expr (.Call (.Attribute (.Name x p1) "append" p2) [e] [] p3) pos :: rest) E := fun g σ A0 A1 a H0 H w D G =>
  ⟨_, pss_cons (ps_expr (pe_bm PySem.F.plainAttrs_list PySem.F.slot_list_append PySem.F.type_list_append mt_append (pe_var hi hv h1 h2) (wa [e]) hbase hfew hline hst rfl) hs) (ws rest), by
    obtain ⟨zs, hz, rz⟩ := w.ls
    refine ⟨_, w.at', .inl ⟨rfl, _, SqL.of hz⟩, ?_⟩
    refine (aj_cons (ds := []) h aj_nil hst) g σ H0 H w.ev w.on _ fun vs H1 H' t o rs => ?_
    obtain ⟨v, rfl, rv⟩ := rv1 rs
    have w2 := w.step t o
    obtain ⟨zs2, hz2, rz2⟩ := w2.ls
    refine ⟨a, zs2, v, rfl, rfl, hz2, by rw [rz2.length]; exact small1000 (Nat.le_of_lt hl), ?_⟩
    refine k g σ A0 A1 a H1 _ ⟨⟨w2.to.ex, fun b u f q1 q2 => ?_⟩, w2.fr, w2.off, w2.ev, w2.at', w2.no, ⟨zs2 ++ [v], upd_same, rz2.app (.cons rv .nil)⟩, ⟨fun b u q => ?_, fun b l q => ?_⟩⟩ D (G.on t.ex)
    · obtain ⟨p, q⟩ := w2.to.un b u f q1 q2
      exact ⟨p, by rw [upd_ne (ne_of_none q2 w2.fr)]; exact q⟩
    · rw [upd_ne (ne_of_none q w2.no)]; exact w2.on.ex b u q
    · obtain ⟨p1, p2, p3⟩ := w2.on.bag b l q
      exact ⟨p1, by rw [upd_ne fun z : b = a => w2.off l (z ▸ q)]; exact p2, p3⟩⟩
theorem ow_while (P : List VD → Bag → List PyData → Prop) (μ : List VD → Bag → List PyData → Nat) (h0 : P Γ B acc)
    (hs : ∀ Γ B acc, P Γ B acc → ∃ x, TJ X Γ B c x B ∧
      (x = true → OwJ X i Γ B acc s1 { nx := fun Γ' B' acc' => P Γ' B' acc' ∧ μ Γ' B' acc' < μ Γ B acc, fx := fun _ _ => False, ct := fun Γ' B' acc' => P Γ' B' acc' ∧ μ Γ' B' acc' < μ Γ B acc, rt := E.rt }) ∧
      (x = false → OwJ X i Γ B acc rest E))
    (hp : PassesOwn (model X.prog X.w) X.A X.env X.xe := by exact PassesOwn.never) : OwJ X i Γ B acc (.While c s1 [] pos :: rest) E := fun g σ A0 A1 a H0 H w D G =>
  ⟨_, pss_cons (ps_while hp (wt c) (ws s1)) (ws rest), by
    refine ⟨fun m σ' H' => ∃ Γ' B' acc' H1, P Γ' B' acc' ∧ μ Γ' B' acc' = m ∧ Own X.K i g A0 A1 a B' Γ' acc' σ' H1 H' ∧ Same H0 H1, ⟨_, Γ, B, acc, H0, h0, rfl, w, Same.refl _⟩, ?_⟩
    rintro m σ' H' ⟨Γ', B', acc', H1, hP, rfl, w1, sm⟩
    obtain ⟨x, ht, hb, hd⟩ := hs Γ' B' acc' hP
    refine ht g σ' H1 H' w1.ev w1.on _ fun H2 H'' t2 o2 => ?_
    have w2 := w1.step t2 o2
    cases x with
    | true =>
      refine iteT ⟨fun σ2 H3' => ∃ m', m' < μ Γ' B' acc' ∧ ∃ Γ2 B2 acc2 H3, P Γ2 B2 acc2 ∧ μ Γ2 B2 acc2 = m' ∧ Own X.K i g A0 A1 a B2 Γ2 acc2 σ2 H3 H3' ∧ Same H0 H3, fun _ _ z => z, ?_⟩
      refine hb rfl g σ' A0 A1 a H2 H'' w2 _ ⟨?_, ?_, ?_, ?_, ?_, ?_, ?_⟩
      · rintro Γ3 B3 acc3 σ3 H3 H3' ⟨q1, q2⟩ w3 m3
        exact ⟨_, q2, Γ3, B3, acc3, H3, q1, rfl, w3, (sm.trans t2.ex).trans m3⟩
      · intro _ _ _ _ _ q; exact q.elim
      · intro r B3 v H3 H3' q t3 o3 rv
        exact G.rt r B3 v H3 H3' q t3 o3 rv
      · intro _ _ _ _ _ _ q; exact q.elim
      · rintro Γ3 B3 acc3 σ3 H3 H3' ⟨q1, q2⟩ w3 m3
        exact ⟨_, q2, Γ3, B3, acc3, H3, q1, rfl, w3, (sm.trans t2.ex).trans m3⟩
      · intro _ _ _ _ _ _ q; exact q.elim
      · intro _ _ _ _ _ q; exact q.elim
    | false => exact iteF (hd rfl g σ' A0 A1 a H2 H'' w2 D (G.on (sm.trans t2.ex)))⟩
theorem ow_if {x : Bool} (M : List VD → Bag → List PyData → Prop) (h : TJ X Γ B c x B1) (h1 : x = true → OwJ X i Γ B1 acc s1 { E with nx := M, fx := fun _ _ => False }) (h2 : x = false → OwJ X i Γ B1 acc s2 { E with nx := M, fx := fun _ _ => False })
    (k : ∀ Γ' B' acc', M Γ' B' acc' → OwJ X i Γ' B' acc' rest E) : OwJ X i Γ B acc (.If c s1 s2 pos :: rest) E := fun g σ A0 A1 a H0 H w D G =>
  ⟨_, pss_cons (ps_if (wt c) (ws s1) (ws s2)) (ws rest), h g σ H0 H w.ev w.on _ fun H1 H' t o => by
    have w2 := w.step t o
    have G2 := G.on t.ex
    have G' : GetsO X i { E with nx := M, fx := fun _ _ => False } g A0 A1 a H1 { D with nx := WS X rest D } :=
      ⟨fun Γ2 B2 acc2 σ2 H2 H2' q w3 m => k _ _ _ q g σ2 A0 A1 a H2 H2' w3 D (G2.on m), fun _ _ _ _ _ q => q.elim, G2.rt, G2.bk, G2.ct, G2.ro, G2.fc⟩
    cases x with
    | true => exact iteT (h1 rfl g σ A0 A1 a H1 H' w2 _ G')
    | false => exact iteF (h2 rfl g σ A0 A1 a H1 H' w2 _ G')⟩
end
end Gd
namespace Gd
open PySem PySem.Spec PyProof.Rows L2
section
variable {X : Cx} {Γ : List VD} {B B1 B2 B' : Bag} {e a b c : Expr} {es : List Expr} {d da db dc : VD} {pos p p' pos' : Pos} {rest ss s1 s2 : List Stmt} {E : En}
theorem ej_max {i j : Int} (hc : X.calm = true) (hm : X.mg "max" = none) (ha : EJ X Γ B a (.da (.int i)) B1) (hb : EJ X Γ B1 b (.da (.int j)) B2) (hg : Gl X "max" := by rfl)
    (h1 : starEach [a, b] X.env = (false, eval a X.env) :: starEach [b] X.env := by rfl) (h2 : starEach [b] X.env = (false, eval b X.env) :: starEach [] X.env := by rfl)
    (hpl : (backTo pos (starEach [b] X.env)).any (·.1) = false := by rfl) : EJ X Γ B (.Call (.Name "max" p) [a, b] [] pos) (.da (.int (max i j))) B2 :=
  ej_callB (call_max2 hc) hm (aj_cons ha (aj_cons hb aj_nil h2) h1) (fun g vs H0 H O r Q q => by
    obtain ⟨v, w, rfl, h, h'⟩ := rv2 r
    refine ⟨i, j, by rw [rvI h, rvI h'], ?_⟩
    have e : (if j > i then j else i) = max i j := by split <;> omega
    rw [e]; exact q _ _ _ To.refl O (Rp.int _)) (hg := hg) (hpl := hpl) (he := h1)
theorem ej_min {i j : Int} (hc : X.calm = true) (hm : X.mg "min" = none) (ha : EJ X Γ B a (.da (.int i)) B1) (hb : EJ X Γ B1 b (.da (.int j)) B2) (hg : Gl X "min" := by rfl)
    (h1 : starEach [a, b] X.env = (false, eval a X.env) :: starEach [b] X.env := by rfl) (h2 : starEach [b] X.env = (false, eval b X.env) :: starEach [] X.env := by rfl)
    (hpl : (backTo pos (starEach [b] X.env)).any (·.1) = false := by rfl) : EJ X Γ B (.Call (.Name "min" p) [a, b] [] pos) (.da (.int (min i j))) B2 :=
  ej_callB (call_min2 hc) hm (aj_cons ha (aj_cons hb aj_nil h2) h1) (fun g vs H0 H O r Q q => by
    obtain ⟨v, w, rfl, h, h'⟩ := rv2 r
    refine ⟨i, j, by rw [rvI h, rvI h'], ?_⟩
    have e : (if j < i then j else i) = min i j := by split <;> omega
    rw [e]; exact q _ _ _ To.refl O (Rp.int _)) (hg := hg) (hpl := hpl) (he := h1)
theorem RpAll.bools_of {K : PySem.W.Frag} {H : Hp} : ∀ {xs : List V} {ns : List Bool}, RpAll K H xs (ns.map PyData.bool) → xs = ns.map V.bl
  | [], [], _ => rfl
  | _ :: _, n :: ns, .cons h r => by
    cases h
    rw [RpAll.bools_of r]; rfl
theorem ej_all {bs : List Bool} (hc : X.calm = true) (hm : X.mg "all" = none) (ha : EJ X Γ B a (.da (.list (bs.map .bool))) B1) (hs : starEach [a] X.env = [(false, eval a X.env)] := by rfl) (hg : Gl X "all" := by rfl) :
    EJ X Γ B (.Call (.Name "all" p) [a] [] pos) (.da (.bool (bs.all id))) B1 :=
  ej_callB (cr_all hc) hm (aj_cons ha aj_nil hs) (fun g vs H0 H O r Q q => by
    obtain ⟨v, rfl, h⟩ := rv1 r
    obtain ⟨p, xs, rfl, hx, rs⟩ := rvL h
    rw [RpAll.bools_of rs] at hx
    exact ⟨p, bs, rfl, SqL.of (O.ex _ _ hx), q _ _ _ To.refl O (Rp.bl _)⟩) (hg := hg) (he := hs)
theorem sj_forRev (j : Nat) {x : Str} {ds : List PyData} {px pr pc : Pos} (nd : X.N.Nodup) (hc : X.calm = true) (hm : X.mg "reversed" = none) (P : Nat → List VD → Bag → Prop) (hi : EJ X Γ B e (.da (.list ds)) B1) (h0 : P 0 Γ B1)
    (hs : ∀ i y Γ' B', i < ds.length → ds[ds.length - 1 - i]? = some y → P i Γ' B' → SJ X (Γ'.set j (.da y)) B' s1 { nx := P (i + 1), ct := P (i + 1), bk := fun Γ' B' => SJ X Γ' B' rest E, rt := E.rt })
    (hd : ∀ Γ' B', P ds.length Γ' B' → SJ X Γ' B' rest E) (hN : X.N[j]? = some x := by rfl) (hx : Loc X.env.scope x := by first | exact Or.inl rfl | exact Or.inr rfl)
    (hf : X.fn x = true ∨ X.env.scope.names.lookup x = some .local := by first | exact Or.inl rfl | exact Or.inr rfl)
    (hp : PassesOwn (model X.prog X.w) X.A X.env X.xe := by exact PassesOwn.never) (hq : ∀ x, foldedSetIterable (.Call (.Name "reversed" pr) [e] [] pc) X.env x = pure x := by intro _; rfl)
    (hst : starEach [e] X.env = [(false, eval e X.env)] := by rfl) (hg : Gl X "reversed" := by rfl) :
    SJ X Γ B (.For (.Name x px) (.Call (.Name "reversed" pr) [e] [] pc) s1 [] pos :: rest) E := fun g σ H0 H Ev O D G =>
  ⟨_, pss_cons (ps_for hp hc (pi_reversed hg hm (wa [e]) hst) (pg_name nd hN hx hf) (ws s1) hq) (ws rest), (aj_cons (ds := []) hi aj_nil hst) g σ H0 H Ev O _ fun vs H1 H' t o r => by
    obtain ⟨v, rfl, h⟩ := rv1 r
    obtain ⟨l, xs, rfl, hxs, rs⟩ := rvL h
    refine ⟨l, xs, rfl, SqL.of (o.ex _ _ hxs), ?_⟩
    refine RT.for_Itv (xs := xs) (fun i σ' H'' => ∃ Γ' B' H2, P i Γ' B' ∧ To g H1 H' H2 H'' ∧ EnvD X.K g H2 σ' Γ' ∧ On X.K g B' H2 H'') ⟨Γ, B1, H1, h0, To.refl, Ev.mono t.ex, o⟩ ?_ ?_ ?_
    · rintro i σ' H'' ⟨Γ', B', H2, _, t2, _, o2⟩
      exact SqL.of (o2.ex _ _ (t2.ex _ _ hxs))
    · rintro i y σ' H'' hlt hy ⟨Γ', B', H2, hP, t2, e2, o2⟩
      rw [rs.length] at hlt hy
      obtain ⟨d, hdi, rd⟩ := rs.get hy
      refine hs i d Γ' B' hlt hdi hP g _ H2 H'' (e2.set j (Rp.mono t2.ex rd)) o2 _ ⟨?_, ?_, ?_, ?_⟩
      · exact fun Γ3 B3 σ3 H3 H3' q t3 e3 o3 => ⟨Γ3, B3, H3, q, t2.trans t3, e3, o3⟩
      · exact fun r B3 v H3 H3' q t3 o3 rv => (G.on (t.trans t2)).rt r B3 v H3 H3' q t3 o3 rv
      · exact fun Γ3 B3 σ3 H3 H3' q t3 e3 o3 => q g σ3 H3 H3' e3 o3 D (G.on ((t.trans t2).trans t3))
      · exact fun Γ3 B3 σ3 H3 H3' q t3 e3 o3 => ⟨Γ3, B3, H3, q, t2.trans t3, e3, o3⟩
    · rintro σ' H'' ⟨Γ', B', H2, hP, t2, e2, o2⟩
      rw [rs.length] at hP
      exact hd Γ' B' hP g σ' H2 H'' e2 o2 D (G.on (t.trans t2))⟩
theorem sj_forR (j : Nat) {x : Str} {n : Nat} {px pr pc : Pos} (nd : X.N.Nodup) (hc : X.calm = true) (hm : X.mg "range" = none) (P : Nat → List VD → Bag → Prop) (hi : EJ X Γ B e (.da (.int n)) B1) (hn : n ≤ 100000) (h0 : P 0 Γ B1)
    (hs : ∀ i Γ' B', i < n → P i Γ' B' → SJ X (Γ'.set j (.da (.int (i : Nat)))) B' s1 { nx := P (i + 1), ct := P (i + 1), bk := fun Γ' B' => SJ X Γ' B' rest E, rt := E.rt })
    (hd : ∀ Γ' B', P n Γ' B' → SJ X Γ' B' rest E) (hN : X.N[j]? = some x := by rfl) (hx : Loc X.env.scope x := by first | exact Or.inl rfl | exact Or.inr rfl)
    (hf : X.fn x = true ∨ X.env.scope.names.lookup x = some .local := by first | exact Or.inl rfl | exact Or.inr rfl)
    (hp : PassesOwn (model X.prog X.w) X.A X.env X.xe := by exact PassesOwn.never) (hq : ∀ x, foldedSetIterable (.Call (.Name "range" pr) [e] [] pc) X.env x = pure x := by intro _; rfl)
    (hst : starEach [e] X.env = [(false, eval e X.env)] := by rfl) (hg : Gl X "range" := by rfl) :
    SJ X Γ B (.For (.Name x px) (.Call (.Name "range" pr) [e] [] pc) s1 [] pos :: rest) E := fun g σ H0 H Ev O D G =>
  ⟨_, pss_cons (ps_for hp hc (pi_range1 hg hm (wa [e]) hst) (pg_name nd hN hx hf) (ws s1) hq) (ws rest), (aj_cons (ds := []) hi aj_nil hst) g σ H0 H Ev O _ fun vs H1 H' t o r => by
    obtain ⟨v, rfl, h⟩ := rv1 r
    refine ⟨(n : Int), by rw [rvI h], by omega, by omega, ?_⟩
    rw [Int.toNat_natCast]
    refine for_range (lo := 0) (n := n) (fun i σ' H'' => ∃ Γ' B' H2, P i Γ' B' ∧ To g H1 H' H2 H'' ∧ EnvD X.K g H2 σ' Γ' ∧ On X.K g B' H2 H'') ⟨Γ, B1, H1, h0, To.refl, Ev.mono t.ex, o⟩ ?_ ?_
    · rintro i σ' H'' hlt ⟨Γ', B', H2, hP, t2, e2, o2⟩
      rw [Int.zero_add]
      refine hs i Γ' B' hlt hP g _ H2 H'' (e2.set (d := .da (.int (i : Nat))) j (Rp.int _)) o2 _ ⟨?_, ?_, ?_, ?_⟩
      · exact fun Γ3 B3 σ3 H3 H3' q t3 e3 o3 => ⟨Γ3, B3, H3, q, t2.trans t3, e3, o3⟩
      · exact fun r B3 v H3 H3' q t3 o3 rv => (G.on (t.trans t2)).rt r B3 v H3 H3' q t3 o3 rv
      · exact fun Γ3 B3 σ3 H3 H3' q t3 e3 o3 => q g σ3 H3 H3' e3 o3 D (G.on ((t.trans t2).trans t3))
      · exact fun Γ3 B3 σ3 H3 H3' q t3 e3 o3 => ⟨Γ3, B3, H3, q, t2.trans t3, e3, o3⟩
    · rintro σ' H'' ⟨Γ', B', H2, hP, t2, e2, o2⟩
      exact hd Γ' B' hP g σ' H2 H'' e2 o2 D (G.on (t.trans t2))⟩
end
end Gd
namespace Gd
open PySem PySem.Spec PyProof.Rows L2
section
variable {X : Cx} {Γ : List VD} {B B1 B2 B' : Bag} {e a b c : Expr} {es : List Expr} {d da db dc : VD} {pos p p' pos' : Pos} {rest ss s1 s2 : List Stmt} {E : En}
theorem shaped_ii (a b : Int) : SeqAt.shaped (.tuple [.int a, .int b]) = true := by
  unfold SeqAt.shaped
  have h1 : (PyData.tuple [.int a, .int b]).canLay0 = true := by simp only [PyData.canLay0, PyData.canLayAll0, Bool.and_self]
  rw [h1]; rfl
theorem eqv_ii (a b c d : Int) : PyData.eqv (.tuple [.int a, .int b]) (.tuple [.int c, .int d]) = (decide (a = c) && decide (b = d)) := by
  simp only [PyData.eqv, PyData.eqvAll, Bool.and_true]
  rw [← eqv_int, ← eqv_int]
  simp only [PyData.eqv]
end
end Gd
namespace Gd
open PySem PySem.Spec PyProof.Rows L2
section
variable {X : Cx} {Γ : List VD} {B B1 B2 B' : Bag} {a b : Expr} {pos : Pos}
end
end Gd
namespace Gd
open PySem PySem.Spec PyProof.Rows L2
theorem Cal.name {P : Program} {w : World} {K : PySem.W.Frag} {mg : Str → Option Value} {base : Heap} {x y : Str} {k : Nat} {R : Rel} {mg' : Str → Option Value} (e : mg x = mg y) (c : Cal P w K mg base x k R) : Cal P w K mg base y k R := by
  obtain ⟨f, fd, ps, F, hm, h⟩ := c
  exact ⟨f, fd, ps, F, e ▸ hm, h⟩
end Gd
namespace Lw
open PySem PySem.Spec PyProof.Rows L2 Gd Fr
open scoped Rat
structure Qz (n d : Nat) (q : Rat) : Prop where
  nu : Bd n q.num
  de : Bd d (q.den : Int)
theorem Qz.le {n d n' d' : Nat} {q : Rat} (h : Qz n d q) (e : n ≤ n') (f : d ≤ d') : Qz n' d' q := ⟨h.nu.le e, h.de.le f⟩
theorem num_ne {y : Rat} (h : y ≠ 0) : y.num ≠ 0 := fun z => h (Rat.num_eq_zero.mp z)
theorem bd_sum {a n : Nat} {i j : Int} (h : Bd a i) (k : Bd n j) (N : Nat) (h1 : a < N) (h2 : n < N) : Bd N (i + j) := by
  have := Int.natAbs_add_le i j
  have e1 : 2 ^ a ≤ 2 ^ (N - 1) := Nat.pow_le_pow_right (by decide) (by omega)
  have e2 : 2 ^ n ≤ 2 ^ (N - 1) := Nat.pow_le_pow_right (by decide) (by omega)
  have e3 : 2 ^ N = 2 ^ (N - 1) * 2 := by rw [← Nat.pow_succ]; congr 1; omega
  unfold Bd at *
  omega
theorem Qz.add {n d m c : Nat} {x y : Rat} (h : Qz n d x) (k : Qz m c y) (N : Nat) (h1 : n + c < N) (h2 : m + d < N) : Qz N (d + c) (x + y) := by
  rw [← add_div]
  have hne : (x.den : Int) * (y.den : Int) ≠ 0 := Int.mul_ne_zero (den_ne x) (den_ne y)
  have hb := bd_sum (h.nu.mul k.de) (k.nu.mul h.de) N h1 h2
  exact ⟨(divInt_bd hne hb (h.de.mul k.de)).1, (divInt_bd hne hb (h.de.mul k.de)).2⟩
theorem Qz.neg {n d : Nat} {x : Rat} (h : Qz n d x) : Qz n d (-x) := ⟨by rw [Rat.neg_num]; exact h.nu.neg, by rw [Rat.neg_den]; exact h.de⟩
theorem Qz.sub {n d m c : Nat} {x y : Rat} (h : Qz n d x) (k : Qz m c y) (N : Nat) (h1 : n + c < N) (h2 : m + d < N) : Qz N (d + c) (x - y) := by
  rw [Rat.sub_eq_add_neg]; exact h.add k.neg N h1 h2
theorem Qz.mul {n d m c : Nat} {x y : Rat} (h : Qz n d x) (k : Qz m c y) : Qz (n + m) (d + c) (x * y) := by
  rw [← mul_div]
  have hne : (x.den : Int) * (y.den : Int) ≠ 0 := Int.mul_ne_zero (den_ne x) (den_ne y)
  exact ⟨(divInt_bd hne (h.nu.mul k.nu) (h.de.mul k.de)).1, (divInt_bd hne (h.nu.mul k.nu) (h.de.mul k.de)).2⟩
theorem Qz.div {n d m c : Nat} {x y : Rat} (h : Qz n d x) (k : Qz m c y) (hy : y ≠ 0) : Qz (n + c) (d + m) (x / y) := by
  rw [← div_div x y hy]
  have hne : (x.den : Int) * y.num ≠ 0 := Int.mul_ne_zero (den_ne x) (num_ne hy)
  exact ⟨(divInt_bd hne (h.nu.mul k.de) (h.de.mul k.nu)).1, (divInt_bd hne (h.nu.mul k.de) (h.de.mul k.nu)).2⟩
theorem cmz {n m : Nat} {i j : Int} (h : Bd n i) (k : Bd m j) (e : n ≤ 100000 := by omega) (e' : m ≤ 100000 := by omega) : CMulW i j := cm h k (by omega)
theorem Qz.nat {a n : Nat} (h : a < 2 ^ n) : Qz n 1 (a : Rat) := ⟨by rw [Rat.num_natCast]; exact Bd.nat h, by rw [Rat.den_natCast]; unfold Bd; decide⟩
inductive R_reduced : Rel
  | mk (n d : Int) (B : Bag) (h : d ≠ 0) (hn : Bd 8900 d) : R_reduced [.da (.int n), .da (.int d)] B (fq (n /. d)) B
inductive R_two (f : Rat → Rat → Rat) : Rel
  | mk (n d m c : Nat) (x y : Rat) (B : Bag) (hx : Qz n d x) (hy : Qz m c y) (h1 : n ≤ 90000) (h2 : m ≤ 90000) (h3 : d + c ≤ 8900) : R_two f [.da (fq x), .da (fq y)] B (fq (f x y)) B
def cmp (x y : Rat) : Int := if x < y then -1 else if y < x then 1 else 0
inductive R_cmp : Rel
  | mk (n d m c : Nat) (x y : Rat) (B : Bag) (hx : Qz n d x) (hy : Qz m c y) (h1 : n + d ≤ 90000) (h2 : m + c ≤ 90000) : R_cmp [.da (fq x), .da (fq y)] B (.int (cmp x y)) B
def absQ (x : Rat) : Rat := if x < 0 then -x else x
theorem num_neg_iff (x : Rat) : x.num < 0 ↔ x < 0 := by
  rw [Rat.lt_iff]
  show x.num < 0 ↔ x.num * 1 < 0 * _
  rw [Int.mul_one, Int.zero_mul]
theorem absQ_num (x : Rat) : (absQ x).num = (if x.num < 0 then -x.num else x.num) ∧ (absQ x).den = x.den := by
  unfold absQ
  by_cases h : x < 0
  · rw [if_pos h, if_pos ((num_neg_iff x).mpr h), Rat.neg_num, Rat.neg_den]; exact ⟨rfl, rfl⟩
  · rw [if_neg h, if_neg (fun z => h ((num_neg_iff x).mp z))]; exact ⟨rfl, rfl⟩
theorem Qz.abs {n d : Nat} {x : Rat} (h : Qz n d x) : Qz n d (absQ x) := by
  unfold absQ; split
  · exact h.neg
  · exact h
inductive R_one (v : Rat → PyData) : Rel
  | mk (x : Rat) (B : Bag) : R_one v [.da (fq x)] B (v x) B
def sgn (x : Rat) : Int := if x.num < 0 then 1 else 0
def pt (l m : Int) : Int := if l = 0 then 0 else if 2 * l < m then 1 else if 2 * l = m then 2 else 3
inductive R_part : Rel
  | mk (l m : Int) (B : Bag) (n : Nat) (hl : Bd n l) (hn : n ≤ 90000) : R_part [.da (.int l), .da (.int m)] B (.int (pt l m)) B
def outw (way : Str) (s c part : Int) : Bool :=
  if part = 0 ∨ way = "zero" then false
  else if way = "up" then decide (s = 0)
  else if way = "down" then decide (s = 1)
  else if part = 2 then (decide (way = "away") || decide (c % 2 = 1))
  else decide (part = 3)
inductive R_outw : Rel
  | mk (way : Str) (s c part : Int) (B : Bag) : R_outw [.da (.str way), .da (.int s), .da (.int c), .da (.int part)] B (.bool (outw way s c part)) B
def absI (i : Int) : Int := if i < 0 then -i else i
theorem bd_pow {b : Nat} (k : Nat) (h : b < 2 ^ 6) : Bd (6 * k + 1) (((b ^ k : Nat) : Int)) := by
  unfold Bd
  rw [Int.natAbs_natCast, Nat.pow_succ, Nat.pow_mul]
  have := Nat.pow_le_pow_left (Nat.le_of_lt h) k
  have p : 0 < (2 ^ 6) ^ k := Nat.pow_pos (by decide)
  omega
def intAt (Γ : List VD) (i : Nat) : Int := match Γ[i]? with
  | some (.da (.int m)) => m
  | _ => 0
theorem pow_sq (b k : Nat) : ((b ^ k : Nat) : Int) * ((b ^ k : Nat) : Int) = ((b ^ (k + k) : Nat) : Int) := by rw [← Int.natCast_mul, ← Nat.pow_add]
theorem pow_up (b j k : Nat) : ((b ^ j : Nat) : Int) * ((b ^ k : Nat) : Int) = ((b ^ (j + k) : Nat) : Int) := by rw [← Int.natCast_mul, ← Nat.pow_add]
theorem half (m : Nat) : (m : Int) / 2 = ((m / 2 : Nat) : Int) := by omega
theorem turn_odd {j k m e : Nat} (h : j + k * m = e) (h1 : m % 2 = 1) : (j + k) + (k + k) * (m / 2) = e := by
  have : m = 2 * (m / 2) + 1 := by omega
  rw [this] at h
  generalize m / 2 = t at *
  grind
theorem turn_even {j k m e : Nat} (h : j + k * m = e) (h1 : ¬ m % 2 = 1) : j + (k + k) * (m / 2) = e := by
  have : m = 2 * (m / 2) := by omega
  rw [this] at h
  generalize m / 2 = t at *
  grind
theorem k_le {j k m e : Nat} (h : j + k * m = e) (h1 : 0 < m) : k ≤ e ∧ j ≤ e := by
  have : k * 1 ≤ k * m := Nat.mul_le_mul_left k h1
  omega
theorem j_end {j k m e : Nat} (h : j + k * m = e) (h1 : ¬ 0 < m) : j = e := by
  have : m = 0 := by omega
  subst this; omega
inductive R_pow : Rel
  | mk (b e : Nat) (B : Bag) (hb : b < 2 ^ 6) (he : e ≤ 20000) : R_pow [.da (.int b), .da (.int e)] B (.int ((b ^ e : Nat) : Int)) B
def pw (b : Nat) (e : Int) : Rat := if e < 0 then ((b ^ (-e).toNat : Nat) : Rat)⁻¹ else ((b ^ e.toNat : Nat) : Rat)
theorem fq_nat (n : Nat) : fq (n : Rat) = .tuple [.int n, .int 1] := by unfold fq; rw [Rat.num_natCast, Rat.den_natCast]; rfl
theorem fq_inv {n : Nat} (h : 0 < n) : fq ((n : Rat)⁻¹) = .tuple [.int 1, .int n] := by
  unfold fq
  rw [Rat.num_inv, Rat.den_inv, Rat.num_natCast, Rat.den_natCast, if_neg (by omega), Int.sign_eq_one_of_pos (by omega)]
  rfl
inductive R_power_of : Rel
  | mk (b : Nat) (e : Int) (B : Bag) (h0 : 0 < b) (hb : b < 2 ^ 6) (h1 : -20000 ≤ e) (h2 : e ≤ 20000) : R_power_of [.da (.int b), .da (.int e)] B (fq (pw b e)) B
inductive R_bag : Rel
  | mk (ns : List Int) (B : Bag) (hl : ns.length ≤ 63) : R_bag [.scr ns] B (.list [.int 0, .int 1234567891, .int 0, .list (((ns.take 63).map absI).map .int)]) B
theorem cut_head (ns : List Int) (n : Nat) : cutP (ns.map PyData.int) none (some (n : Int)) = (ns.take n).map PyData.int := by
  unfold cutP
  rw [HT.sIx_none, HT.sIx_nat, List.drop_zero, List.length_map, Nat.sub_zero, ← List.map_take]
  congr 1
  by_cases h : n ≤ ns.length
  · rw [Nat.min_eq_left h]
  · rw [Nat.min_eq_right (by omega), List.take_length, List.take_of_length_le (by omega)]
def cell (B : Bag) : Int := ((B.cs.drop (HT.sIx B.cs.length 0 (some B.z))) ++ [0]).headD 0
def stir (B : Bag) : Bag :=
  if B.x = 0 then ⟨if 10 ^ 18 ≤ cell B then cell B else B.x, (B.y * 48271 + cell B % 2147483647 + 7919 * (B.z + 1)) % 2147483647, B.z + 1, B.cs⟩ else B
def low (B : Bag) : Int := (((B.y + 1) * 39373) % 1000000007 * (((B.y + 1) * 39373) % 1000000007) % 998244353 * 30011) % 998244353 / 7
def tkV (B : Bag) (m : Int) : Int := if 0 < (stir B).x then (stir B).x % m else low (stir B) % m
def tkB (B : Bag) (m : Int) : Bag := if 0 < (stir B).x then { stir B with x := (stir B).x / m } else stir B
theorem tkV_ge (B : Bag) {m : Int} (h : 0 < m) : 0 ≤ tkV B m := by
  unfold tkV; split <;> exact Int.emod_nonneg _ (Int.ne_of_gt h)
theorem tkV_lt (B : Bag) {m : Int} (h : 0 < m) : tkV B m < m := by
  unfold tkV; split <;> exact Int.emod_lt_of_pos _ h
def Bok (B : Bag) : Prop := B.cs.length ≤ 63
theorem stir_ok {B : Bag} (h : Bok B) : Bok (stir B) := by
  unfold stir; split <;> exact h
theorem tkB_ok {B : Bag} (h : Bok B) (m : Int) : Bok (tkB B m) := by
  unfold tkB; split <;> exact stir_ok h
inductive R_take : Rel
  | mk (B : Bag) (m : Int) (h : 0 < m) (hb : Bd 8000 m) (hc : Bok B) : R_take [.bag, .da (.int m)] B (.int (tkV B m)) (tkB B m)
theorem drop_cell (B : Bag) : atI (cutP (B.cs.map PyData.int) (some B.z) none ++ [PyData.int 0]) 0 = some (.int (cell B)) := by
  have e : cutP (B.cs.map PyData.int) (some B.z) none = (B.cs.drop (HT.sIx B.cs.length 0 (some B.z))).map PyData.int := by
    unfold cutP
    rw [HT.sIx_none, List.length_map, ← List.map_drop, List.take_of_length_le]
    rw [List.length_map, List.length_drop]; omega
  rw [e]
  unfold cell
  cases B.cs.drop (HT.sIx B.cs.length 0 (some B.z)) with
  | nil => rfl
  | cons c cs =>
    show atI (PyData.int c :: _) ((0 : Nat) : Int) = some (.int c)
    exact atI_nat rfl
def pick (ds : List PyData) (B : Bag) : PyData := ds.getD (tkV B ds.length).toNat .none
inductive R_some : Rel
  | mk (B : Bag) (ds : List PyData) (h : 0 < ds.length) (hl : ds.length ≤ 1000) (hc : Bok B) : R_some [.bag, .da (.list ds)] B (pick ds B) (tkB B ds.length)
theorem pick_at (ds : List PyData) (B : Bag) (h : 0 < ds.length) : atI ds (tkV B ds.length) = some (pick ds B) := by
  have h0 := tkV_ge B (m := ds.length) (by omega)
  have h1 := tkV_lt B (m := ds.length) (by omega)
  have e : tkV B ds.length = ((tkV B ds.length).toNat : Int) := by omega
  have hlt : (tkV B ds.length).toNat < ds.length := by omega
  conv => lhs; rw [e]
  refine atI_nat ?_
  unfold pick
  rw [List.getD_eq_getElem?_getD, List.getElem?_eq_getElem hlt]; rfl
def wayList : List Str := ["even", "away", "up", "down", "zero"]
end Lw
namespace Lw
open PySem PySem.Spec PyProof.Rows L2 Gd Fr
open scoped Rat
theorem ltle {a b c : Rat} (h : a < b) (k : b ≤ c) : a < c := by grind
theorem lelt {a b c : Rat} (h : a ≤ b) (k : b < c) : a < c := by grind
theorem pw_eq (b : Nat) (e : Int) : pw b e = (b : Rat) ^ e := by
  unfold pw
  by_cases h : e < 0
  · rw [if_pos h]
    have e1 : e = -((-e).toNat : Int) := by omega
    conv => rhs; rw [e1]
    rw [Rat.zpow_neg, Rat.zpow_natCast, Rat.natCast_pow]
  · rw [if_neg h]
    have e1 : e = (e.toNat : Int) := by omega
    conv => rhs; rw [e1]
    rw [Rat.zpow_natCast, Rat.natCast_pow]
section
variable {b p : Nat} (h2 : 2 ≤ b)
include h2
theorem b_pos : (0 : Rat) < (b : Rat) := Rat.natCast_pos.mpr (by omega)
theorem pw_pos (e : Int) : 0 < pw b e := by rw [pw_eq]; exact Rat.zpow_pos (b_pos h2)
theorem pw_ne (e : Int) : pw b e ≠ 0 := fun z => by have := pw_pos h2 e; rw [z] at this; exact absurd this (by decide)
theorem pw_add (x y : Int) : pw b (x + y) = pw b x * pw b y := by
  rw [pw_eq, pw_eq, pw_eq]
  exact Rat.zpow_add (fun z => by have := b_pos h2; rw [z] at this; exact absurd this (by decide)) x y
omit h2 in
theorem pw_nat (n : Nat) : pw b (n : Int) = ((b ^ n : Nat) : Rat) := by
  unfold pw; rw [if_neg (by omega), Int.toNat_natCast]
omit h2 in
theorem pw_zero : pw b 0 = 1 := by
  have := pw_nat (b := b) 0
  rw [Nat.pow_zero] at this; exact this
omit h2 in
theorem pw_of {e : Int} (h : 0 ≤ e) : pw b e = ((b ^ e.toNat : Nat) : Rat) := by
  unfold pw; rw [if_neg (by omega)]
theorem pw_ge1 {e : Int} (h : 0 ≤ e) : 1 ≤ pw b e := by
  rw [pw_of h]
  have : 1 ≤ b ^ e.toNat := Nat.pow_pos (by omega)
  exact Rat.natCast_le_natCast.mpr this
theorem pw_mono {x y : Int} (h : x ≤ y) : pw b x ≤ pw b y := by
  have e : y = (y - x) + x := by omega
  rw [e, pw_add h2]
  have h1 := pw_ge1 h2 (e := y - x) (by omega)
  have := Rat.mul_le_mul_of_nonneg_right h1 (Rat.le_of_lt (pw_pos h2 x))
  rw [Rat.one_mul] at this; exact this
theorem pw_lt {x y : Int} (h : x < y) : pw b x < pw b y := by
  have e : pw b (x + 1) = (b : Rat) * pw b x := by
    rw [Int.add_comm, pw_add h2]; congr 1
    have := pw_nat (b := b) 1; rw [Nat.pow_one] at this; exact this
  have h1 : pw b x < pw b (x + 1) := by
    rw [e]
    have : (1 : Rat) < (b : Rat) := Rat.natCast_lt_natCast.mpr (show 1 < b by omega)
    have := Rat.mul_lt_mul_of_pos_right this (pw_pos h2 x)
    rw [Rat.one_mul] at this; exact this
  exact ltle h1 (pw_mono h2 (by omega))
def IsE (b p : Nat) (low : Int) (q : Rat) (e : Int) : Prop := low ≤ e ∧ q < pw b (p + e) ∧ (e = low ∨ pw b (p + e - 1) ≤ q)
theorem isE_uniq {low e e' : Int} {q : Rat} (h : IsE b p low q e) (h' : IsE b p low q e') : e = e' := by
  have key : ∀ {e e' : Int}, IsE b p low q e → IsE b p low q e' → ¬ e < e' := by
    rintro e e' ⟨a1, a2, a3⟩ ⟨b1, b2, b3⟩ hlt
    rcases b3 with b3 | b3
    · omega
    · have := pw_mono h2 (x := p + e) (y := p + e' - 1) (by omega)
      exact absurd (ltle a2 (Rat.le_trans this b3)) (Rat.lt_irrefl)
  have k1 := key h h'
  have k2 := key h' h
  omega
end
def Nq (b : Nat) (e : Int) (q : Rat) : Int := q.num * ((b ^ (-e).toNat : Nat) : Int)
def Dq (b : Nat) (e : Int) (q : Rat) : Int := (q.den : Int) * ((b ^ e.toNat : Nat) : Int)
def cQ (b : Nat) (e : Int) (q : Rat) : Int := Nq b e q / Dq b e q
def rQ (b : Nat) (e : Int) (q : Rat) : Int := Nq b e q % Dq b e q
def tQ (b : Nat) (e : Int) (q : Rat) : Rat := (rQ b e q : Rat) / (Dq b e q : Rat)
section
variable {b p : Nat} (h2 : 2 ≤ b)
include h2
theorem Dq_pos (e : Int) (q : Rat) : 0 < Dq b e q := Int.mul_pos (den_pos q) (Int.natCast_pos.mpr (Nat.pow_pos (by omega)))
theorem Dq_ne (e : Int) (q : Rat) : ((Dq b e q : Int) : Rat) ≠ 0 := fun z => by
  have := Dq_pos h2 e q
  have e0 : Dq b e q = 0 := Rat.intCast_inj.mp (z.trans (by rfl))
  omega
theorem unit_ND (e : Int) : pw b e * ((b ^ (-e).toNat : Nat) : Rat) = ((b ^ e.toNat : Nat) : Rat) := by
  by_cases h : e < 0
  · have h1 : e.toNat = 0 := by omega
    rw [h1, Nat.pow_zero]
    unfold pw; rw [if_pos h]
    have : ((b ^ (-e).toNat : Nat) : Rat) ≠ 0 := fun z => by
      have h3 : 0 < b ^ (-e).toNat := Nat.pow_pos (by omega)
      have := Rat.natCast_pos.mpr h3
      rw [z] at this; exact absurd this (by decide)
    rw [Rat.mul_comm, Rat.mul_inv_cancel _ this]; rfl
  · have h1 : (-e).toNat = 0 := by omega
    rw [h1, Nat.pow_zero, pw_of (by omega)]
    exact Rat.mul_one _
omit h2 in
theorem num_den (q : Rat) : q * ((q.den : Int) : Rat) = (q.num : Rat) := by
  have h := Rat.num_divInt_den q
  rw [Rat.divInt_eq_div] at h
  have hd : ((q.den : Int) : Rat) ≠ 0 := fun z => by
    have e0 : (q.den : Int) = 0 := Rat.intCast_inj.mp (z.trans (by rfl))
    exact den_ne q e0
  conv => lhs; lhs; rw [← h]
  exact Rat.div_mul_cancel hd
theorem ND (e : Int) (q : Rat) : q * (Dq b e q : Rat) = (Nq b e q : Rat) * pw b e := by
  unfold Dq Nq
  rw [Rat.intCast_mul, Rat.intCast_mul, ← num_den q, Rat.intCast_natCast, Rat.intCast_natCast, Rat.intCast_natCast, ← unit_ND h2 e]
  grind
theorem q_val (e : Int) (q : Rat) : q = ((cQ b e q : Rat) + tQ b e q) * pw b e := by
  have hne := Dq_ne h2 e q
  have h := ND h2 e q
  have hd := Int.emod_add_mul_ediv (Nq b e q) (Dq b e q)
  have hd' : (Nq b e q : Rat) = (rQ b e q : Rat) + (Dq b e q : Rat) * (cQ b e q : Rat) := by
    rw [← Rat.intCast_mul, ← Rat.intCast_add]
    exact congrArg _ hd.symm
  have ht : tQ b e q * (Dq b e q : Rat) = (rQ b e q : Rat) := Rat.div_mul_cancel hne
  have : q * (Dq b e q : Rat) = (((cQ b e q : Rat) + tQ b e q) * pw b e) * (Dq b e q : Rat) := by
    rw [h, hd', ← ht]; grind
  have h3 := congrArg (· / (Dq b e q : Rat)) this
  simp only [Rat.mul_div_cancel hne] at h3
  exact h3
theorem r_ge (e : Int) (q : Rat) : 0 ≤ rQ b e q := Int.emod_nonneg _ (Int.ne_of_gt (Dq_pos h2 e q))
theorem r_lt (e : Int) (q : Rat) : rQ b e q < Dq b e q := Int.emod_lt_of_pos _ (Dq_pos h2 e q)
theorem Dq_posQ (e : Int) (q : Rat) : (0 : Rat) < (Dq b e q : Rat) := Rat.intCast_lt_intCast.mpr (Dq_pos h2 e q)
theorem t_mul (e : Int) (q : Rat) : tQ b e q * (Dq b e q : Rat) = (rQ b e q : Rat) := Rat.div_mul_cancel (Dq_ne h2 e q)
theorem t_lt_iff (e : Int) (q : Rat) (m : Int) (k : Nat) (hk : 0 < k) : (k : Rat) * tQ b e q < (m : Rat) ↔ k * rQ b e q < m * Dq b e q := by
  rw [← Rat.mul_lt_mul_right (Dq_posQ h2 e q), Rat.mul_assoc, t_mul h2, ← Rat.intCast_natCast, ← Rat.intCast_mul, ← Rat.intCast_mul, Rat.intCast_lt_intCast]
theorem t_eq_iff (e : Int) (q : Rat) (m : Int) (k : Nat) : (k : Rat) * tQ b e q = (m : Rat) ↔ k * rQ b e q = m * Dq b e q := by
  rw [← Rat.intCast_inj, Rat.intCast_mul, Rat.intCast_mul, ← t_mul h2, Rat.intCast_natCast, ← Rat.mul_assoc]
  constructor
  · intro h; rw [h]
  · intro h
    have h3 := congrArg (· / (Dq b e q : Rat)) h
    simp only [Rat.mul_div_cancel (Dq_ne h2 e q)] at h3
    exact h3
theorem t_ge (e : Int) (q : Rat) : 0 ≤ tQ b e q := by
  rw [← Rat.not_lt]
  intro h
  have := (t_lt_iff h2 e q 0 1 (by decide)).mp (by rw [show ((1 : Nat) : Rat) = 1 from rfl, Rat.one_mul]; exact h)
  have := r_ge h2 e q
  omega
theorem t_lt1 (e : Int) (q : Rat) : tQ b e q < 1 := by
  have := (t_lt_iff h2 e q 1 1 (by decide)).mpr (by have := r_lt h2 e q; omega)
  rw [show ((1 : Nat) : Rat) = 1 from rfl, Rat.one_mul] at this; exact this
theorem t_zero (e : Int) (q : Rat) : tQ b e q = 0 ↔ rQ b e q = 0 := by
  have := t_eq_iff h2 e q 0 1
  rw [show ((1 : Nat) : Rat) = 1 from rfl, Rat.one_mul] at this
  rw [show ((0 : Int) : Rat) = 0 from rfl] at this
  rw [this]; constructor <;> intro <;> omega
end
end Lw
namespace Lw
open PySem PySem.Spec PyProof.Rows L2 Gd Fr
open scoped Rat
theorem cast_lt {a c : Int} : (a : Rat) < (c : Rat) ↔ a < c := Rat.intCast_lt_intCast
theorem cast_le {a c : Int} : (a : Rat) ≤ (c : Rat) ↔ a ≤ c := Rat.intCast_le_intCast
theorem cast_s (a : Int) : ((a + 1 : Int) : Rat) = (a : Rat) + 1 := by rw [Rat.intCast_add]; rfl
section
variable {b p : Nat} (h2 : 2 ≤ b)
include h2
theorem c_uniq {e : Int} {q s : Rat} {C : Int} (h : q = ((C : Rat) + s) * pw b e) (h0 : 0 ≤ s) (h1 : s < 1) : cQ b e q = C ∧ tQ b e q = s := by
  have hv := q_val h2 e q
  have hu := pw_ne h2 e
  have t0 := t_ge h2 e q
  have t1 := t_lt1 h2 e q
  rw [h] at hv
  have e1 : (C : Rat) + s = (cQ b e q : Rat) + tQ b e q := by
    have := congrArg (· / pw b e) hv
    simp only [Rat.mul_div_cancel hu] at this
    rw [h]; exact this
  have a1 : (C : Rat) < ((cQ b e q + 1 : Int) : Rat) := by rw [cast_s]; grind
  have a2 : (cQ b e q : Rat) < ((C + 1 : Int) : Rat) := by rw [cast_s]; grind
  have a1 := cast_lt.mp a1
  have a2 := cast_lt.mp a2
  have e2 : cQ b e q = C := by omega
  rw [e2] at e1
  exact ⟨e2, by grind⟩
theorem c_ge {q : Rat} (h : 0 ≤ q) (e : Int) : 0 ≤ cQ b e q :=
  Int.ediv_nonneg (Int.mul_nonneg (Rat.num_nonneg.mpr h) (Int.natCast_nonneg _)) (Int.le_of_lt (Dq_pos h2 e q))
theorem c_le (e : Int) (q : Rat) : (cQ b e q : Rat) * pw b e ≤ q := by
  have hv := q_val h2 e q
  have := Rat.mul_le_mul_of_nonneg_right (show (cQ b e q : Rat) ≤ (cQ b e q : Rat) + tQ b e q by have := t_ge h2 e q; grind) (Rat.le_of_lt (pw_pos h2 e))
  rw [← hv] at this; exact this
theorem c_up (e : Int) (q : Rat) : q < ((cQ b e q : Rat) + 1) * pw b e := by
  have hv := q_val h2 e q
  have := Rat.mul_lt_mul_of_pos_right (show (cQ b e q : Rat) + tQ b e q < (cQ b e q : Rat) + 1 by have := t_lt1 h2 e q; grind) (pw_pos h2 e)
  rw [← hv] at this; exact this
theorem pw_p (n : Nat) (e : Int) : pw b (n + e) = (((b ^ n : Nat) : Int) : Rat) * pw b e := by rw [pw_add h2, pw_nat, Rat.intCast_natCast]
theorem c_lt {low e : Int} {q : Rat} (h : IsE b p low q e) : cQ b e q < ((b ^ p : Nat) : Int) := by
  have h1 := lelt (c_le h2 e q) h.2.1
  rw [pw_p h2, Rat.mul_lt_mul_right (pw_pos h2 e)] at h1
  exact cast_lt.mp h1
theorem c_big {low e : Int} {q : Rat} (hp : 1 ≤ p) (h : IsE b p low q e) : e = low ∨ ((b ^ (p - 1) : Nat) : Int) ≤ cQ b e q := by
  rcases h.2.2 with h | h
  · exact .inl h
  · refine .inr ?_
    have e1 : (p : Int) + e - 1 = ((p - 1 : Nat) : Int) + e := by omega
    rw [e1, pw_p h2] at h
    have h1 := lelt h (c_up h2 e q)
    rw [Rat.mul_lt_mul_right (pw_pos h2 e), ← cast_s] at h1
    have := cast_lt.mp h1
    omega
def Can (b p : Nat) (low C e : Int) : Prop := 0 ≤ C ∧ C < ((b ^ p : Nat) : Int) ∧ low ≤ e ∧ (e = low ∨ ((b ^ (p - 1) : Nat) : Int) ≤ C)
theorem spot_can {low e : Int} {q : Rat} (hp : 1 ≤ p) (h0 : 0 ≤ q) (h : IsE b p low q e) : Can b p low (cQ b e q) e := ⟨c_ge h2 h0 e, c_lt h2 h, h.1, c_big h2 hp h⟩
theorem isE_ex (low : Int) (q : Rat) : ∃ e, IsE b p low q e := by
  have step : ∀ n : Nat, q < pw b (p + (low + n)) → ∃ e, IsE b p low q e := by
    intro n
    induction n with
    | zero => intro h; exact ⟨low, Int.le_refl _, by rw [show (low + (0 : Nat) : Int) = low by omega] at h; exact h, .inl rfl⟩
    | succ n ih =>
      intro h
      by_cases h1 : q < pw b (p + (low + n))
      · exact ih h1
      · refine ⟨low + (n + 1 : Nat), by omega, h, .inr ?_⟩
        rw [show (p : Int) + (low + (n + 1 : Nat)) - 1 = p + (low + n) by omega]
        exact Rat.not_lt.mp h1
  refine step (q.num.natAbs + (-(p + low)).toNat) ?_
  have h1 : pw b (q.num.natAbs : Int) ≤ pw b (p + (low + (q.num.natAbs + (-(p + low)).toNat : Nat))) := pw_mono h2 (by omega)
  refine ltle ?_ h1
  rw [pw_nat]
  have h3 : q.num.natAbs < b ^ q.num.natAbs := Nat.lt_pow_self (by omega)
  by_cases hq : 0 ≤ q
  · have h4 : q ≤ (q.num : Rat) := by
      have hd := num_den q
      have h5 : (1 : Rat) ≤ ((q.den : Int) : Rat) := cast_le.mpr (show 1 ≤ (q.den : Int) by have := den_pos q; omega)
      have := Rat.mul_le_mul_of_nonneg_left h5 hq
      rw [hd, Rat.mul_one] at this; exact this
    refine lelt h4 ?_
    rw [← Rat.intCast_natCast]
    exact cast_lt.mpr (by omega)
  · rw [Rat.not_le] at hq
    have := Rat.natCast_pos.mpr (show 0 < b ^ q.num.natAbs by omega)
    exact ltle hq (Rat.le_of_lt this)
end
open Classical in
noncomputable def eQ (b p : Nat) (low : Int) (q : Rat) : Int := if h : ∃ e, IsE b p low q e then h.choose else low
theorem eQ_is {b p : Nat} (h2 : 2 ≤ b) (low : Int) (q : Rat) : IsE b p low q (eQ b p low q) := by
  have h := isE_ex (p := p) h2 low q
  unfold eQ; rw [dif_pos h]; exact h.choose_spec
theorem eQ_of {b p : Nat} (h2 : 2 ≤ b) {low e : Int} {q : Rat} (h : IsE b p low q e) : eQ b p low q = e := isE_uniq h2 (eQ_is h2 low q) h
def upN (b p : Nat) (c e : Int) : Int × Int := if c + 1 = ((b ^ p : Nat) : Int) then (((b ^ (p - 1) : Nat) : Int), e + 1) else (c + 1, e)
def nb (b p : Nat) (o : Bool) (c e : Int) : Int × Int := if o = true then upN b p c e else (c, e)
def words (l : List Str) : PyData := .tuple (l.map .str)
def nm (s c e : Int) : PyData := .tuple [.str "num", .int s, .int c, .int e]
def isInf (way : Str) (s : Int) : Bool := decide (way = "even" ∨ way = "away") || (decide (way = "up") && decide (s = 0)) || (decide (way = "down") && decide (s = 1))
def tooG (b p : Nat) (high : Int) (way : Str) (s : Int) : PyData := if isInf way s = true then .tuple [.str "inf", .int s] else nm s (((b ^ p : Nat) : Int) - 1) high
def outP (b p : Nat) (high : Int) (way : Str) (s e c part : Int) : PyData :=
  if high < (nb b p (outw way s c part) c e).2 then .tuple [tooG b p high way s, words ["inexact", "over"]]
  else .tuple [nm s (nb b p (outw way s c part) c e).1 (nb b p (outw way s c part) c e).2, if part = 0 then words [] else if c < ((b ^ (p - 1) : Nat) : Int) then words ["inexact", "tiny"] else words ["inexact"]]
noncomputable def rdP (b p : Nat) (low high : Int) (way : Str) (x : Rat) (s : Int) : PyData :=
  outP b p high way (if x = 0 then s else sgn x) (eQ b p low (absQ x)) (cQ b (eQ b p low (absQ x)) (absQ x)) (pt (rQ b (eQ b p low (absQ x)) (absQ x)) (Dq b (eQ b p low (absQ x)) (absQ x)))
end Lw
set_option exponentiation.threshold 4000
namespace Lw
open PySem PySem.Spec PyProof.Rows L2 Gd Fr
open scoped Rat
structure Fm (b p : Nat) (low high : Int) : Prop where
  b2 : 2 ≤ b
  b6 : b < 2 ^ 6
  p2 : 2 ≤ p
  p7 : p ≤ 120
  lo : -1200 ≤ low
  lh : low ≤ high
  hi : high ≤ 1200
  bp : b ^ p < 2 ^ 700
  bl : b ^ (-low).toNat < 2 ^ 2340
  bh : b ^ high.toNat < 2 ^ 2340
def fmP (b p : Nat) (low high : Int) : PyData := .tuple [.int b, .int p, .int low, .int high]
theorem pw_bd {b : Nat} (h2 : 2 ≤ b) {e : Int} {n d : Nat} (hn : b ^ e.toNat < 2 ^ n) (hd : b ^ (-e).toNat < 2 ^ d) (h1 : 1 ≤ n) (h1' : 1 ≤ d) : Qz n d (pw b e) := by
  unfold pw
  by_cases h : e < 0
  · rw [if_pos h]
    have hp : 0 < b ^ (-e).toNat := Nat.pow_pos (by omega)
    refine ⟨?_, ?_⟩
    · rw [Rat.num_inv, Rat.num_natCast, Rat.den_natCast]
      have : (((b ^ (-e).toNat : Nat) : Int)).sign = 1 := Int.sign_eq_one_of_pos (by omega)
      rw [this]
      exact (show Bd 1 (1 * ((1 : Nat) : Int)) by unfold Bd; decide).le h1
    · rw [Rat.den_inv, Rat.num_natCast, if_neg (by omega), Int.natAbs_natCast]
      exact Bd.nat hd
  · rw [if_neg h]
    exact ⟨by rw [Rat.num_natCast]; exact Bd.nat hn, by rw [Rat.den_natCast]; exact (show Bd 1 ((1 : Nat) : Int) by unfold Bd; decide).le h1'⟩
section
variable {b p : Nat} {low high : Int} (F : Fm b p low high)
include F
theorem Fm.pow_lo {e : Int} (h : low ≤ e) : b ^ (-e).toNat < 2 ^ 2340 := Nat.lt_of_le_of_lt (Nat.pow_le_pow_right (by have := F.b2; omega) (by omega)) F.bl
theorem Fm.e_bd {q : Rat} {e : Int} {n d : Nat} (hq : Qz n d q) (h0 : 0 ≤ q) (hE : IsE b p low q e) : (q.den * b ^ e.toNat < 2 ^ n ∧ 0 < e ∧ low < e) ∨ (e ≤ 0 ∨ e = low) := by
  by_cases h : 0 < e ∧ low < e
  · refine .inl ⟨?_, h⟩
    have h3 := hE.2.2
    have h4 : pw b (p + e - 1) ≤ q := by
      rcases h3 with z | z
      · omega
      · exact z
    have h5 : pw b (e : Int) ≤ q := Rat.le_trans (pw_mono F.b2 (by have := F.p2; omega)) h4
    have hd0 : (0 : Rat) ≤ ((q.den : Int) : Rat) := cast_le.mpr (Int.le_of_lt (den_pos q))
    have h6 := Rat.mul_le_mul_of_nonneg_right h5 hd0
    rw [num_den, pw_of (by omega), ← Rat.intCast_natCast, ← Rat.intCast_mul] at h6
    have h7 := cast_le.mp h6
    have h8 := hq.nu
    unfold Bd at h8
    have h9 : (q.den : Int) * ((b ^ e.toNat : Nat) : Int) ≤ q.num := by rw [Int.mul_comm]; exact h7
    have h10 : ((q.den * b ^ e.toNat : Nat) : Int) ≤ q.num := by rw [Int.natCast_mul]; exact h9
    omega
  · exact .inr (by have := hE.1; omega)
end
section
variable {b p : Nat} (h2 : 2 ≤ b)
include h2
end
theorem outw_even {s c k : Int} (hk : k ≠ 0) : outw "even" s c k = if k = 2 then decide (c % 2 = 1) else decide (k = 3) := by
  unfold outw
  rw [if_neg (show ¬ (k = 0 ∨ ("even" : Str) = "zero") from fun z => z.elim hk fun y => absurd y (by decide)), if_neg (show ¬ ("even" : Str) = "up" by decide), if_neg (show ¬ ("even" : Str) = "down" by decide),
    show decide (("even" : Str) = "away") = false by decide, Bool.false_or]
end Lw
set_option exponentiation.threshold 4000
namespace Lw
open PySem PySem.Spec PyProof.Rows L2 Gd Fr
open scoped Rat
section
variable {b p : Nat} {low e : Int} {q : Rat} (h2 : 2 ≤ b) (hp : 2 ≤ p)
include h2
omit h2 in
theorem pt_zero : pt (rQ b e q) (Dq b e q) = 0 ↔ rQ b e q = 0 := by
  unfold pt
  constructor
  · intro h
    by_cases hr : rQ b e q = 0
    · exact hr
    · rw [if_neg hr] at h
      split at h
      · exact absurd h (by decide)
      · split at h <;> exact absurd h (by decide)
  · intro h; rw [if_pos h]
include hp
end
end Lw
set_option exponentiation.threshold 20000
namespace Lw
open PySem PySem.Spec PyProof.Rows L2 Gd Fr
open scoped Rat
theorem pow_uniq {b k j w : Nat} (h2 : 2 ≤ b) (h1 : b ^ k ≤ w) (h3 : w < b ^ (k + 1)) (h1' : b ^ j ≤ w) (h3' : w < b ^ (j + 1)) : k = j := by
  have a := (Nat.pow_lt_pow_iff_right (by omega : 1 < b)).mp (Nat.lt_of_le_of_lt h1 h3')
  have c := (Nat.pow_lt_pow_iff_right (by omega : 1 < b)).mp (Nat.lt_of_le_of_lt h1' h3)
  omega
def sqs (b j : Nat) : List PyData := (List.range j).map fun i => .int ((b ^ 2 ^ i : Nat) : Int)
theorem sqs_len (b j : Nat) : (sqs b j).length = j := by unfold sqs; rw [List.length_map, List.length_range]
theorem sqs_succ (b j : Nat) : sqs b j ++ [.int ((b ^ 2 ^ j : Nat) : Int)] = sqs b (j + 1) := by
  unfold sqs; rw [List.range_succ, List.map_append]; rfl
theorem sqs_at {b j i : Nat} {y : PyData} (h : (sqs b j)[i]? = some y) : y = .int ((b ^ 2 ^ i : Nat) : Int) := by
  unfold sqs at h
  rw [List.getElem?_map] at h
  obtain ⟨k, hk, rfl⟩ := Option.map_eq_some_iff.mp h
  have := (List.getElem?_range (by
    have := (List.getElem?_eq_some_iff.mp hk).1
    rwa [List.length_range] at this) : (List.range j)[i]? = some i)
  rw [this] at hk; cases hk; rfl
theorem sq_next (b j : Nat) : ((b ^ 2 ^ j : Nat) : Int) * ((b ^ 2 ^ j : Nat) : Int) = ((b ^ 2 ^ (j + 1) : Nat) : Int) := by
  rw [← Int.natCast_mul, ← Nat.pow_add, Nat.pow_succ, Nat.mul_two]
theorem step_yes {b w k m l : Nat} (h2 : 2 ≤ b) (hl : l = w / b ^ (k * 2 ^ (m + 1))) (hlt : l < b ^ 2 ^ (m + 1)) (h1 : 1 ≤ l) (hs : b ^ 2 ^ m ≤ l) :
    l / b ^ 2 ^ m = w / b ^ ((2 * k + 1) * 2 ^ m) ∧ l / b ^ 2 ^ m < b ^ 2 ^ m ∧ 1 ≤ l / b ^ 2 ^ m := by
  have hp : 0 < b ^ 2 ^ m := Nat.pow_pos (by omega)
  refine ⟨?_, ?_, (Nat.one_le_div_iff hp).mpr hs⟩
  · rw [hl, Nat.div_div_eq_div_mul, ← Nat.pow_add]
    congr 2
    rw [Nat.pow_succ]; grind
  · rw [Nat.div_lt_iff_lt_mul hp, ← Nat.pow_add, ← Nat.mul_two, ← Nat.pow_succ]; exact hlt
theorem step_no {b w k m l : Nat} (hl : l = w / b ^ (k * 2 ^ (m + 1))) (hs : ¬ b ^ 2 ^ m ≤ l) : l = w / b ^ ((2 * k) * 2 ^ m) ∧ l < b ^ 2 ^ m := by
  refine ⟨?_, by omega⟩
  rw [hl]; congr 2
  rw [Nat.pow_succ]; grind
theorem log_end {b w k l : Nat} (h2 : 2 ≤ b) (hl : l = w / b ^ (k * 2 ^ 0)) (hlt : l < b ^ 2 ^ 0) (h1 : 1 ≤ l) : b ^ k ≤ w ∧ w < b ^ (k + 1) := by
  rw [Nat.pow_zero, Nat.mul_one] at hl
  rw [Nat.pow_zero, Nat.pow_one] at hlt
  have hp : 0 < b ^ k := Nat.pow_pos (by omega)
  rw [hl] at hlt h1
  refine ⟨(Nat.one_le_div_iff hp).mp h1, ?_⟩
  rw [Nat.div_lt_iff_lt_mul hp] at hlt
  rw [Nat.pow_succ, Nat.mul_comm]; exact hlt
section
variable {b : Nat} (h2 : 2 ≤ b)
include h2
theorem pw_sub (i j : Nat) : pw b ((j : Int) - i) * ((b ^ i : Nat) : Rat) = ((b ^ j : Nat) : Rat) := by
  rw [← pw_nat, ← pw_add h2, ← pw_nat]; congr 1; omega
theorem lt_pw_iff (q : Rat) (i j : Nat) : q < pw b ((j : Int) - i) ↔ q.num * ((b ^ i : Nat) : Int) < (q.den : Int) * ((b ^ j : Nat) : Int) := by
  have hd : (0 : Rat) < ((q.den : Int) : Rat) := cast_lt.mpr (den_pos q)
  have hi : (0 : Rat) < ((b ^ i : Nat) : Rat) := Rat.natCast_pos.mpr (Nat.pow_pos (by omega))
  rw [← Rat.mul_lt_mul_right hi, ← Rat.mul_lt_mul_right hd, pw_sub h2, ← cast_lt, Rat.intCast_mul, Rat.intCast_mul, ← num_den q, Rat.intCast_natCast, Rat.intCast_natCast, Rat.intCast_natCast]
  constructor <;> intro h <;> grind
theorem pw_le_iff (q : Rat) (i j : Nat) : pw b ((j : Int) - i) ≤ q ↔ (q.den : Int) * ((b ^ j : Nat) : Int) ≤ q.num * ((b ^ i : Nat) : Int) := by
  rw [← Rat.not_lt, lt_pw_iff h2, Int.not_lt]
end
inductive R_pbelow : Rel
  | mk (b : Nat) (q : Rat) (k : Int) (n d : Nat) (B : Bag) (h2 : 2 ≤ b) (h0 : 0 < q) (hq : Qz n d q) (hn : n ≤ 8900) (hd : d ≤ 8900) (h1 : pw b k ≤ q) (h3 : q < pw b (k + 1)) : R_pbelow [.da (.int b), .da (fq q)] B (.int k) B
theorem pw_num (b : Nat) (h2 : 2 ≤ b) (e : Int) : (pw b e).num = ((b ^ e.toNat : Nat) : Int) ∧ ((pw b e).den : Int) = ((b ^ (-e).toNat : Nat) : Int) := by
  unfold pw
  by_cases h : e < 0
  · rw [if_pos h, Rat.num_inv, Rat.den_inv, Rat.num_natCast, Rat.den_natCast]
    have hp : 0 < b ^ (-e).toNat := Nat.pow_pos (by omega)
    have e1 : e.toNat = 0 := by omega
    rw [if_neg (by omega), Int.sign_eq_one_of_pos (by omega), e1, Nat.pow_zero, Int.natAbs_natCast]
    exact ⟨rfl, rfl⟩
  · rw [if_neg h, Rat.num_natCast, Rat.den_natCast]
    have e1 : (-e).toNat = 0 := by omega
    rw [e1, Nat.pow_zero]
    exact ⟨rfl, rfl⟩
theorem fq_pw {b : Nat} (h2 : 2 ≤ b) (e : Int) : fq (pw b e) = .tuple [.int ((b ^ e.toNat : Nat) : Int), .int ((b ^ (-e).toNat : Nat) : Int)] := by
  unfold fq; rw [(pw_num b h2 e).1, (pw_num b h2 e).2]
theorem fq_int (n : Int) : fq (n : Rat) = .tuple [.int n, .int 1] := by unfold fq; rw [Rat.num_intCast, Rat.den_intCast]; rfl
inductive Va where
  | nan
  | inf (s : Int)
  | num (s c e : Int)
def Va.tag : Va → Str
  | .nan => "nan"
  | .inf _ => "inf"
  | .num _ _ _ => "num"
def Va.l : Va → List PyData
  | .nan => [.str "nan"]
  | .inf s => [.str "inf", .int s]
  | .num s c e => [.str "num", .int s, .int c, .int e]
def Va.d (v : Va) : PyData := .tuple v.l
theorem Va.at0 (v : Va) : atI v.l 0 = some (.str v.tag) := by cases v <;> rfl
def Va.isNan : Va → Bool
  | .nan => true
  | _ => false
def Va.isInf : Va → Bool
  | .inf _ => true
  | _ => false
def Va.sg : Va → Int
  | .nan => 0
  | .inf s => s
  | .num s _ _ => s
def Va.wQ (b : Nat) : Va → Rat
  | .num s c e => ((if s = 1 then -c else c : Int) : Rat) * pw b e
  | _ => 0
def Vok (b p : Nat) (low high : Int) : Va → Prop
  | .nan => True
  | .inf s => s = 0 ∨ s = 1
  | .num s c e => (s = 0 ∨ s = 1) ∧ 0 ≤ c ∧ c < ((b ^ p : Nat) : Int) ∧ low ≤ e ∧ e ≤ high
inductive R_val (f : Va → PyData) (ok : Va → Prop) : Rel
  | mk (v : Va) (B : Bag) (h : ok v) : R_val f ok [.da v.d] B (f v) B
end Lw
set_option exponentiation.threshold 20000
namespace Lw
open PySem PySem.Spec PyProof.Rows L2 Gd Fr
open scoped Rat
theorem isE_zero {b p : Nat} (h2 : 2 ≤ b) (low : Int) : IsE b p low 0 low := ⟨Int.le_refl _, pw_pos h2 _, .inl rfl⟩
theorem cQ_zero (b : Nat) (e : Int) : cQ b e 0 = 0 ∧ rQ b e 0 = 0 := by
  unfold cQ rQ Nq
  rw [show ((0 : Rat).num) = 0 from rfl, Int.zero_mul, Int.zero_ediv, Int.zero_emod]
  exact ⟨rfl, rfl⟩
theorem rdP_zero {b p : Nat} {low high : Int} (h2 : 2 ≤ b) (hl : low ≤ high) (way : Str) (s : Int) : rdP b p low high way 0 s = .tuple [nm s 0 low, .tuple []] := by
  have ha : absQ 0 = 0 := by unfold absQ; rw [if_neg (by decide)]
  unfold rdP
  rw [ha, if_pos rfl, eQ_of h2 (isE_zero (p := p) h2 low), (cQ_zero b low).1]
  have hp : pt (rQ b low 0) (Dq b low 0) = 0 := pt_zero.mpr (cQ_zero b low).2
  rw [hp]
  unfold outP
  have ho : outw way s 0 0 = false := by unfold outw; rw [if_pos (.inl rfl)]
  rw [ho]
  show (if high < low then _ else _) = _
  rw [if_neg (by omega), if_pos rfl]; rfl
theorem rdP_pos {b p : Nat} {low high : Int} {way : Str} {x : Rat} {s : Int} (h : x ≠ 0) :
    rdP b p low high way x s = outP b p high way (sgn x) (eQ b p low (absQ x)) (cQ b (eQ b p low (absQ x)) (absQ x)) (pt (rQ b (eQ b p low (absQ x)) (absQ x)) (Dq b (eQ b p low (absQ x)) (absQ x))) := by
  unfold rdP; rw [if_neg h]
theorem absQ_pos {x : Rat} (h : x ≠ 0) : 0 < absQ x := by unfold absQ; split <;> grind
inductive R_zero : Rel
  | mk (b p : Nat) (low high : Int) (s : Int) (B : Bag) : R_zero [.da (fmP b p low high), .da (.int s)] B (nm s 0 low) B
theorem at1 {v : Va} (h : v.isNan = false) : atI v.l 1 = some (.int v.sg) := by cases v <;> first | rfl | cases h
theorem e_of_log {b p : Nat} (h2 : 2 ≤ b) {low k : Int} {q : Rat} (h1 : pw b k ≤ q) (h3 : q < pw b (k + 1)) : max low (k - p + 1) = eQ b p low q := by
  refine (eQ_of h2 ⟨by omega, ltle h3 (pw_mono h2 (by omega)), ?_⟩).symm
  by_cases h : k - p + 1 ≤ low
  · exact .inl (by omega)
  · refine .inr ?_
    have e : (p : Int) + max low (k - p + 1) - 1 = k := by omega
    rw [e]; exact h1
theorem log_ex {b : Nat} (h2 : 2 ≤ b) {q : Rat} (h0 : 0 < q) : ∃ k, pw b k ≤ q ∧ q < pw b (k + 1) := by
  -- one digit, from an e far below on
  obtain ⟨m, hm⟩ : ∃ m : Nat, pw b (-(m : Int)) ≤ q := by
    refine ⟨q.den, ?_⟩
    have := (pw_le_iff h2 q q.den 0).mpr (by
      rw [Nat.pow_zero]
      have h1 : q.den < b ^ q.den := Nat.lt_pow_self (by omega)
      have hn : 1 ≤ q.num := by
        have : ¬ q.num ≤ 0 := fun z => by
          have h3 : ¬ 0 < q := fun z2 => by
            have := (Rat.lt_iff 0 q).mp z2
            rw [show (0 : Rat).num = 0 from rfl, Int.zero_mul, show ((0 : Rat).den : Int) = 1 from rfl] at this
            omega
          exact h3 h0
        omega
      have h4 : ((b ^ q.den : Nat) : Int) * 1 ≤ ((b ^ q.den : Nat) : Int) * q.num := Int.mul_le_mul_of_nonneg_left hn (Int.natCast_nonneg _)
      rw [Int.mul_comm q.num]
      show (q.den : Int) * 1 ≤ _
      omega)
    rw [show ((0 : Nat) : Int) - (q.den : Nat) = -(q.den : Int) by omega] at this
    exact this
  obtain ⟨e, h1, h3, h4⟩ := isE_ex (p := 1) h2 (-(m : Int) - 1) q
  refine ⟨(1 : Nat) + e - 1, ?_, ?_⟩
  · rcases h4 with z | z
    · refine Rat.le_trans (pw_mono h2 (by omega)) hm
    · exact z
  · rw [show ((1 : Nat) : Int) + e - 1 + 1 = (1 : Nat) + e by omega]; exact h3
end Lw
namespace Lw
open PySem PySem.Spec PyProof.Rows L2 Gd Fr
theorem in2 (way : Str) : (["even", "away"] : List Str).any (fun s => decide (s = way)) = decide (way = "even" ∨ way = "away") := by
  show (decide (("even" : Str) = way) || (decide (("away" : Str) = way) || false)) = _
  rw [Bool.or_false, Bool.decide_or]
  congr 1 <;> exact decide_eq_decide.mpr ⟨Eq.symm, Eq.symm⟩
theorem isInf_or (way : Str) (s : Int) : ((["even", "away"] : List Str).any (fun s => decide (s = way)) || ((decide (way = "up") && decide (s = 0)) || (decide (way = "down") && decide (s = 1)))) = isInf way s := by
  rw [in2]; unfold isInf; rw [Bool.or_assoc]
end Lw
namespace Lw
open PySem PySem.Spec PyProof.Rows L2 Gd Fr
end Lw
namespace Lw
open PySem PySem.Spec PyProof.Rows L2 Gd Fr
theorem nice_word {x : Str} (h : (x.cps.all fun c => c < 0x110000) = true) : nice (.str x) = true := by
  simp only [nice]; exact h
end Lw
set_option exponentiation.threshold 20000
namespace Lw
open PySem PySem.Spec PyProof.Rows L2 Gd Fr
open scoped Rat
abbrev F4 := Nat × Nat × Int × Int
def F4.d (t : F4) : PyData := fmP t.1 t.2.1 t.2.2.1 t.2.2.2
def F4.ok (t : F4) : Prop := Fm t.1 t.2.1 t.2.2.1 t.2.2.2
def fmB (t : F4) : Bool :=
  decide (2 ≤ t.1) && decide (t.1 < 2 ^ 6) && decide (2 ≤ t.2.1) && decide (t.2.1 ≤ 120) && decide (-1200 ≤ t.2.2.1) && decide (t.2.2.1 ≤ t.2.2.2) && decide (t.2.2.2 ≤ 1200) &&
    decide (t.1 ^ t.2.1 < 2 ^ 700) && decide (t.1 ^ (-t.2.2.1).toNat < 2 ^ 2340) && decide (t.1 ^ t.2.2.2.toNat < 2 ^ 2340)
theorem fm_of {t : F4} (h : fmB t = true) : t.ok := by
  unfold fmB at h
  simp only [Bool.and_eq_true, decide_eq_true_eq] at h
  obtain ⟨⟨⟨⟨⟨⟨⟨⟨⟨a1, a2⟩, a3⟩, a4⟩, a5⟩, a6⟩, a7⟩, a8⟩, a9⟩, a10⟩ := h
  exact ⟨a1, a2, a3, a4, a5, a6, a7, a8, a9, a10⟩
def Va.c : Va → Int
  | .num _ c _ => c
  | _ => 0
def Va.e : Va → Int
  | .num _ _ e => e
  | _ => 0
section
variable (b p : Nat) (low high : Int)
end
section
variable {b p : Nat} {low high : Int} (F : Fm b p low high)
include F
end
end Lw
set_option exponentiation.threshold 20000
namespace Lw
open PySem PySem.Spec PyProof.Rows L2 Gd Fr
open scoped Rat
end Lw
namespace Lw
open PySem PySem.Spec PyProof.Rows L2 Gd Fr
open scoped Rat
end Lw
namespace Lw
open PySem PySem.Spec PyProof.Rows L2 Gd Fr
open scoped Rat
end Lw
namespace Lw
open PySem PySem.Spec PyProof.Rows L2 Gd Fr
open scoped Rat
section
variable {b p : Nat} {low high : Int} (F : Fm b p low high)
include F
end
end Lw
set_option exponentiation.threshold 20000
namespace Lw
open PySem PySem.Spec PyProof.Rows L2 Gd Fr
open scoped Rat
structure Nd (D W : Nat) (d : PyData) : Prop where
  ni : nice d = true
  dp : d.depth ≤ D
  bk : d.bulk ≤ W
structure NdA (D W : Nat) (ds : List PyData) : Prop where
  ni : niceAll ds = true
  dp : PyData.depthAll ds ≤ D
  bk : PyData.bulkAll ds ≤ W
theorem NdA.nil {D W : Nat} : NdA D W [] := ⟨niceAll_nil, by simp only [PyData.depthAll]; omega, by simp only [PyData.bulkAll]; omega⟩
theorem NdA.cons {D W W' : Nat} {d : PyData} {ds : List PyData} (h : Nd D W d) (r : NdA D W' ds) : NdA D (W + 1 + W') (d :: ds) :=
  ⟨niceAll_cons h.ni r.ni, by have := h.dp; have := r.dp; simp only [PyData.depthAll]; omega, by have := h.bk; have := r.bk; simp only [PyData.bulkAll]; omega⟩
theorem NdA.le {D W D' W' : Nat} {ds : List PyData} (h : NdA D W ds) (e : D ≤ D') (f : W ≤ W') : NdA D' W' ds := ⟨h.ni, Nat.le_trans h.dp e, Nat.le_trans h.bk f⟩
theorem Nd.le {D W D' W' : Nat} {d : PyData} (h : Nd D W d) (e : D ≤ D') (f : W ≤ W') : Nd D' W' d := ⟨h.ni, Nat.le_trans h.dp e, Nat.le_trans h.bk f⟩
theorem Nd.list {D W : Nat} {ds : List PyData} (h : NdA D W ds) : Nd (D + 1) W (.list ds) := ⟨nice_list h.ni, by have := h.dp; simp only [PyData.depth]; omega, by have := h.bk; simp only [PyData.bulk]; omega⟩
theorem Nd.tuple {D W : Nat} {ds : List PyData} (h : NdA D W ds) : Nd (D + 1) W (.tuple ds) := ⟨nice_tuple h.ni, by have := h.dp; simp only [PyData.depth]; omega, by have := h.bk; simp only [PyData.bulk]; omega⟩
theorem Nd.int {n : Nat} {i : Int} (h : Bd n i) (e : n ≤ 1920 := by decide) : Nd 1 0 (.int i) := ⟨nice_int h e, by simp only [PyData.depth]; omega, by simp only [PyData.bulk]; omega⟩
theorem Nd.str {x : Str} (h : (x.cps.all fun c => c < 0x110000) = true) (h2 : x.cps.size ≤ 20) : Nd 1 20 (.str x) := ⟨nice_word h, by simp only [PyData.depth]; omega, by simp only [PyData.bulk]; exact h2⟩
theorem Nd.bool {x : Bool} : Nd 1 0 (.bool x) := ⟨by simp only [nice], by simp only [PyData.depth]; omega, by simp only [PyData.bulk]; omega⟩
theorem Nd.none : Nd 1 0 .none := ⟨by simp only [nice], by simp only [PyData.depth]; omega, by simp only [PyData.bulk]; omega⟩
theorem Nd.okd {D W : Nat} {d : PyData} (h : Nd D W d) (e : D ≤ 60 := by decide) (f : W ≤ 5000 := by decide) : Okd d := ⟨h.ni, Nat.le_trans h.dp e, Nat.le_trans h.bk f⟩
section
variable {b p : Nat} {low high : Int} (F : Fm b p low high)
include F
end
def Va.isNum : Va → Bool
  | .num _ _ _ => true
  | _ => false
theorem tag_num (v : Va) : decide (v.tag = "num") = v.isNum := by
  cases v
  · exact decide_eq_false (show ¬ ("nan" : Str) = "num" by decide)
  · exact decide_eq_false (show ¬ ("inf" : Str) = "num" by decide)
  · rfl
section
variable (b p : Nat) (low high : Int)
end
end Lw
set_option exponentiation.threshold 20000
namespace Lw
open PySem PySem.Spec PyProof.Rows L2 Gd Fr
open scoped Rat
def Va.isZ : Va → Bool
  | .num _ c _ => decide (c = 0)
  | _ => false
section
variable {b p : Nat} {low high : Int} (F : Fm b p low high)
include F
end
def outV (b p : Nat) (high : Int) (way : Str) (s e c part : Int) : Va :=
  if high < (nb b p (outw way s c part) c e).2 then (if isInf way s = true then .inf s else .num s (((b ^ p : Nat) : Int) - 1) high)
  else .num s (nb b p (outw way s c part) c e).1 (nb b p (outw way s c part) c e).2
def outF (b p : Nat) (high : Int) (way : Str) (s e c part : Int) : List Str :=
  if high < (nb b p (outw way s c part) c e).2 then ["inexact", "over"] else if part = 0 then [] else if c < ((b ^ (p - 1) : Nat) : Int) then ["inexact", "tiny"] else ["inexact"]
theorem outP_eq (b p : Nat) (high : Int) (way : Str) (s e c part : Int) : outP b p high way s e c part = .tuple [(outV b p high way s e c part).d, words (outF b p high way s e c part)] := by
  unfold outP outV outF
  split
  · unfold tooG; split <;> rfl
  · split
    · rfl
    · split <;> rfl
noncomputable def rdV (b p : Nat) (low high : Int) (way : Str) (x : Rat) (s : Int) : Va :=
  outV b p high way (if x = 0 then s else sgn x) (eQ b p low (absQ x)) (cQ b (eQ b p low (absQ x)) (absQ x)) (pt (rQ b (eQ b p low (absQ x)) (absQ x)) (Dq b (eQ b p low (absQ x)) (absQ x)))
noncomputable def rdF (b p : Nat) (low high : Int) (way : Str) (x : Rat) (s : Int) : List Str :=
  outF b p high way (if x = 0 then s else sgn x) (eQ b p low (absQ x)) (cQ b (eQ b p low (absQ x)) (absQ x)) (pt (rQ b (eQ b p low (absQ x)) (absQ x)) (Dq b (eQ b p low (absQ x)) (absQ x)))
theorem rdP_eq (b p : Nat) (low high : Int) (way : Str) (x : Rat) (s : Int) : rdP b p low high way x s = .tuple [(rdV b p low high way x s).d, words (rdF b p low high way x s)] := outP_eq _ _ _ _ _ _ _ _
section
variable (b p : Nat) (low high : Int)
end
section
variable {b p : Nat} {low high : Int} (F : Fm b p low high)
include F
end
end Lw
namespace Lw
open PySem PySem.Spec PyProof.Rows L2 Gd Fr
end Lw
set_option exponentiation.threshold 20000
namespace Lw
open PySem PySem.Spec PyProof.Rows L2 Gd Fr
open scoped Rat
section
variable (b p : Nat) (low high : Int)
end
end Lw
namespace Gd
open PySem PySem.Spec PyProof.Rows L2
section
variable {X : Cx} {i : Nat} {Γ : List VD} {B B1 B2 B' : Bag} {acc ds : List PyData} {e a b c : Expr} {es : List Expr} {d da db : VD} {y : PyData} {pos p p1 p2 p3 pos' : Pos} {rest ss s1 s2 : List Stmt} {E : EnO} {Es : En}
theorem Own.set {K : PySem.W.Frag} {g : Gh} {A0 A1 : Hp} {a : Addr} {σ : L2.St} {H0 H : Hp} (w : Own K i g A0 A1 a B Γ acc σ H0 H) (j : Nat) (hij : j ≠ i) {v : V} (r : Rv K g H0 v d) : Own K i g A0 A1 a B (Γ.set j d) acc (σ.set j (some v)) H0 H :=
  ⟨w.to, w.fr, w.off, w.ev.set j r, by rw [List.getElem?_set_ne hij]; exact w.at', w.no, w.ls, w.on⟩
theorem ow_forT (j : Nat) {x : Str} {px : Pos} (nd : X.N.Nodup) (hc : X.calm = true) (hij : j ≠ i) (P : Nat → List VD → Bag → List PyData → Prop) (hi : EJ X Γ B e (.da (.tuple ds)) B1) (h0 : P 0 Γ B1 acc)
    (hs : ∀ k y Γ' B' acc', ds[k]? = some y → P k Γ' B' acc' → OwJ X i (Γ'.set j (.da y)) B' acc' s1 { nx := P (k + 1), fx := fun _ _ => False, ct := P (k + 1), rt := E.rt })
    (hd : ∀ Γ' B' acc', P ds.length Γ' B' acc' → OwJ X i Γ' B' acc' rest E) (hN : X.N[j]? = some x := by rfl) (hx : Loc X.env.scope x := by first | exact Or.inl rfl | exact Or.inr rfl)
    (hf : X.fn x = true ∨ X.env.scope.names.lookup x = some .local := by first | exact Or.inl rfl | exact Or.inr rfl)
    (hp : PassesOwn (model X.prog X.w) X.A X.env X.xe := by exact PassesOwn.never) (hq : ∀ x, foldedSetIterable e X.env x = pure x := by intro _; rfl) :
    OwJ X i Γ B acc (.For (.Name x px) e s1 [] pos :: rest) E := fun g σ A0 A1 a H0 H w D G =>
  ⟨_, pss_cons (ps_for hp hc (pi_tup (we e)) (pg_name nd hN hx hf) (ws s1) hq) (ws rest), hi g σ H0 H w.ev w.on _ fun v H1 H' t o r => by
    obtain ⟨q, xs, rfl, hxs, rs⟩ := rvT r
    have w1 := w.step t o
    refine ⟨q, rfl, ⟨xs, seqT o.ex hxs⟩, ?_⟩
    refine for_tup (xs := xs) (fun k σ' H'' => ∃ Γ' B' acc' H2, P k Γ' B' acc' ∧ Same H1 H2 ∧ Own X.K i g A0 A1 a B' Γ' acc' σ' H2 H'') ⟨Γ, B1, acc, H1, h0, Same.refl _, w1⟩ ?_ ?_ ?_
    · rintro k σ' H'' _ ⟨Γ', B', acc', H2, _, sm, w2⟩
      exact seqT w2.on.ex (seqT sm hxs)
    · rintro k y σ' H'' hy ⟨Γ', B', acc', H2, hP, sm, w2⟩
      obtain ⟨d, hdi, rd⟩ := rs.get hy
      exact hs k d Γ' B' acc' hdi hP g _ A0 A1 a H2 H'' (w2.set j hij (Rp.mono sm rd)) _ ⟨fun Γ3 B3 acc3 σ3 H3 H3' q w3 m => ⟨Γ3, B3, acc3, H3, q, sm.trans m, w3⟩, fun _ _ _ _ _ q => q.elim, fun r B3 v H3 H3' q t3 o3 rv => G.rt r B3 v H3 H3' q t3 o3 rv,
        fun _ _ _ _ _ _ q => q.elim, fun Γ3 B3 acc3 σ3 H3 H3' q w3 m => ⟨Γ3, B3, acc3, H3, q, sm.trans m, w3⟩, fun _ _ _ _ _ _ q => q.elim, fun _ _ _ _ _ q => q.elim⟩
    · rintro σ' H'' ⟨Γ', B', acc', H2, hP, sm, w2⟩
      rw [rs.length] at hP
      exact hd Γ' B' acc' hP g σ' A0 A1 a H2 H'' w2 D (G.on (t.ex.trans sm))⟩
end
end Gd
namespace Gd
open PySem PySem.Spec PyProof.Rows L2
section
variable {X : Cx} {i : Nat} {Γ : List VD} {B B1 B2 B3 : Bag} {e0 e2 e3 : Expr} {d0 d2 d3 : PyData} {pos pl pt2 : Pos} {rest : List Stmt} {Es : En}
end
end Gd
set_option exponentiation.threshold 20000
namespace Lw
open PySem PySem.Spec PyProof.Rows L2 Gd Fr
open scoped Rat
theorem NdA.all {D W : Nat} : ∀ {ds : List PyData}, (∀ d ∈ ds, Nd D W d) → NdA D ((W + 1) * ds.length) ds
  | [], _ => NdA.nil
  | d :: ds, h => by
    have := NdA.cons (h d List.mem_cons_self) (NdA.all fun e he => h e (List.mem_cons_of_mem _ he))
    exact this.le (Nat.le_refl _) (by rw [List.length_cons, Nat.mul_succ]; omega)
theorem _root_.Gd.pgN {X : Cx} {x : Str} {pos : Pos} (i : Nat) (nd : X.N.Nodup) (hi : X.N[i]? = some x := by rfl) (hx : Loc X.env.scope x := by first | exact Or.inl rfl | exact Or.inr rfl)
    (hf : X.fn x = true ∨ X.env.scope.names.lookup x = some .local := by first | exact .inl rfl | exact .inr rfl) : PG X (.Name x pos) (gName i) := pg_name nd hi hx hf
end Lw
namespace Gd
open PySem PySem.Spec PyProof.Rows L2
section
variable {X : Cx} {i : Nat} {Γ : List VD} {B B1 B2 B' : Bag} {acc ds ys : List PyData} {e a b c : Expr} {es : List Expr} {d da db : VD} {y : PyData} {pos p p1 p2 p3 pos' : Pos} {rest ss s1 s2 : List Stmt} {E : EnO} {Es : En}
section
variable {elt : Expr} {scope : Scope} {j : Nat} {x : Str} {px : Pos}
end
end
end Gd
set_option exponentiation.threshold 20000
namespace Lw
open PySem PySem.Spec PyProof.Rows L2 Gd Fr
open scoped Rat
end Lw
set_option exponentiation.threshold 20000
namespace Lw
open PySem PySem.Spec PyProof.Rows L2 Gd Fr
open scoped Rat
theorem gap_mul (x : Rat) (f : Int) : (x - (f : Rat)) * ((x.den : Int) : Rat) = ((x.num - f * (x.den : Int) : Int) : Rat) := by
  have h := num_den x
  rw [Rat.intCast_sub, Rat.intCast_mul, ← h]; grind
theorem denQ_pos (x : Rat) : (0 : Rat) < ((x.den : Int) : Rat) := Rat.intCast_pos.mpr (den_pos x)
theorem fl (x : Rat) : ∃ g : Rat, x = ((x.num / (x.den : Int) : Int) : Rat) + g ∧ 0 ≤ g ∧ g < 1 ∧ x - ((x.num / (x.den : Int) : Int) : Rat) = g := by
  refine ⟨x - ((x.num / (x.den : Int) : Int) : Rat), by grind, ?_, ?_, rfl⟩
  · have h := gap_mul x (x.num / (x.den : Int))
    have h1 := Int.emod_add_mul_ediv x.num (x.den : Int)
    have h2 := Int.emod_nonneg x.num (Int.ne_of_gt (den_pos x))
    have h3 : (0 : Rat) ≤ (x - ((x.num / (x.den : Int) : Int) : Rat)) * ((x.den : Int) : Rat) := by
      rw [h]; exact Rat.intCast_nonneg.mpr (by rw [Int.mul_comm]; omega)
    refine Rat.not_lt.mp fun z => ?_
    have := (Rat.mul_lt_mul_right (denQ_pos x)).mpr z
    rw [Rat.zero_mul] at this
    exact absurd (ltle this h3) Rat.lt_irrefl
  · have h := gap_mul x (x.num / (x.den : Int))
    have h1 := Int.emod_add_mul_ediv x.num (x.den : Int)
    have h2 := Int.emod_lt_of_pos x.num (den_pos x)
    refine (Rat.mul_lt_mul_right (denQ_pos x)).mp ?_
    rw [h, Rat.one_mul]
    exact cast_lt.mpr (by rw [Int.mul_comm]; omega)
end Lw
set_option exponentiation.threshold 20000
namespace Lw
open PySem PySem.Spec PyProof.Rows L2 Gd Fr
open scoped Rat
theorem absQ_mul_pos (x : Rat) {y : Rat} (h : 0 < y) : absQ (x * y) = absQ x * y := by
  have k := Rat.mul_lt_mul_right (a := x) (b := 0) h
  rw [Rat.zero_mul] at k
  unfold absQ
  by_cases hx : x < 0
  · rw [if_pos hx, if_pos (k.mpr hx)]; grind
  · rw [if_neg hx, if_neg (fun z => hx (k.mp z))]
theorem absQ_cast (k : Int) : absQ (k : Rat) = ((k.natAbs : Int) : Rat) := by
  unfold absQ
  by_cases h : (k : Rat) < 0
  · have : k < 0 := cast_lt.mp (show (k : Rat) < ((0 : Int) : Rat) from h)
    rw [if_pos h, ← Rat.intCast_neg]; congr 1; omega
  · have : ¬ k < 0 := fun z => h (show (k : Rat) < ((0 : Int) : Rat) from cast_lt.mpr z)
    rw [if_neg h]; congr 1; omega
end Lw
set_option exponentiation.threshold 20000
namespace Lw
open PySem PySem.Spec PyProof.Rows L2 Gd Fr
open scoped Rat
theorem absQ_w {b : Nat} (h2 : 2 ≤ b) {s c e : Int} (h0 : 0 ≤ c) : absQ ((Va.num s c e).wQ b) = (c : Rat) * pw b e := by
  show absQ (((if s = 1 then -c else c : Int) : Rat) * pw b e) = _
  rw [absQ_mul_pos _ (pw_pos h2 e), absQ_cast]
  congr 2
  split <;> omega
theorem sgn_eq (x : Rat) : sgn x = if x < 0 then 1 else 0 := by
  unfold sgn
  by_cases h : x < 0
  · rw [if_pos h, if_pos ((num_neg_iff x).mpr h)]
  · rw [if_neg h, if_neg (fun z => h ((num_neg_iff x).mp z))]
theorem wQ_sign {b : Nat} (h2 : 2 ≤ b) {s c e : Int} (hs : s = 0 ∨ s = 1) (h0 : 0 ≤ c) : ((Va.num s c e).wQ b < 0 → s = 1) ∧ (0 < (Va.num s c e).wQ b → s = 0) := by
  have pe := pw_pos h2 e
  have hc : (0 : Rat) ≤ (c : Rat) := Rat.intCast_nonneg.mpr h0
  have hm := Rat.mul_le_mul_of_nonneg_right hc (Rat.le_of_lt pe)
  rw [Rat.zero_mul] at hm
  rcases hs with rfl | rfl
  · have e1 : (Va.num 0 c e).wQ b = (c : Rat) * pw b e := rfl
    rw [e1]
    exact ⟨fun z => absurd (ltle z hm) Rat.lt_irrefl, fun _ => rfl⟩
  · have e1 : (Va.num 1 c e).wQ b = ((-c : Int) : Rat) * pw b e := rfl
    rw [e1, Rat.intCast_neg]
    refine ⟨fun _ => rfl, fun z => ?_⟩
    have : -(c : Rat) * pw b e = -((c : Rat) * pw b e) := by grind
    rw [this] at z
    grind
section
variable (b p : Nat) (low high : Int)
end
theorem fq_mk {q : Rat} {n d : Int} (h1 : q.num = n) (h2 : (q.den : Int) = d) : .tuple [.int n, .int d] = fq q := by unfold fq; rw [h1, h2]
end Lw
set_option exponentiation.threshold 20000
namespace Lw
open PySem PySem.Spec PyProof.Rows L2 Gd Fr
open scoped Rat
section
variable (b p : Nat) (low high : Int)
end
section
variable {b p : Nat} {low high : Int} (F : Fm b p low high)
include F
end
end Lw
namespace Gd
open PySem PySem.Spec PyProof.Rows L2
section
variable {X : Cx} {i : Nat} {Γ : List VD} {B B1 B2 B' : Bag} {acc ds ys : List PyData} {e a b c : Expr} {es : List Expr} {d da db : VD} {y : PyData} {pos p p1 p2 p3 pos' : Pos} {rest ss s1 s2 : List Stmt} {E : EnO} {Es : En}
end
end Gd
namespace Gd
open PySem PySem.Spec PyProof.Rows L2
mutual
def niceB : PyData → Bool
  | .none => true
  | .bool _ => true
  | .int i => decide (Nat.log2 i.natAbs < 12900)
  | .str x => x.cps.all fun c => c < 0x110000
  | .list xs => niceBAll xs
  | .tuple xs => niceBAll xs
  | .dict _ => false
def niceBAll : List PyData → Bool
  | [] => true
  | x :: xs => niceB x && niceBAll xs
end
theorem big_lt {i : Int} (h : Nat.log2 i.natAbs < 12900) : i.natAbs < 10 ^ 4300 := Nat.lt_of_lt_of_le (lt_of_log2 h) pow_lo
section
variable {prog : Program} {w : World} {A : Around} {E : Value → Shared → Prop} {s : Shared} {h₀ : Heap}
theorem int_call {i : Int} {t : Tok} {Q : Value → Shared → Prop} (nd : s.heap.NoDigits) (hl : i.natAbs < 10 ^ 4300) (h : Q (.str (toString i) s.toks) { s with toks := s.toks + 1 }) : wpAny (model prog w) A (call (.builtin "int.__repr__") [.int i t]) (fun r s₁ => ∃ x u, r = .str x u ∧ Q r s₁) E s := by
  refine wpAny_call_entry F.slot_int_repr (typeIs_int s i t) F.entry_int_repr ?_ (F.args_int_repr_1 _); unfold Builtin.«int.__repr__»
  show wpAny _ _ (Builtin.overDigitLimit? i >>= _) _ _ s
  refine wpAny_bind (overDigitLimit_any nd (fun _ => ?_) fun hge => absurd hl (Nat.not_lt.mpr hge))
  exact wpAny_bind (wpAny_mkStr (wpAny_pure ⟨_, rfl, _, _, rfl, h⟩) (int_text_fits10 hl))
theorem rk_int {i : Int} {t : Tok} (nd : h₀.NoDigits) (hl : i.natAbs < 10 ^ 4300) (d : Nat) : ReprK prog w [] h₀ d (.int i t) (toString i) := by
  intro b hb A g E s Q hg hcl hu hk hQ
  rw [pyReprUnder_leaf (v := .int i t) (by omega) (fun _ e => nomatch e)]; unfold pyRepr
  refine wpAny_bind (wpAny_pyReprObj_slot (by omega) (typeIs_int s i t) F.slot_int_repr.toG (int_call (nd.keeps hk) hl ?_))
  exact wpAny_pure (hQ s.heap _ fun _ _ e => e)
mutual
theorem rk : ∀ {v : Value} {d : PyData} {as : List Addr}, Reads h₀ v d as → niceB d = true → h₀.NoDigits → d.shown.length ≤ sizeLine → ∃ bs, ReadAtMost h₀ d.depth bs ∧ ReprK prog w bs h₀ d.depth v d.shown
  | _, _, _, .none, _, _, _ => ⟨[], (fun _ h => nomatch h), by simp only [PyData.shown]; exact .of_is ReprIs.none _ _ _⟩
  | _, _, _, .bool b, _, _, _ => ⟨[], (fun _ h => nomatch h), by simp only [PyData.shown]; exact .of_is (ReprIs.bool b) _ _ _⟩
  | _, _, _, .int i t, hn, nd, _ => ⟨[], (fun _ h => nomatch h), by
    simp only [niceB, decide_eq_true_eq] at hn
    simp only [PyData.shown]; exact rk_int nd (big_lt hn) _⟩
  | _, _, _, .str x t, _, _, hz => ⟨[], (fun _ h => nomatch h), by
    simp only [PyData.shown] at hz
    simp only [PyData.shown]; exact .of_is (ReprIs.str x t hz) _ _ _⟩
  | _, _, _, .list (a := a) (vs := vs) (xs := xs) h1 h2 h3 h4, hn, nd, hz => by
    simp only [PyData.shown] at hz
    simp only [niceB] at hn
    obtain ⟨bs, hb, hk⟩ := rkAll h4 hn nd (fun t ht => Nat.le_trans (listText_mem_le ht) hz)
    have r : Reads h₀ (.ref a) (.list xs) _ := Reads.list h1 h2 h3 h4
    refine ⟨a :: bs, ReadAtMost.cons r (by simp only [PyData.depth]; omega) hb, ?_⟩
    have na := not_mem_of_deeper r (by simp only [PyData.depth]; omega) hb
    simp only [PyData.depth, PyData.shown]; obtain ⟨l⟩ := vs
    match l, h3, h4, hk with
    | [], h3, h4, hk =>
      cases (show ReadsAll h₀ [] xs _ from h4)
      simp only [PyData.shownAll, listText_nil]; exact ReprK.listEmpty h1 h2 h3
    | x :: l, h3, _, hk => exact ReprK.list h1 h2 h3 na (by simpa using hk.length_eq) fun i y e => hk.item i y (by simpa using e)
  | _, _, _, .tuple (a := a) (xs := xs) h1 h2 h3 h4, hn, nd, hz => by
    simp only [PyData.shown] at hz
    simp only [niceB] at hn
    obtain ⟨bs, hb, hk⟩ := rkAll h4 hn nd (fun t ht => Nat.le_trans (tupleText_mem_le ht) hz)
    have r : Reads h₀ (.ref a) (.tuple xs) _ := Reads.tuple h1 h2 h3 h4
    refine ⟨a :: bs, ReadAtMost.cons r (by simp only [PyData.depth]; omega) hb, ?_⟩
    have na := not_mem_of_deeper r (by simp only [PyData.depth]; omega) hb
    simp only [PyData.depth, PyData.shown]; exact ReprK.tuple h1 h2 h3 na hk
  | _, _, _, .dict _ _ _ _ _, hn, _, _ => by simp only [niceB] at hn; cases hn
theorem rkAll : ∀ {vs : List Value} {ds : List PyData} {as : List Addr}, ReadsAll h₀ vs ds as → niceBAll ds = true → h₀.NoDigits → (∀ t ∈ PyData.shownAll ds, t.length ≤ sizeLine) → ∃ bs, ReadAtMost h₀ (PyData.depthAll ds) bs ∧ ReprAllK prog w bs h₀ (PyData.depthAll ds) vs (PyData.shownAll ds)
  | _, _, _, .nil, _, _, _ => ⟨[], (fun _ h => nomatch h), by simp only [PyData.shownAll]; exact .nil⟩
  | _, _, _, .cons (d := d) (ds := ds) r rs, hn, nd, hz => by
    simp only [niceBAll, Bool.and_eq_true] at hn
    simp only [PyData.shownAll] at hz
    obtain ⟨b1, hb1, k1⟩ := rk r hn.1 nd (hz _ List.mem_cons_self)
    obtain ⟨b2, hb2, k2⟩ := rkAll rs hn.2 nd (fun t ht => hz t (List.mem_cons_of_mem _ ht))
    simp only [PyData.depthAll, PyData.shownAll]
    exact ⟨b1 ++ b2, (hb1.mono (Nat.le_max_left _ _)).append (hb2.mono (Nat.le_max_right _ _)), .cons ((k1.more fun b hb => List.mem_append_left _ hb).level_le (Nat.le_max_left _ _)) (k2.more_le (fun b hb => List.mem_append_right _ hb) (Nat.le_max_right _ _))⟩
end
theorem repr_big {a : Addr} {d : PyData} {as : List Addr} {Q : Value → Shared → Prop} (r : Reads h₀ (.ref a) d as) (hn : niceB d = true) (nd : h₀.NoDigits) (hg : A.guards = some []) (hu : A.units + (d.depth + 1) < cLine) (hk0 : ∀ b o, h₀.get? b = some o → s.heap.get? b = some o)
    (hQ : ∀ h' u tk, (∀ b o, s.heap.get? b = some o → h'.get? b = some o) → Q (.str d.shown u) { s with heap := h', toks := tk }) (hsz : d.shown.length ≤ sizeLine) : wpAny (model prog w) A (call (.builtin "repr") [.ref a]) Q E s := by
  have hu1 : A.in1.units + d.depth < cLine := by show A.units + 1 + d.depth < cLine; omega
  cases r with
  | list h1 h2 h3 h4 =>
    rename_i o vs n xs bs₀
    have hz := hsz
    simp only [PyData.shown] at hz
    simp only [niceB] at hn
    obtain ⟨bs, hb, hk⟩ := rkAll (prog := prog) (w := w) h4 hn nd (fun t ht => Nat.le_trans (listText_mem_le ht) hz)
    have na := not_mem_of_deeper (.list h1 h2 h3 h4) (by simp only [PyData.depth]; omega) hb
    simp only [PyData.depth] at hu1
    simp only [PyData.shown] at hQ
    refine call_repr_slot (by omega) ⟨o, hk0 _ _ h1, h2⟩ F.slot_list_repr.toG ?_
    obtain ⟨l⟩ := vs
    match l, h3, h4, hk with
    | [], h3, h4, hk =>
      cases (show ReadsAll h₀ [] xs _ from h4)
      simp only [PyData.shownAll, listText_nil] at hQ; exact call_list_repr_empty ⟨o, hk0 _ _ h1, h2⟩ (hk0 _ _ h1) h3 ⟨_, _, rfl, hQ s.heap _ _ fun _ _ e => e⟩
    | x :: l, h3, _, hk => exact call_list_reprK h1 h2 h3 na (by simpa using hk.length_eq) (fun i y e => hk.item i y (by simpa using e)) hg (fun b _ => Clear.nil b) hu1 hk0 (fun h' u tk hk => ⟨_, _, rfl, hQ h' u tk hk⟩) hz
  | tuple h1 h2 h3 h4 =>
    rename_i o vs n xs
    have hz := hsz
    simp only [PyData.shown] at hz
    simp only [niceB] at hn
    obtain ⟨bs, hb, hk⟩ := rkAll (prog := prog) (w := w) h4 hn nd (fun t ht => Nat.le_trans (tupleText_mem_le ht) hz)
    have na := not_mem_of_deeper (.tuple h1 h2 h3 h4) (by simp only [PyData.depth]; omega) hb
    simp only [PyData.depth] at hu1
    simp only [PyData.shown] at hQ
    refine call_repr_slot (by omega) ⟨o, hk0 _ _ h1, h2⟩ F.slot_tuple_repr ?_
    exact call_tuple_reprK h1 h2 h3 na hk hg (fun b _ => Clear.nil b) hu1 hk0 (fun h' u tk hk => ⟨_, _, rfl, hQ h' u tk hk⟩) hz
  | dict _ _ _ _ _ => simp only [niceB] at hn; cases hn
end
mutual
theorem niceB_lay : ∀ d : PyData, niceB d = true → d.canLay0 = true ∧ d.leavesShort 4301 = true
  | .none, _ => ⟨by simp only [PyData.canLay0], by simp only [PyData.leavesShort]⟩
  | .bool _, _ => ⟨by simp only [PyData.canLay0], by simp only [PyData.leavesShort]⟩
  | .int i, h => ⟨by simp only [PyData.canLay0], by
    simp only [niceB, decide_eq_true_eq] at h
    simp only [PyData.leavesShort, decide_eq_true_eq, PyData.shown_int]; rw [PySem.ofString_length]
    exact int_text_length_le10 (k := 4300) (by decide) (big_lt h)⟩
  | .str x, h => by
    simp only [niceB] at h
    refine ⟨by simp only [PyData.canLay0]; exact h, ?_⟩
    simp only [PyData.leavesShort, List.all_eq_true, decide_eq_true_eq]; intro c hc
    have h3 : c < 0x110000 := of_decide_eq_true (Array.all_eq_true'.mp h c (by simpa using hc))
    omega
  | .list xs, h => by simp only [niceB] at h; simp only [PyData.canLay0, PyData.leavesShort]; exact niceB_layA xs h
  | .tuple xs, h => by simp only [niceB] at h; simp only [PyData.canLay0, PyData.leavesShort]; exact niceB_layA xs h
  | .dict _, h => by simp only [niceB] at h; cases h
theorem niceB_layA : ∀ ds : List PyData, niceBAll ds = true → PyData.canLayAll0 ds = true ∧ PyData.leavesShortAll 4301 ds = true
  | [], _ => ⟨by simp only [PyData.canLayAll0], by simp only [PyData.leavesShortAll]⟩
  | x :: xs, h => by
    simp only [niceBAll, Bool.and_eq_true] at h
    have a := niceB_lay x h.1
    have c := niceB_layA xs h.2
    simp only [PyData.canLayAll0, PyData.leavesShortAll, Bool.and_eq_true]; exact ⟨⟨a.1, c.1⟩, a.2, c.2⟩
end
structure OkB (d : PyData) : Prop where
  nice : niceB d = true
  dp : d.depth ≤ 60
  bulk : d.bulk ≤ 2000
theorem OkB.shaped {d : PyData} (h : OkB d) : SeqAt.shaped d = true := by
  unfold SeqAt.shaped
  rw [(niceB_lay d h.nice).1, Bool.true_and, decide_eq_true_eq]; have := h.dp; omega
theorem OkB.len {d : PyData} (h : OkB d) : d.shown.length ≤ sizeLine := by
  have h1 := PyData.shown_le_bulk 4301 (by decide) d (niceB_lay d h.nice).2
  have h2 := h.bulk
  rw [show sizeLine = 16777216 from by decide]; omega
section
variable {X : Cx} {i : Nat} {Γ : List VD} {B B1 B2 B' : Bag} {e a b c : Expr} {es : List Expr} {y : PyData} {pos p : Pos}
theorem call_reprB {k : Nat} (g : Gx k X) (nd : X.base.NoDigits) : CallR X (.builtin "repr") (fun xs H Q => ∃ x d, xs = [x] ∧ Dp X.K H x d ∧ (∃ p, x = .ref p) ∧ OkB d ∧ Q (.str d.shown) H) := by
  intro pins s σ H xs us Q I rr h
  obtain ⟨x, d, rfl, hd, ⟨p, rfl⟩, S, q⟩ := h
  obtain ⟨u, rfl, rx⟩ := vals1 rr
  cases (show u = Value.ref p from rx)
  obtain ⟨as, rd⟩ := Dp.reads I d (.ref p) (.ref p) hd rfl
  have hu := g.rm.un
  refine repr_big rd S.nice (nd.keeps fun b o e => (I.env0.bs b o e).1) g.gd (by have := S.dp; omega) (fun _ _ e => e) (fun h' u tk kp => ?_) S.len
  exact ⟨.str d.shown, H, I.kept (t' := tk) kp, ⟨u, rfl⟩, q⟩
theorem ej_reprB {k : Nat} (g : Gx k X) (nd : X.base.NoDigits) (hm : X.mg "repr" = none) (ha : EJ X Γ B a (.da y) B1) (hb : boxed y = true) (S : OkB y)
    (hs : starEach [a] X.env = [(false, eval a X.env)] := by rfl) (hg : Gl X "repr" := by rfl) : EJ X Γ B (.Call (.Name "repr" p) [a] [] pos) (.da (.str y.shown)) B1 :=
  ej_callB (call_reprB g nd) hm (aj_cons ha aj_nil hs) (fun gh vs H0 H O r Q q => by
    obtain ⟨v, rfl, h⟩ := rv1 r
    have h : Rp X.K H0 v y := h
    refine ⟨v, y, rfl, (h.mono O.ex).dp (PyData.hasDict_of_canLay _ (niceB_lay _ S.nice).1), ?_, S, q _ _ _ To.refl O (Rp.str _)⟩; cases h with
    | lst _ _ => exact ⟨_, rfl⟩
    | tup _ _ => exact ⟨_, rfl⟩
    | non => cases hb
    | bl _ => cases hb
    | int _ => cases hb
    | str _ => cases hb
    | dct _ => cases hb
    | dctT _ _ => cases hb) (hg := hg) (he := hs)
end
theorem law_callD {P : Program} {w : World} {K : PySem.W.Frag} {mg mb : Str → Option Value} {k : Nat} {fa a : Addr} {fd : FuncData} {x : Str} {sp : Sp} {sx : Shared} {vs : List Value} {ns : List Int}
    (KI : K.In sx.heap) (hn1 : sx.heap.Ns mainGlobals mg) (hb : sx.heap.Ns builtinsNs mb) (hbb : ∀ x : Str, x ≠ "__name__" → mb x = bootBuiltins x) (hl0 : sx.heap.NoLimit) (hd0 : sx.heap.NoDigits) (hg : sx.gens = #[])
    (ha : sx.heap.get? a = some { cls := .type "list", data := .seq vs.toArray }) (hi : IntsAre vs ns) (hl : ns.length ≤ sizeLine) (hr : Room k callerA)
    (F : ∀ base : Heap, K.In base → base.Ns mainGlobals mg → base.NoDigits → FnG P w K mg base k fa fd [x] sp) (hbind : ∀ (s : Shared) (u : Value), BindsTo s fd ⟨[u], []⟩ [(x, u)])
    (hsp : ∀ H : Hp, SqL K H a (ns.map V.int) → sp [.ref a] H (fun v _ => v = .bl true) fun _ _ _ => False) :
    codeAny (model P w) callerA (.call (.ref fa) ⟨[.ref a], []⟩) (fun r s' => r = Except.ok (.ret (.bool true)) ∧ OldK sx.heap s'.heap ∧ s'.os = sx.os ∧ AllBare s'.gens) sx := by
  have rv := vals_ints hi
  have lenV := hi.length
  have main : ∀ H : Hp, Only H → SqL K H a (ns.map V.int) → HOk P w H sx.heap → (∀ b, H b ≠ none → b = a) → (H a ≠ none → K.lookup a = none) →
      codeAny (model P w) callerA (.call (.ref fa) ⟨[.ref a], []⟩) (fun r s' => r = Except.ok (.ret (.bool true)) ∧ OldK sx.heap s'.heap ∧ s'.os = sx.os ∧ AllBare s'.gens) sx := by
    intro H hO hS hok hA hK
    have free : ∀ b, (∃ o, sx.heap.get? b = some o ∧ ∃ es ep, o.data = .dict es ep) → H b = none := by
      rintro b ⟨o, e, es, ep, d⟩
      cases q : H b with
      | none => rfl
      | some u =>
        have eb : b = a := hA b (by simp [q])
        rw [eb, ha] at e
        cases e
        have dd : Data.seq vs.toArray _ = Data.dict es ep := d
        cases dd
    have nsK : ∀ {b : Addr} {m : Str → Option Value}, sx.heap.Ns b m → (hidT sx.heap H).Ns b m := by
      rintro b m ⟨o, es, ep, e, dd, r⟩
      exact ⟨o, es, ep, hidT_get e (free b ⟨o, e, es, ep, dd⟩), dd, r⟩
    have hKb : K.In (hidT sx.heap H) := by
      intro b o e
      refine hidT_get (KI b o e) ?_
      cases q : H b with
      | none => rfl
      | some u =>
        have eb : b = a := hA b (by simp [q])
        rw [eb, hK (by rw [← eb]; simp [q])] at e
        cases e
    obtain ⟨mc, l1, l2⟩ := hl0
    have hM : Mod K mg (hidT sx.heap H) := ⟨hKb, nsK hn1, ⟨mb, nsK hb, hbb⟩, mc, nsK l1, l2⟩
    have hD : (hidT sx.heap H).NoDigits := let ⟨mc2, d1, d2⟩ := hd0; ⟨mc2, nsK d1, d2⟩
    have e0 : Env0 P w K mg (hidT sx.heap H) callerA [] sx H :=
      ⟨rfl, hM, fun b o e => of_hidT e, Nat.le_of_eq (hidT_size _ _), trivial, fun b z => absurd (show b ∈ ([] : List Addr) from z) (by simp), hok, .of_eq hg⟩
    have cc := (F _ hKb (nsK hn1) hD).run callerA [] sx H ⟨[.ref a], []⟩ [.ref a] [.ref a] _ _ rfl hr e0 (hbind sx (.ref a)) (.cons rfl .nil) (hsp H hS)
    refine codeAny_mono cc fun res s2 h => ?_
    match res, h with
    | .error _, h => exact h.elim
    | .ok .next, h => exact h.elim
    | .ok .brk, h => exact h.elim
    | .ok .cont, h => exact h.elim
    | .ok (.ret u), ⟨v, H', os, bare, un, hok', r', q⟩ =>
      have q' : v = .bl true := q
      subst q'
      obtain rfl : u = .bool true := r'
      refine ⟨rfl, .of_keep fun b o e => ?_, os, bare⟩
      cases q : H b with
      | none => exact un.keep b o e q (fun z => absurd (show b ∈ ([] : List Addr) from z) (by simp)) (by simp)
      | some u =>
        cases hO b with
        | inl z => rw [q] at z; cases z
        | inr z =>
          obtain ⟨ob, xs, z⟩ := z
          obtain ⟨e1, _⟩ := hok b _ z
          obtain ⟨e2, _⟩ := hok' b _ (un.frzs b ob _ z)
          rw [e] at e1; cases e1; exact e2
  cases hk : K.lookup a with
  | some o =>
    have e := KI a o hk
    rw [ha] at e
    cases e
    refine main (fun _ => none) (fun _ => .inl rfl) (.inr ⟨_, vs.toArray, _, hk, rfl, rfl, rfl, by rw [List.size_toArray, lenV]; exact hl, by simpa using rv⟩) ?_ (fun b z => absurd rfl z) fun z => absurd rfl z
    intro b u z
    have z' : (none : Option HO) = some u := z
    cases z'
  | none =>
    have at1 : ∀ b, b ≠ a → (if b = a then some (HO.frz { cls := .type "list", data := .seq vs.toArray } (.lst (ns.map V.int))) else none) = none := fun b h => if_neg h
    refine main (fun b => if b = a then some (.frz { cls := .type "list", data := .seq vs.toArray } (.lst (ns.map V.int))) else none) (fun b => ?_) (.inl (.inr ⟨_, if_pos rfl⟩)) (fun b u z => ?_) (fun b z => ?_) fun _ => hk
    · by_cases hb : b = a
      · exact Or.inr ⟨_, _, if_pos hb⟩
      · exact .inl (if_neg hb)
    · by_cases hb : b = a
      · have zz := (if_pos hb).symm.trans z
        cases zz
        subst hb
        exact ⟨ha, by simpa using hl, vs, _, rv, ha⟩
      · have z' := (at1 b hb).symm.trans z
        cases z'
    · by_cases hb : b = a
      · exact hb
      · exact absurd (at1 b hb) z
theorem law_mkD {P : Program} {w : World} {K : PySem.W.Frag} {h : Heap} {mg : Str → Option Value} {st : Stmt} {fa f : Addr} {oc : Value} {od an : Option Addr} {osl : Array (Option Value)} {kV doc pm cdv ct : Value} {n : Nat}
    (X : K.In h) (G : h.Ns mainGlobals mg) (hfa : mg "law" = some (.ref fa)) (a : PySem.W.nsIn K mainGlobals "law" = some (some (.ref f)))
    (l : K.lookup f = some ⟨oc, od, .func (PySem.W.fnOf "law" "law" (defArgs st) (defBody st) (defScope st) .none kV doc pm an cdv ct), osl⟩) (c : PySem.W.codeIn K cdv "law" = true) (k : PySem.W.keepIn K (.ref f) = true)
    (b : ∀ (s : Shared) (v : Value), BindsTo s (PySem.W.fnOf "law" "law" (defArgs st) (defBody st) (defScope st) .none kV doc pm an cdv ct) ⟨[v], []⟩ [("_law_script", v)])
    (H : ∀ (base : Heap) (f : Addr) (fd : FuncData), base.NoDigits → Fun K "law" "law" st f fd → FnG P w K mg base n f fd ["_law_script"] (spLaw K)) :
    ∃ fd : FuncData, (∀ (s : Shared) (v : Value), BindsTo s fd ⟨[v], []⟩ [("_law_script", v)]) ∧ ∀ base : Heap, K.In base → base.Ns mainGlobals mg → base.NoDigits → FnG P w K mg base n fa fd ["_law_script"] (spLaw K) := by
  have e := hfa.symm.trans (PySem.W.mg_of X G a)
  cases e
  exact ⟨_, b, fun base _ _ nd => H base _ _ nd (fun_mk l c k)⟩
end Gd
set_option exponentiation.threshold 20000
namespace Lw
open PySem PySem.Spec PyProof.Rows L2 Gd Fr
open scoped Rat
mutual
theorem niceB_of : ∀ d : PyData, nice d = true → niceB d = true
  | .none, _ => by simp only [niceB]
  | .bool _, _ => by simp only [niceB]
  | .int i, h => by
    simp only [nice, decide_eq_true_eq] at h
    simp only [niceB, decide_eq_true_eq]
    omega
  | .str _, h => by simp only [nice] at h; simp only [niceB]; exact h
  | .list xs, h => by simp only [nice] at h; simp only [niceB]; exact niceB_ofA xs h
  | .tuple xs, h => by simp only [nice] at h; simp only [niceB]; exact niceB_ofA xs h
  | .dict _, h => by simp only [nice] at h; cases h
theorem niceB_ofA : ∀ ds : List PyData, niceAll ds = true → niceBAll ds = true
  | [], _ => by simp only [niceBAll]
  | x :: xs, h => by
    simp only [niceAll, Bool.and_eq_true] at h
    simp only [niceBAll, Bool.and_eq_true]
    exact ⟨niceB_of x h.1, niceB_ofA xs h.2⟩
end
structure NdB (D W : Nat) (d : PyData) : Prop where
  ni : niceB d = true
  dp : d.depth ≤ D
  bk : d.bulk ≤ W
structure NdBA (D W : Nat) (ds : List PyData) : Prop where
  ni : niceBAll ds = true
  dp : PyData.depthAll ds ≤ D
  bk : PyData.bulkAll ds ≤ W
theorem Nd.b {D W : Nat} {d : PyData} (h : Nd D W d) : NdB D W d := ⟨niceB_of d h.ni, h.dp, h.bk⟩
theorem NdBA.nil {D W : Nat} : NdBA D W [] := ⟨by simp only [niceBAll], by simp only [PyData.depthAll]; omega, by simp only [PyData.bulkAll]; omega⟩
theorem NdBA.cons {D W W' : Nat} {d : PyData} {ds : List PyData} (h : NdB D W d) (r : NdBA D W' ds) : NdBA D (W + 1 + W') (d :: ds) :=
  ⟨by simp only [niceBAll, h.ni, r.ni, Bool.and_self], by have := h.dp; have := r.dp; simp only [PyData.depthAll]; omega, by have := h.bk; have := r.bk; simp only [PyData.bulkAll]; omega⟩
theorem NdB.le {D W D' W' : Nat} {d : PyData} (h : NdB D W d) (e : D ≤ D') (f : W ≤ W') : NdB D' W' d := ⟨h.ni, Nat.le_trans h.dp e, Nat.le_trans h.bk f⟩
theorem NdB.list {D W : Nat} {ds : List PyData} (h : NdBA D W ds) : NdB (D + 1) W (.list ds) := ⟨by simp only [niceB]; exact h.ni, by have := h.dp; simp only [PyData.depth]; omega, by have := h.bk; simp only [PyData.bulk]; omega⟩
theorem NdB.tuple {D W : Nat} {ds : List PyData} (h : NdBA D W ds) : NdB (D + 1) W (.tuple ds) := ⟨by simp only [niceB]; exact h.ni, by have := h.dp; simp only [PyData.depth]; omega, by have := h.bk; simp only [PyData.bulk]; omega⟩
theorem NdB.int {n : Nat} {i : Int} (h : Bd n i) (e : n ≤ 12900 := by decide) : NdB 1 0 (.int i) := ⟨by
  simp only [niceB, decide_eq_true_eq]
  by_cases h0 : 0 < n
  · exact Nat.lt_of_lt_of_le (PySem.Flt.log2_lt_of h0 h) e
  · have : n = 0 := by omega
    subst this
    have : i.natAbs = 0 := by unfold Bd at h; omega
    rw [this]; decide, by simp only [PyData.depth]; omega, by simp only [PyData.bulk]; omega⟩
theorem NdB.okb {D W : Nat} {d : PyData} (h : NdB D W d) (e : D ≤ 60 := by decide) (f : W ≤ 2000 := by decide) : OkB d := ⟨h.ni, Nat.le_trans h.dp e, Nat.le_trans h.bk f⟩
def Vcan (b p : Nat) (low high : Int) : Va → Prop
  | .num s c e => (s = 0 ∨ s = 1) ∧ Can b p low c e ∧ e ≤ high
  | .inf s => s = 0 ∨ s = 1
  | .nan => True
theorem Vcan.ok {b p : Nat} {low high : Int} {v : Va} (h : Vcan b p low high v) : Vok b p low high v := by
  cases v with
  | nan => trivial
  | inf s => exact h
  | num s c e => exact ⟨h.1, h.2.1.1, h.2.1.2.1, h.2.1.2.2.1, h.2.2⟩
end Lw
set_option exponentiation.threshold 20000
namespace Lw
open PySem PySem.Spec PyProof.Rows L2 Gd Fr
open scoped Rat
section
variable {b p : Nat} {low high : Int} (F : Fm b p low high)
include F
end
end Lw
namespace Gd
open PySem PySem.Spec PyProof.Rows L2
section
variable {X : Cx} {Γ : List VD} {B B1 B2 : Bag} {e c elt : Expr} {scope : Scope} {acc : List PyData} {pos pos' : Pos} {rest : List Stmt} {E : En} {d : VD}
end
end Gd
set_option exponentiation.threshold 20000
namespace Lw
open PySem PySem.Spec PyProof.Rows L2 Gd Fr
open scoped Rat
theorem atI_head {α : Type} {xs : List α} {l : α} (h : xs.head? = some l) : atI xs 0 = some l := by
  cases xs with
  | nil => cases h
  | cons a xs =>
    cases h
    unfold atI ixN
    simp only [List.length_cons]
    rw [if_pos (by decide), if_pos (by omega)]
    rfl
noncomputable def unN (b p : Nat) (low : Int) (way : Str) (s : Int) (q : Rat) : Int × Int := nb b p (outw way s (cQ b (eQ b p low q) q) (pt (rQ b (eQ b p low q) q) (Dq b (eQ b p low q) q))) (cQ b (eQ b p low q) q) (eQ b p low q)
section
variable {b p : Nat} {low high : Int} (F : Fm b p low high)
include F
end
end Lw
namespace Gd
open PySem PySem.Spec PyProof.Rows L2
section
variable {X : Cx} {Γ : List VD} {B B1 B2 : Bag} {e c elt a b : Expr} {scope : Scope} {acc : List PyData} {pos pos' : Pos} {rest : List Stmt} {E : En} {d : VD}
theorem op_inDT (hu : X.A.units + 64 < cLine) : OpR X (compareOp .In) (fun x y H Q => ∃ d ds, Dp X.K H x d ∧ Dp X.K H y (.tuple ds) ∧ SeqAt.shaped d = true ∧ SeqAt.shaped (.tuple ds) = true ∧ d.depth ≤ 60 ∧ Q (.bl (ds.any fun z => PyData.eqv z d)) H) := by
  intro pins s σ H x y v u Q I rx ry h
  obtain ⟨d, ds, hd, he, sd, se, hp, q⟩ := h
  obtain ⟨as, r1⟩ := Dp.reads I d x v hd rx
  obtain ⟨bs, r2⟩ := Dp.reads I (.tuple ds) y u he ry
  exact SeqAt.in_tuple_reads r2 r1 (SeqAt.canLay_of_shaped se) (SeqAt.canLay_of_shaped sd) (by have := Nat.min_le_right (PyData.depthAll ds) d.depth; omega) ⟨.bl _, H, I, rfl, q⟩
end
end Gd
set_option exponentiation.threshold 20000
namespace Lw
open PySem PySem.Spec PyProof.Rows L2 Gd Fr
open scoped Rat
section
variable {b p : Nat} {low high : Int} (F : Fm b p low high)
include F
end
end Lw
namespace Gd
open PySem PySem.Spec PyProof.Rows L2
section
variable {P : Program} {w : World} {A : Around} {s : Shared} {E : Value → Shared → Prop}
end
section
variable {X : Cx}
end
end Gd
namespace Gd
open PySem PySem.Spec PyProof.Rows L2
section
variable {X : Cx} {Γ : List VD} {B B1 B2 : Bag} {e c elt a b : Expr} {scope : Scope} {acc : List PyData} {pos pos' p p' : Pos} {rest : List Stmt} {E : En} {d : VD}
end
end Gd
set_option exponentiation.threshold 20000
namespace Lw
open PySem PySem.Spec PyProof.Rows L2 Gd Fr
open scoped Rat
end Lw
set_option exponentiation.threshold 20000
namespace Lw
open PySem PySem.Spec PyProof.Rows L2 Gd Fr
open scoped Rat
section
variable {b p : Nat} {low high : Int} (F : Fm b p low high)
include F
end
end Lw
set_option exponentiation.threshold 20000
namespace Lw
open PySem PySem.Spec PyProof.Rows L2 Gd Fr
open scoped Rat
section
variable {X : Cx} {Γ : List VD} {B B1 B2 : Bag} {a b : Expr} {pos : Pos}
end
end Lw
namespace Gd
open PySem PySem.Spec PyProof.Rows L2
section
variable {P : Program} {w : World} {K : PySem.W.Frag} {mg : Str → Option Value} {base : Heap} {x : Str}
def CalE (P : Program) (w : World) (K : PySem.W.Frag) (mg : Str → Option Value) (base : Heap) (x : Str) (k : Nat) (Pre : List VD → Bag → Prop) (Post : List VD → Bag → PyData → Bag → Prop) : Prop :=
  ∃ R : Rel, Cal P w K mg base x k R ∧ ∀ Γ B, Pre Γ B → ∃ r B', R Γ B r B' ∧ Post Γ B r B'
theorem Cal.e {k : Nat} {R : Rel} (c : Cal P w K mg base x k R) {Pre : List VD → Bag → Prop} {Post : List VD → Bag → PyData → Bag → Prop} (h : ∀ Γ B, Pre Γ B → ∃ r B', R Γ B r B' ∧ Post Γ B r B') : CalE P w K mg base x k Pre Post := ⟨R, c, h⟩
end
section
variable {X : Cx} {Γ : List VD} {B B1 B2 : Bag} {a b c : Expr} {d : VD} {pos : Pos}
theorem ej_ifT (h : TJ X Γ B c true B1) (h1 : EJ X Γ B1 a d B2) : EJ X Γ B (.IfExp c a b pos) d B2 := ej_if h (fun _ => h1) (fun z => Bool.noConfusion z)
theorem ej_ifF (h : TJ X Γ B c false B1) (h1 : EJ X Γ B1 b d B2) : EJ X Γ B (.IfExp c a b pos) d B2 := ej_if h (fun z => Bool.noConfusion z) (fun _ => h1)
end
end Gd
namespace Gd
open PySem PySem.Spec PyProof.Rows L2
section
variable {X : Cx} {i : Nat} {Γ : List VD} {B B1 B2 B' : Bag} {ds : List PyData} {e a b c : Expr} {es : List Expr} {pos p p1 p2 p3 pos' : Pos} {rest ss s1 s2 : List Stmt} {E : En}
end
end Gd
set_option exponentiation.threshold 20000
namespace Lw
open PySem PySem.Spec PyProof.Rows L2 Gd Fr
open scoped Rat
end Lw
namespace Lw
open PySem PySem.Spec PyProof.Rows L2 Gd Fr
def thing (r : PyData) : Prop := ∃ (t : F4) (y : PyData), r = .tuple [t.d, y] ∧ t.ok ∧ (y = .none ∨ ∃ v : Va, y = v.d ∧ Vok t.1 t.2.1 t.2.2.1 t.2.2.2 v)
end Lw
namespace Gd
open PySem PySem.Spec PyProof.Rows L2
section
variable {X : Cx} {Γ : List VD} {B B1 B2 : Bag} {a b c : Expr} {es : List Expr} {pos p : Pos}
end
end Gd
set_option exponentiation.threshold 20000
namespace Gd
open PySem PySem.Spec PyProof.Rows L2
section
variable {X : Cx} {Γ : List VD} {B B1 B2 : Bag} {c : Expr} {pos : Pos} {rest s1 s2 : List Stmt} {E : En}
theorem sj_ifT (h : TJ X Γ B c true B1) (h1 : SJ X Γ B1 s1 { E with nx := fun Γ' B' => SJ X Γ' B' rest E }) : SJ X Γ B (.If c s1 s2 pos :: rest) E := sj_if h (fun _ => h1) (fun z => Bool.noConfusion z)
end
end Gd
namespace Lw
open PySem PySem.Spec PyProof.Rows L2 Gd Fr
open scoped Rat
end Lw
set_option exponentiation.threshold 20000
namespace Lw
open PySem PySem.Spec PyProof.Rows L2 Gd Fr
open scoped Rat
def fmI (b p : Nat) : Int := ((b : Int) - 1) * ((b ^ (p - 1) : Nat) : Int)
def mostI (b p : Nat) (low high : Int) : Int := ((b ^ p : Nat) : Int) + (high - low) * fmI b p
def rkS (b p : Nat) (low high : Int) : Va → Int
  | .num _ c e => c + (e - low) * fmI b p
  | _ => mostI b p low high
def rkI (b p : Nat) (low high : Int) (v : Va) : Int := if v.sg = 1 then -rkS b p low high v else rkS b p low high v
variable {b p : Nat} {low high : Int} (F : Fm b p low high)
include F
end Lw
namespace Gd
open PySem PySem.Spec PyProof.Rows L2
section
variable {X : Cx} {Γ : List VD} {B B1 B2 : Bag} {a b c e : Expr} {pos p pos' : Pos} {rest : List Stmt} {E : En} {elt : Expr} {scope : Scope} {j : Nat} {x : Str} {px : Pos} {d : VD}
theorem call_reprL : CallR X (.builtin "repr") (fun xs H Q => ∃ b, xs = [.bl b] ∧ Q (.str (if b then "True" else "False")) H) := by
  intro pins s σ H xs us Q I r h
  obtain ⟨b, rfl, q⟩ := h
  obtain ⟨u, rfl, rfl⟩ := vals1 r
  exact PySem.P.repr_of_bool ⟨.str _, H, I.tok _, ⟨_, rfl⟩, q⟩
theorem ej_reprL {b : Bool} (hm : X.mg "repr" = none) (ha : EJ X Γ B a (.da (.bool b)) B1) (hs : starEach [a] X.env = [(false, eval a X.env)] := by rfl) (hg : Gl X "repr" := by rfl) :
    EJ X Γ B (.Call (.Name "repr" p) [a] [] pos) (.da (.str (if b then "True" else "False"))) B1 :=
  ej_callB call_reprL hm (aj_cons ha aj_nil hs) (fun gh vs H0 H O r Q q => by
    obtain ⟨v, rfl, h⟩ := rv1 r
    exact ⟨b, by rw [rvB h], q _ _ _ To.refl O (Rp.str _)⟩) (hg := hg) (he := hs)
end
end Gd
namespace Gd
open PySem PySem.Spec PyProof.Rows L2
section
variable {X : Cx} {Γ : List VD} {B B1 B2 : Bag} {a b c e : Expr} {pos p pos' : Pos} {rest s1 : List Stmt} {E : En}
end
end Gd
set_option exponentiation.threshold 20000
namespace Lw
open PySem PySem.Spec PyProof.Rows L2 Gd Fr
open scoped Rat
noncomputable instance instVa : DecidableEq Va := fun x y => Classical.propDecidable (x = y)
section
variable {b p : Nat} {low high : Int} (F : Fm b p low high)
include F
end
end Lw
namespace Gd
open PySem PySem.Spec PyProof.Rows L2
section
variable {X : Cx} {Γ : List VD} {B B1 B2 : Bag} {a b c e : Expr} {pos p pos' : Pos} {rest s1 : List Stmt} {E : En}
end
end Gd
set_option exponentiation.threshold 20000
namespace Lw
open PySem PySem.Spec PyProof.Rows L2 Gd Fr
open scoped Rat
section
variable {b p : Nat} {low high : Int} (F : Fm b p low high)
include F
end
section
variable {b p : Nat} {low high : Int} (F : Fm b p low high)
include F
end
end Lw
set_option exponentiation.threshold 20000
namespace Lw
open PySem PySem.Spec PyProof.Rows L2 Gd Fr
open scoped Rat
theorem cmp_lt {x y : Rat} (h : x < y) : cmp x y = -1 := if_pos h
def exQ (b p : Nat) (low high : Int) (x : Rat) : Prop := rQ b (eQ b p low (absQ x)) (absQ x) = 0 ∧ eQ b p low (absQ x) ≤ high
section
variable {b p : Nat} {low high : Int} (F : Fm b p low high)
include F
end
end Lw
namespace Lw
open PySem PySem.Spec PyProof.Rows L2 Gd Fr
end Lw
namespace Gd
open PySem PySem.Spec PyProof.Rows L2
section
variable {X : Cx} {Γ : List VD} {B B1 B2 : Bag} {a b c e elt : Expr} {scope : Scope} {pos p pos' : Pos} {rest s1 : List Stmt} {E : En} {d : VD}
end
end Gd
set_option exponentiation.threshold 20000
namespace Lw
open PySem PySem.Spec PyProof.Rows L2 Gd Fr
open scoped Rat
section
variable {b p : Nat} {low high : Int} (F : Fm b p low high)
include F
end
end Lw
namespace Lw
end Lw
namespace Gd
open PySem PySem.Spec PyProof.Rows L2
def tyN : PyData → Option String
  | .none => some "NoneType"
  | .bool _ => some "bool"
  | .int _ => some "int"
  | .str _ => some "str"
  | .list _ => some "list"
  | .tuple _ => some "tuple"
  | .dict _ => some "dict"
section
variable {X : Cx} {Γ : List VD} {B B1 B2 : Bag} {e c elt a b : Expr} {scope : Scope} {acc : List PyData} {pos pos' p p' : Pos} {rest : List Stmt} {E : En} {d : VD}
theorem rp_ty {K : PySem.W.Frag} {H0 H : Hp} (ex : Same H0 H) {v : V} {y : PyData} {t : String} (r : Rp K H0 v y) (h : tyN y = some t) : TyX K H v (.type t) := by
  cases r with
  | non => cases h; exact .base .non
  | bl b => cases h; exact .base (.bl b)
  | int i => cases h; exact .base (.int i)
  | str x => cases h; exact .base (.str x)
  | lst hx _ => cases h; exact .base (.lst (ex _ _ hx))
  | tup hx _ =>
    cases h
    rcases hx with (hh | ⟨ob, hh⟩) | hh
    · exact .base (.tup (ex _ _ hh))
    · exact .fTuple (ex _ _ hh)
    · obtain ⟨ob, its, n, h1, h2, _⟩ := hh; exact .kTuple h1 h2
  | dct hx => cases h; exact .base (.dK (ex _ _ hx))
  | dctT kvs hx => cases h; exact .base (.dT (ex _ _ hx))
theorem ej_isi {x : Str} {T t : String} {r : Bool} {y : PyData} (hm : X.mg "isinstance" = none) (hmT : X.mg x = none) (ha : EJ X Γ B a (.da y) B1) (ht : tyN y = some t := by rfl) (hk : kitB t T = some r := by decide +kernel)
    (hv : bootBuiltins x = some (.type T) := by decide +kernel) (hgT : Gl X x := by rfl) (hn : x ≠ "__name__" := by decide) (hdb : (x == ("__debug__" : Str)) = false := by decide)
    (hs : starEach [a, .Name x p'] X.env = (false, eval a X.env) :: starEach [.Name x p'] X.env := by rfl) (hs2 : starEach [.Name x p'] X.env = (false, eval (.Name x p') X.env) :: starEach [] X.env := by rfl)
    (hpl : (backTo pos (starEach [.Name x p'] X.env)).any (·.1) = false := by rfl) (hg : Gl X "isinstance" := by rfl) :
    EJ X Γ B (.Call (.Name "isinstance" p) [a, .Name x p'] [] pos) (.da (.bool r)) B1 := fun g σ H0 H Ev O Q q =>
  ⟨_, pe_callB call_isi hg hm (by decide +kernel) (pa_cons (we a) (pa_cons (pe_bltn (v := .ty T) hgT hmT hv rfl hn hdb) pa_nil hs2) hs) (by decide) (by decide) hs hpl,
   ha g σ H0 H Ev O _ fun v H1 H' t1 o rv => ⟨v, .ty T, .type t, .type T, r, rfl, .ty T, rp_ty o.ex rv ht, kit_ty hk, q _ _ _ t1 o (Rp.bl r)⟩⟩
end
end Gd
set_option exponentiation.threshold 20000
namespace Lw
open PySem PySem.Spec PyProof.Rows L2 Gd Fr
open scoped Rat
noncomputable instance exQ_dec (b p : Nat) (low high : Int) (x : Rat) : Decidable (exQ b p low high x) := by unfold exQ; infer_instance
section
variable {b p : Nat} {low high : Int} {b' p' : Nat} {low' high' : Int} (F : Fm b p low high) (F' : Fm b' p' low' high')
include F F'
end
end Lw
set_option exponentiation.threshold 20000
namespace Lw
open PySem PySem.Spec PyProof.Rows L2 Gd Fr
open scoped Rat
theorem can_sgn {b : Nat} (h2 : 2 ≤ b) {s c e : Int} (hs : s = 0 ∨ s = 1) (h0 : 0 ≤ c) : (if (Va.num s c e).wQ b = 0 then s else sgn ((Va.num s c e).wQ b)) = s := by
  have ws := wQ_sign h2 (c := c) (e := e) hs h0
  split
  · rfl
  · next hz =>
    rw [sgn_eq]
    by_cases hn : (Va.num s c e).wQ b < 0
    · rw [if_pos hn]; exact (ws.1 hn).symm
    · rw [if_neg hn]; exact (ws.2 (by grind)).symm
def Pre_cpl (Γ : List VD) (B : Bag) : Prop := Γ = [.bag] ∧ Bok B
end Lw
set_option exponentiation.threshold 20000
namespace Lw
open PySem PySem.Spec PyProof.Rows L2 Gd Fr
open scoped Rat
end Lw
namespace Gd
open PySem PySem.Spec PyProof.Rows L2
section
variable {X : Cx} {Γ : List VD} {B B1 B2 B3 : Bag} {e c elt a b o i f : Expr} {scope : Scope} {acc : List PyData} {pos pos' p p' : Pos} {rest : List Stmt} {E : En} {d : VD}
end
end Gd
namespace Gd
open PySem PySem.Spec PyProof.Rows L2
section
variable {X : Cx} {Γ : List VD} {B B1 B2 : Bag} {a b c e : Expr} {pos p pos' : Pos} {rest s1 : List Stmt} {E : En}
end
end Gd
set_option exponentiation.threshold 20000
namespace Lw
open PySem PySem.Spec PyProof.Rows L2 Gd Fr
open scoped Rat
section
variable {b p : Nat} {low high : Int} (F : Fm b p low high)
include F
end
end Lw
namespace Lw
open PySem PySem.Spec PyProof.Rows L2 Gd Fr
open scoped Rat
theorem cut1 (ds : List PyData) : cutP ds (some 1) none = ds.drop 1 := by
  cases ds with
  | nil => rfl
  | cons d ds =>
    have h1 : HT.sIx (d :: ds).length 0 (some 1) = 1 := by
      unfold HT.sIx
      simp
      try omega
    have h2 : HT.sIx (d :: ds).length (d :: ds).length none = (d :: ds).length := rfl
    unfold cutP
    rw [h1, h2]
    exact List.take_of_length_le (by simp)
theorem cut1_get (ds : List PyData) (j : Nat) : (cutP ds (some 1) none)[j]? = ds[j + 1]? := by rw [cut1, List.getElem?_drop, Nat.add_comm]
end Lw
namespace Fr
open Gd PySem
open scoped Rat
def tw (k : Nat) (a : Int) : Int := 2 ^ k * (2 * a + 1)
theorem tw_of : ∀ (m : Nat) (n : Int), n.natAbs ≤ m → n ≠ 0 → ∃ k a, n = tw k a := by
  intro m
  induction m with
  | zero => intro n h hn; omega
  | succ m ih =>
    intro n h hn
    by_cases ho : n % 2 = 1
    · exact ⟨0, n / 2, by unfold tw; omega⟩
    · obtain ⟨k, a, e⟩ := ih (n / 2) (by omega) (by omega)
      refine ⟨k + 1, a, ?_⟩
      unfold tw at *
      rw [Int.pow_succ, Int.mul_comm _ 2, Int.mul_assoc, ← e]; omega
theorem tw_ex {n : Int} (h : n ≠ 0) : ∃ k a, n = tw k a := tw_of _ n (Nat.le_refl _) h
theorem tw_ne (k : Nat) (a : Int) : tw k a ≠ 0 := by
  unfold tw
  exact Int.mul_ne_zero (Int.ne_of_gt (Int.pow_pos (by decide))) (by omega)
theorem tw_low (k : Nat) (a : Int) : Builtin.bitAnd (tw k a) (-(tw k a)) = 2 ^ k := PySem.W.kbt_low k a
theorem bits_two (k : Nat) : ((Builtin.Int.intBits ((2 : Int) ^ k) : Nat) : Int) - 1 = (k : Int) := by
  have e : ((2 : Int) ^ k) = ((2 ^ k : Nat) : Int) := by rw [Int.natCast_pow]; rfl
  have p : 0 < 2 ^ k := Nat.pow_pos (by decide)
  unfold Builtin.Int.intBits
  rw [e, if_neg (by rw [beq_iff_eq]; omega), Int.natAbs_natCast, Nat.log2_two_pow]
  omega
theorem tw_shr {j k : Nat} (h : j ≤ k) (a : Int) : tw k a / 2 ^ j = tw (k - j) a := by
  unfold tw
  have e : (2 : Int) ^ k = 2 ^ j * 2 ^ (k - j) := by rw [← Int.pow_add]; congr 1; omega
  rw [e, Int.mul_assoc]
  exact Int.mul_ediv_cancel_left _ (Int.ne_of_gt (Int.pow_pos (by decide)))
theorem tw_zero (a : Int) : tw 0 a = 2 * a + 1 := by unfold tw; omega
theorem tw_split {j k : Nat} (h : j ≤ k) (a : Int) : tw k a = 2 ^ j * tw (k - j) a := by
  unfold tw
  rw [← Int.mul_assoc, ← Int.pow_add]; congr 2; omega
theorem gcd_odd {n : Int} (k : Nat) (b : Int) (h : n % 2 = 1 ∨ k = 0) : Nat.gcd n.natAbs (tw k b).natAbs = Nat.gcd n.natAbs (tw 0 b).natAbs := by
  rcases h with h | rfl
  · have e : (tw k b).natAbs = 2 ^ k * (tw 0 b).natAbs := by
      unfold tw; rw [Int.natAbs_mul, Int.natAbs_pow, Int.pow_zero, Int.one_mul]; rfl
    rw [e]
    have c : Nat.Coprime n.natAbs (2 ^ k) := by
      refine Nat.Coprime.pow_right _ ?_
      rw [Nat.coprime_comm]
      have : n.natAbs % 2 = 1 := by omega
      rw [Nat.Coprime, Nat.gcd_rec, this]; decide
    exact Nat.Coprime.gcd_mul_left_cancel_right _ c.symm
  · rfl
theorem tw_odd (a : Int) : tw 0 a % 2 = 1 := by rw [tw_zero]; omega
theorem bd_tw {m j k : Nat} {a : Int} (h : Bd m (tw k a)) (hj : j ≤ k) : Bd m (tw j a) := by
  unfold Bd tw at *
  rw [Int.natAbs_mul, Int.natAbs_pow] at *
  refine Nat.lt_of_le_of_lt (Nat.mul_le_mul_right _ ?_) h
  exact Nat.pow_le_pow_right (by decide) hj
theorem divInt_tw {i j t : Nat} (hi : t ≤ i) (hj : t ≤ j) (a b : Int) : tw i a /. tw j b = tw (i - t) a /. tw (j - t) b := by
  rw [tw_split hi, tw_split hj, Rat.divInt_mul_left (Int.ne_of_gt (Int.pow_pos (by decide)))]
end Fr
namespace Gd
open PySem PySem.Spec PyProof.Rows L2
section
variable {X : Cx} {Γ : List VD} {B B1 B2 B3 B' : Bag} {e a b c : Expr} {es : List Expr} {d da db dc : VD} {pos p pos' apos : Pos} {rest ss s1 s2 : List Stmt} {E : En}
theorem ej_band {i j : Int} (ha : EJ X Γ B a (.da (.int i)) B1) (hb : EJ X Γ B1 b (.da (.int j)) B2) : EJ X Γ B (.BinOp a .BitAnd b pos) (.da (.int (Builtin.bitAnd i j))) B2 :=
  ej_ii ha hb op_and fun _ => .int _
theorem ej_shr {i : Int} {k : Nat} (ha : EJ X Γ B a (.da (.int i)) B1) (hb : EJ X Γ B1 b (.da (.int (k : Int))) B2) : EJ X Γ B (.BinOp a .RShift b pos) (.da (.int (i / 2 ^ k))) B2 :=
  ej_iic ha hb op_shr (Int.natCast_nonneg k) fun _ => .int _
theorem ej_bits {i : Int} (ha : EJ X Γ B a (.da (.int i)) B1) (hbase : attributeBase a "bit_length" X.env (eval a X.env) = eval a X.env := by rfl) (hline : (apos.endLine == pos.line) = true := by rfl) :
    EJ X Γ B (.Call (.Attribute a "bit_length" apos) [] [] pos) (.da (.int (Builtin.Int.intBits i : Nat))) B1 := fun g σ H0 H E O Q q =>
  ⟨_, pe_bits (we a) hbase hline, ha g σ H0 H E O _ fun v H1 H' t o r => ⟨i, rvI r, q _ H1 H' t o (Rp.int _)⟩⟩
end
end Gd
namespace Lw
open PySem PySem.Spec PyProof.Rows L2 Gd Fr
open scoped Rat
inductive R_twos : Rel
  | mk (k : Nat) (a : Int) (B : Bag) : R_twos [.da (.int (tw k a))] B (.int (k : Int)) B
theorem fq_cop {n : Int} {d : Nat} (hd : d ≠ 0) (h : Nat.Coprime n.natAbs d) : fq (n /. (d : Int)) = .tuple [.int n, .int (d : Int)] := by
  have hd' : (d : Int) ≠ 0 := by omega
  have c1 : com n (d : Int) = 1 := by
    unfold com
    rw [if_neg (by omega), Int.natAbs_natCast, h.gcd_eq_one]; rfl
  have e1 := red_num (n := n) hd'
  have e2 := red_den (n := n) hd'
  rw [c1, Int.fdiv_one] at e1 e2
  unfold fq
  rw [← e1, ← e2]
theorem div_eq {n d n' d' : Int} (h : d ≠ 0) (h' : d' ≠ 0) (e : n * d' = n' * d) : n /. d = n' /. d' := (Rat.divInt_eq_divInt_iff h h').mpr e
theorem div_cross {n d : Int} (h : d ≠ 0) : n * ((n /. d).den : Int) = (n /. d).num * d := by
  have := (Rat.divInt_eq_divInt_iff h (den_ne (n /. d))).mp (self_div (n /. d)).symm
  exact this
theorem num_dvd {n d : Int} (h : d ≠ 0) : (n /. d).num.natAbs ∣ n.natAbs := by
  have e := congrArg Int.natAbs (div_cross (n := n) h)
  rw [Int.natAbs_mul, Int.natAbs_mul, Int.natAbs_natCast] at e
  have : (n /. d).num.natAbs ∣ n.natAbs * (n /. d).den := ⟨_, e⟩
  exact Nat.Coprime.dvd_of_dvd_mul_right (n /. d).reduced this
theorem den_dvd {n d : Int} (h : d ≠ 0) : (n /. d).den ∣ d.natAbs := by
  have e := congrArg Int.natAbs (div_cross (n := n) h)
  rw [Int.natAbs_mul, Int.natAbs_mul, Int.natAbs_natCast] at e
  have : (n /. d).den ∣ (n /. d).num.natAbs * d.natAbs := ⟨n.natAbs, by rw [← e, Nat.mul_comm]⟩
  exact Nat.Coprime.dvd_of_dvd_mul_left (n /. d).reduced.symm this
theorem mul_by (x y : Rat) : (.tuple [.int ((x.num /. (y.den : Int)).num * (y.num /. (x.den : Int)).num), .int (((y.num /. (x.den : Int)).den : Int) * ((x.num /. (y.den : Int)).den : Int))] : PyData) = fq (x * y) := by
  have c1 := div_cross (n := x.num) (den_ne y)
  have c2 := div_cross (n := y.num) (den_ne x)
  have d1 := num_dvd (n := x.num) (den_ne y)
  have d2 := den_dvd (n := x.num) (den_ne y)
  have d3 := num_dvd (n := y.num) (den_ne x)
  have d4 := den_dvd (n := y.num) (den_ne x)
  have r1 := (x.num /. (y.den : Int)).reduced
  have r2 := (y.num /. (x.den : Int)).reduced
  have p1 := (x.num /. (y.den : Int)).den_pos
  have p2 := (y.num /. (x.den : Int)).den_pos
  generalize x.num /. (y.den : Int) = u at *
  generalize y.num /. (x.den : Int) = v at *
  rw [Int.natAbs_natCast] at d2 d4
  have k1 : Nat.Coprime u.num.natAbs v.den := (x.reduced.coprime_dvd_left d1).coprime_dvd_right d4
  have k2 : Nat.Coprime v.num.natAbs u.den := (y.reduced.coprime_dvd_left d3).coprime_dvd_right d2
  have k : Nat.Coprime (u.num * v.num).natAbs (v.den * u.den) := by
    rw [Int.natAbs_mul]
    exact Nat.Coprime.mul_left (Nat.Coprime.mul_right k1 r1) (Nat.Coprime.mul_right r2 k2)
  have hne : v.den * u.den ≠ 0 := Nat.ne_of_gt (Nat.mul_pos p2 p1)
  have e := fq_cop hne k
  rw [← Int.natCast_mul, ← e, ← mul_div x y]
  congr 1
  refine div_eq (by omega) (Int.mul_ne_zero (den_ne x) (den_ne y)) ?_
  rw [Int.natCast_mul]
  have : u.num * (y.den : Int) * (v.num * (x.den : Int)) = x.num * (u.den : Int) * (y.num * (v.den : Int)) := by rw [c1, c2]
  grind
def addG (x y : Rat) : Nat := Nat.gcd (x.den : Int).natAbs (y.den : Int).natAbs
def addL (x y : Rat) : Nat := x.den / addG x y
def addR (x y : Rat) : Nat := y.den / addG x y
theorem cop_half {a b : Int} {L R g : Nat} {n : Nat} (h1 : Nat.Coprime a.natAbs (g * L)) (h2 : Nat.Coprime L R) : Nat.Coprime (a * (R : Int) + b * (L : Int)).natAbs L := by
  have d1 := Nat.gcd_dvd_left (a * (R : Int) + b * (L : Int)).natAbs L
  have d2 := Nat.gcd_dvd_right (a * (R : Int) + b * (L : Int)).natAbs L
  unfold Nat.Coprime
  generalize Nat.gcd (a * (R : Int) + b * (L : Int)).natAbs L = k at *
  have i1 : (k : Int) ∣ a * (R : Int) + b * (L : Int) := Int.ofNat_dvd_left.mpr d1
  have i2 : (k : Int) ∣ b * (L : Int) := Int.dvd_trans (Int.natCast_dvd_natCast.mpr d2) (Int.dvd_mul_left _ _)
  have i3 : (k : Int) ∣ a * (R : Int) := by
    have := Int.dvd_sub i1 i2
    rwa [Int.add_sub_cancel] at this
  have d3 : k ∣ a.natAbs * R := by
    have := Int.ofNat_dvd_left.mp i3
    rwa [Int.natAbs_mul, Int.natAbs_natCast] at this
  have d4 : k ∣ a.natAbs := Nat.Coprime.dvd_of_dvd_mul_right (h2.coprime_dvd_left d2) d3
  have d5 : k ∣ g * L := Nat.dvd_trans d2 (Nat.dvd_mul_left _ _)
  exact Nat.dvd_one.mp (h1 ▸ Nat.dvd_gcd d4 d5)
theorem add_by (x y : Rat) {n d m c : Nat} (hx : Qz n d x) (hy : Qz m c y) :
    (0 : Int) < ((Nat.gcd (x.den : Int).natAbs (y.den : Int).natAbs : Nat) : Int) ∧ Bd d ((Nat.gcd (x.den : Int).natAbs (y.den : Int).natAbs : Nat) : Int) ∧ Bd d ((addL x y : Nat) : Int) ∧ Bd c ((addR x y : Nat) : Int) ∧
    (x.den : Int) / ((Nat.gcd (x.den : Int).natAbs (y.den : Int).natAbs : Nat) : Int) = ((addL x y : Nat) : Int) ∧ (y.den : Int) / ((Nat.gcd (x.den : Int).natAbs (y.den : Int).natAbs : Nat) : Int) = ((addR x y : Nat) : Int) ∧
    (.tuple [.int ((x.num * ((addR x y : Nat) : Int) + y.num * ((addL x y : Nat) : Int)) /. ((Nat.gcd (x.den : Int).natAbs (y.den : Int).natAbs : Nat) : Int)).num,
      .int (((addL x y : Nat) : Int) * ((addR x y : Nat) : Int) * (((x.num * ((addR x y : Nat) : Int) + y.num * ((addL x y : Nat) : Int)) /. ((Nat.gcd (x.den : Int).natAbs (y.den : Int).natAbs : Nat) : Int)).den : Int))] : PyData) = fq (x + y) := by
  have hxd := x.den_pos
  have hyd := y.den_pos
  have eG : Nat.gcd (x.den : Int).natAbs (y.den : Int).natAbs = addG x y := rfl
  rw [eG]
  have gd : addG x y = Nat.gcd x.den y.den := by unfold addG; rw [Int.natAbs_natCast, Int.natAbs_natCast]
  have gp : 0 < addG x y := by rw [gd]; exact Nat.gcd_pos_of_pos_left _ hxd
  have gl : addG x y ∣ x.den := by rw [gd]; exact Nat.gcd_dvd_left _ _
  have gr : addG x y ∣ y.den := by rw [gd]; exact Nat.gcd_dvd_right _ _
  have eL : x.den = addG x y * addL x y := (Nat.mul_div_cancel' gl).symm
  have eR : y.den = addG x y * addR x y := (Nat.mul_div_cancel' gr).symm
  have cLR : Nat.Coprime (addL x y) (addR x y) := by
    unfold addL addR; rw [gd]; exact Nat.coprime_div_gcd_div_gcd (Nat.gcd_pos_of_pos_left _ hxd)
  have bx := hx.de
  have by' := hy.de
  have lx : addL x y ≤ x.den := Nat.div_le_self _ _
  have ly : addR x y ≤ y.den := Nat.div_le_self _ _
  have lg : addG x y ≤ x.den := Nat.le_of_dvd hxd gl
  unfold Bd at bx by'
  refine ⟨by omega, by unfold Bd; omega, by unfold Bd; omega, by unfold Bd; omega, ?_, ?_, ?_⟩
  · unfold addL; rw [Int.natCast_ediv]
  · unfold addR; rw [Int.natCast_ediv]
  have hg' : ((addG x y : Nat) : Int) ≠ 0 := by omega
  have c1 := div_cross (n := x.num * ((addR x y : Nat) : Int) + y.num * ((addL x y : Nat) : Int)) hg'
  have d1 := num_dvd (n := x.num * ((addR x y : Nat) : Int) + y.num * ((addL x y : Nat) : Int)) hg'
  have r1 := ((x.num * ((addR x y : Nat) : Int) + y.num * ((addL x y : Nat) : Int)) /. ((addG x y : Nat) : Int)).reduced
  have p1 := ((x.num * ((addR x y : Nat) : Int) + y.num * ((addL x y : Nat) : Int)) /. ((addG x y : Nat) : Int)).den_pos
  have rx := x.reduced
  have ry := y.reduced
  rw [eL] at rx
  rw [eR] at ry
  have k1 := cop_half (a := x.num) (b := y.num) (n := 0) rx cLR
  have k2 := cop_half (a := y.num) (b := x.num) (n := 0) ry cLR.symm
  rw [Int.add_comm] at k2
  have exy := add_div x y
  have hLp : 0 < addL x y := Nat.pos_of_ne_zero fun z => by rw [z, Nat.mul_zero] at eL; omega
  have hRp : 0 < addR x y := Nat.pos_of_ne_zero fun z => by rw [z, Nat.mul_zero] at eR; omega
  have eL' : (x.den : Int) = ((addG x y : Nat) : Int) * ((addL x y : Nat) : Int) := by rw [← Int.natCast_mul, ← eL]
  have eR' : (y.den : Int) = ((addG x y : Nat) : Int) * ((addR x y : Nat) : Int) := by rw [← Int.natCast_mul, ← eR]
  rw [eL', eR'] at exy
  rw [← exy]
  generalize addL x y = L at *
  generalize addR x y = R at *
  generalize addG x y = g at *
  generalize hN : x.num * (R : Int) + y.num * (L : Int) = N at *
  generalize N /. (g : Int) = q at *
  have k : Nat.Coprime q.num.natAbs (L * R * q.den) :=
    Nat.Coprime.mul_right (Nat.Coprime.mul_right (k1.coprime_dvd_left d1) (k2.coprime_dvd_left d1)) r1
  have hne : L * R * q.den ≠ 0 := Nat.ne_of_gt (Nat.mul_pos (Nat.mul_pos hLp hRp) p1)
  have e := fq_cop hne k
  rw [← Int.natCast_mul, ← Int.natCast_mul, ← e]
  congr 1
  refine div_eq (by omega) (Int.mul_ne_zero (Int.mul_ne_zero (by omega) (by omega)) (Int.mul_ne_zero (by omega) (by omega))) ?_
  rw [Int.natCast_mul, Int.natCast_mul]
  have e2 : x.num * ((g : Int) * (R : Int)) + y.num * ((g : Int) * (L : Int)) = (g : Int) * N := by rw [← hN]; grind
  rw [e2]
  have : (g : Int) * N * ((L : Int) * (R : Int) * (q.den : Int)) = (g : Int) * (L : Int) * (R : Int) * (N * (q.den : Int)) := by grind
  rw [this, c1]; grind
theorem qz_inv {n d : Nat} {y : Rat} (h : Qz n d y) (h0 : y ≠ 0) : Qz d n y⁻¹ := by
  have hn := num_ne h0
  refine ⟨?_, ?_⟩
  · rw [Rat.num_inv]
    have := h.de
    unfold Bd at *
    rw [Int.natAbs_mul, Int.natAbs_sign_of_ne_zero hn]; omega
  · rw [Rat.den_inv]
    have := h.nu
    unfold Bd at *
    rw [if_neg hn]; omega
theorem fq_invN {y : Rat} (h : y.num < 0) : (.tuple [.int (-(y.den : Int)), .int (-y.num)] : PyData) = fq y⁻¹ := by
  unfold fq
  rw [Rat.num_inv, Rat.den_inv, if_neg (by omega), Int.sign_eq_neg_one_of_neg h]
  have : ((y.num.natAbs : Nat) : Int) = -y.num := by omega
  rw [this]
  have : -1 * (y.den : Int) = -(y.den : Int) := by omega
  rw [this]
theorem fq_invP {y : Rat} (h0 : y ≠ 0) (h : ¬ y.num < 0) : (.tuple [.int (y.den : Int), .int y.num] : PyData) = fq y⁻¹ := by
  have hn := num_ne h0
  unfold fq
  rw [Rat.num_inv, Rat.den_inv, if_neg hn, Int.sign_eq_one_of_pos (by omega)]
  have : ((y.num.natAbs : Nat) : Int) = y.num := by omega
  rw [this]
  have : 1 * (y.den : Int) = (y.den : Int) := by omega
  rw [this]
end Lw
namespace Gd
open PySem PySem.Spec PyProof.Rows L2
section
variable {X : Cx}
end
section
variable {X : Cx} {Γ : List VD} {B B1 B2 B3 B' : Bag} {e a b c : Expr} {es : List Expr} {d da db dc : VD} {pos p pos' apos : Pos} {kp : Pos} {rest ss s1 s2 : List Stmt} {E : En}
end
end Gd
namespace Gd
open PySem PySem.Spec PyProof.Rows L2
section
variable {X : Cx} {Γ : List VD} {B B1 B2 : Bag} {e c elt : Expr} {scope : Scope} {acc : List PyData} {pos pos' : Pos} {rest : List Stmt} {E : En} {d : VD}
end
end Gd
set_option exponentiation.threshold 20000
namespace Lw
open PySem PySem.Spec PyProof.Rows L2 Gd Fr
open scoped Rat
end Lw
namespace Gd
open PySem PySem.Spec PyProof.Rows L2
section
variable {P : Program} {w : World} {A : Around} {s : Shared} {E : Value → Shared → Prop}
end
section
variable {X : Cx} {Γ : List VD} {B B1 B2 B' : Bag} {e a b c : Expr} {es : List Expr} {d da db dc : VD} {pos p p' pos' : Pos} {rest ss s1 s2 : List Stmt} {E : En}
end
end Gd
namespace Gd
open PySem PySem.Spec PyProof.Rows L2
mutual
def lfree : PyData → Bool
  | .none => true
  | .bool _ => true
  | .int _ => true
  | .str _ => true
  | .list _ => false
  | .tuple xs => lfreeAll xs
  | .dict _ => true
def lfreeAll : List PyData → Bool
  | [] => true
  | x :: xs => lfree x && lfreeAll xs
end
def without (H : Hp) (a : Addr) : Hp := fun b => if b = a then none else H b
section
variable {K : PySem.W.Frag} {H : Hp} {a : Addr} {zs : List V}
theorem seqT_without (hz : H a = some (.lst zs)) {b : Addr} {xs : List V} (h : SqT K H b xs) : SqT K (without H a) b xs := by
  rcases h with (hh | ⟨ob, hh⟩) | hh
  · refine .inl (.inl ?_)
    have hb : b ≠ a := fun z => by rw [z, hz] at hh; cases hh
    unfold without; rw [if_neg hb]; exact hh
  · refine .inl (.inr ⟨ob, ?_⟩)
    have hb : b ≠ a := fun z => by rw [z, hz] at hh; cases hh
    unfold without; rw [if_neg hb]; exact hh
  · exact .inr hh
mutual
theorem Rp.without (hz : H a = some (.lst zs)) : ∀ {v : V} {d : PyData}, lfree d = true → Rp K H v d → Rp K (without H a) v d
  | _, _, _, .non => .non
  | _, _, _, .bl b => .bl b
  | _, _, _, .int i => .int i
  | _, _, _, .str x => .str x
  | _, _, h, .lst _ _ => by simp only [lfree] at h; cases h
  | _, _, h, .tup q r => .tup (seqT_without hz q) (RpAll.without hz (by simp only [lfree] at h; exact h) r)
  | _, _, _, .dct q => .dct (by
    unfold Gd.without
    rw [if_neg (fun z => by rw [z, hz] at q; cases q)]; exact q)
  | _, _, _, .dctT kvs q => .dctT kvs (by
    unfold Gd.without
    rw [if_neg (fun z => by rw [z, hz] at q; cases q)]; exact q)
theorem RpAll.without (hz : H a = some (.lst zs)) : ∀ {vs : List V} {ds : List PyData}, lfreeAll ds = true → RpAll K H vs ds → RpAll K (without H a) vs ds
  | _, _, _, .nil => .nil
  | _, _, h, .cons q r => by
    simp only [lfreeAll, Bool.and_eq_true] at h
    exact .cons (Rp.without hz h.1 q) (RpAll.without hz h.2 r)
end
end
theorem Own.thaw {K : PySem.W.Frag} {i : Nat} {g : Gh} {A0 A1 : Hp} {a : Addr} {B B1 : Bag} {Γ : List VD} {acc : List PyData} {σ : L2.St} {H0 H : Hp} (O : Own K i g A0 A1 a B Γ acc σ H0 H) {zs : List V} (hz : H a = some (.lst zs)) (rz : RpAll K H0 zs acc)
    {H2 H' : Hp} (t : To g (upd H0 a (.lst zs)) H H2 H') (o : On K g B1 H2 H') :
    Own K i g A0 A1 a B1 Γ acc σ (without H2 a) H' ∧ Same H0 (without H2 a) ∧ H2 a = some (.lst zs) := by
  have h2 : H2 a = some (.lst zs) := t.ex _ _ upd_same
  have sm : Same H0 (without H2 a) := fun b u e => by
    have hb : b ≠ a := fun z => by rw [z, O.no] at e; cases e
    unfold without; rw [if_neg hb]
    exact t.ex _ _ (by rw [upd_ne hb]; exact e)
  refine ⟨⟨⟨O.to.ex.trans sm, fun b u f q1 q2 => ?_⟩, O.fr, O.off, O.ev.mono sm, O.at', ?_, ⟨zs, o.ex _ _ h2, rz.mono sm⟩, ⟨fun b u e => ?_, fun b l e => ?_⟩⟩, sm, h2⟩
  · have hb : b ≠ a := fun z => by rw [z, O.fr] at q2; cases q2
    obtain ⟨p1, p2⟩ := O.to.un b u f q1 q2
    obtain ⟨p3, p4⟩ := t.un b u f (by rw [upd_ne hb]; exact p1) p2
    exact ⟨by unfold Gd.without; rw [if_neg hb]; exact p3, p4⟩
  · unfold without; rw [if_pos rfl]
  · unfold without at e
    by_cases hb : b = a
    · rw [if_pos hb] at e; cases e
    · rw [if_neg hb] at e; exact o.ex _ _ e
  · obtain ⟨p1, p2, p3⟩ := o.bag b l e
    obtain ⟨_, _, q3⟩ := O.on.bag b l e
    have hb : b ≠ a := fun z => O.off l (z ▸ e)
    have hl : l ≠ a := fun z => by rw [z, O.no] at q3; cases q3
    -- the bag's list stays where it stood
    refine ⟨by unfold Gd.without; rw [if_neg hb]; exact p1, p2, by unfold Gd.without; rw [if_neg hl]; exact p3⟩
section
variable {X : Cx} {i : Nat} {Γ : List VD} {B B1 B2 B' : Bag} {acc ds : List PyData} {e e2 a b c : Expr} {es : List Expr} {d da db : VD} {y y2 : PyData} {pos p p1 p2 p3 pos' : Pos} {rest ss s1 s2 : List Stmt} {E : EnO}
end
end Gd
namespace Gd
open PySem PySem.Spec PyProof.Rows L2
abbrev Post := PyData → Bag → Prop
def EX (X : Cx) (Γ : List VD) (B : Bag) (e : Expr) (Φ : Post) : Prop :=
  ∀ g σ H0 H, EnvD X.K g H0 σ Γ → On X.K g B H0 H → ∀ Q : VK,
    (∀ v H0' H' y B', Φ y B' → To g H0 H H0' H' → On X.K g B' H0' H' → Rp X.K H0' v y → Q v H') → WE X e σ H Q
def AX (X : Cx) (Γ : List VD) (B : Bag) (es : List Expr) (Φ : List VD → Bag → Prop) : Prop :=
  ∀ g σ H0 H, EnvD X.K g H0 σ Γ → On X.K g B H0 H → ∀ Q : List V → Hp → Prop,
    (∀ vs H0' H' ds B', Φ ds B' → To g H0 H H0' H' → On X.K g B' H0' H' → RvAll X.K g H0' vs ds → Q vs H') → WA X es σ H Q
def TX (X : Cx) (Γ : List VD) (B : Bag) (e : Expr) (Φ : Bool → Bag → Prop) : Prop :=
  ∀ g σ H0 H, EnvD X.K g H0 σ Γ → On X.K g B H0 H → ∀ Q : Bool → Hp → Prop,
    (∀ b H0' H' B', Φ b B' → To g H0 H H0' H' → On X.K g B' H0' H' → Q b H') → WT X e σ H Q
def DefSpX (K : PySem.W.Frag) (Pre : List VD → Bag → Prop) (Po : List VD → Bag → Post) : Sp := fun vs H Q _ =>
  ∃ g Γ B H0, RvAll K g H0 vs Γ ∧ On K g B H0 H ∧ Pre Γ B ∧
    ∀ v H0' H' r B', Po Γ B r B' → To g H0 H H0' H' → On K g B' H0' H' → Rp K H0' v r → Q v H'
def CalX (P : Program) (w : World) (K : PySem.W.Frag) (mg : Str → Option Value) (base : Heap) (x : Str) (k : Nat) (Pre : List VD → Bag → Prop) (Po : List VD → Bag → Post) : Prop :=
  ∃ f fd ps, FnG P w K mg base k f fd ps (DefSpX K Pre Po) ∧ mg x = some (.ref f) ∧ PySem.W.keepIn K (.ref f) = true ∧ Binds K fd ps []
theorem calx_at {P : Program} {w : World} {K : PySem.W.Frag} {mg : Str → Option Value} {base : Heap} {x : Str} {st : Stmt} {N ps : List Str} {k : Nat} {Pre : List VD → Bag → Prop} {Po : List VD → Bag → Post}
    (T : At K mg x st ps) (S : FnScope N ps (defScope st)) (len : ∀ Γ B, Pre Γ B → Γ.length = ps.length)
    (body : ∀ (f : Addr) (cdv : Value) (A : Around) (out : List Env) (s : Shared) (H : Hp) (E : XK),
      Gx k (cxOf CX0 P w K mg base N x (defScope st) f cdv A out s H E).nox → ∀ Γ B, Pre Γ B →
      SJ (cxOf CX0 P w K mg base N x (defScope st) f cdv A out s H E).nox (Γ ++ List.replicate (N.length - ps.length) .no) B (defBody st)
        { nx := fun _ B2 => Po Γ B .none B2, rt := fun d B2 => Po Γ B d B2 }) : CalX P w K mg base x (k + 1) Pre Po := by
  obtain ⟨f, fd, F, hm, hb⟩ := T
  have hpl : ps.length ≤ N.length := by
    have := congrArg List.length S.pre
    rw [List.length_take] at this; omega
  refine ⟨f, fd, ps, fnG_of F S ?_ ?_, hm, F.kp, hb⟩
  · rintro vs H Q E ⟨g, Γ, B, H0, a, b, c, d⟩
    rw [a.length]; exact len _ _ c
  · intro cdv A out s H vs Q E G ⟨g, Γ, B, H0, a, b, c, d⟩
    have hl := len _ _ c
    have E0' := start_env (N := N) a (by rw [hl]; exact hpl)
    rw [hl] at E0'
    refine body f cdv A out s H E G Γ B c g _ H0 H E0' b _ ⟨?_, ?_, ?_, ?_⟩
    · intro Γ2 B2 σ H1 H' z t _ o
      exact d _ _ _ _ _ z t o .non
    · intro r2 B2 v H1 H' z t o rv
      exact d _ _ _ _ _ z t o rv
    · intro _ _ _ _ _ z; exact z.elim
    · intro _ _ _ _ _ z; exact z.elim
theorem Cal.x {P : Program} {w : World} {K : PySem.W.Frag} {mg : Str → Option Value} {base : Heap} {x : Str} {k : Nat} {R : Rel} {Pre : List VD → Bag → Prop} {Po : List VD → Bag → Post}
    (c : Cal P w K mg base x k R) (h : ∀ Γ B, Pre Γ B → ∃ r B', R Γ B r B' ∧ Po Γ B r B') : CalX P w K mg base x k Pre Po := by
  obtain ⟨f, fd, ps, F, h1, h2, h3⟩ := c
  have im : ∀ vs H Q E, DefSpX K Pre Po vs H Q E → DefSp K R vs H Q E := by
    rintro vs H Q E ⟨g, Γ, B, H0, a, b, c, d⟩
    obtain ⟨r, B', hR, hP⟩ := h Γ B c
    exact ⟨g, Γ, B, H0, r, B', a, b, hR, fun v H0' H' t o rv => d v H0' H' r B' hP t o rv⟩
  exact ⟨f, fd, ps, ⟨fun vs H Q E q => F.len vs H Q E (im _ _ _ _ q), fun A o s H ar us vs Q E q1 q2 q3 q4 q5 q => F.run A o s H ar us vs Q E q1 q2 q3 q4 q5 (im _ _ _ _ q)⟩, h1, h2, h3⟩
section
variable {X : Cx} {Γ : List VD} {B B1 B2 B' : Bag} {e a b c : Expr} {es : List Expr} {d da db : VD} {y : PyData} {pos p pos' : Pos} {rest ss s1 s2 : List Stmt} {E : En} {Φ : Post} {Ω : List VD → Bag → Prop} {Ψ : Bool → Bag → Prop}
theorem ex_ej (h : EJ X Γ B e (.da y) B1) (hΦ : Φ y B1) : EX X Γ B e Φ := fun g σ H0 H Ev O Q q => h g σ H0 H Ev O Q fun v H1 H' t o r => q v H1 H' y B1 hΦ t o r
theorem ex_mono {Φ' : Post} (h : EX X Γ B e Φ) (m : ∀ y B', Φ y B' → Φ' y B') : EX X Γ B e Φ' := fun g σ H0 H Ev O Q q => h g σ H0 H Ev O Q fun v H1 H' y B' hy t o r => q v H1 H' y B' (m _ _ hy) t o r
theorem ax_aj {ds : List VD} (h : AJ X Γ B es ds B1) (hΩ : Ω ds B1) : AX X Γ B es Ω := fun g σ H0 H Ev O Q q => h g σ H0 H Ev O Q fun v H1 H' t o r => q v H1 H' ds B1 hΩ t o r
theorem ax_nil (h : Ω [] B) : AX X Γ B [] Ω := fun g σ H0 H _ O Q q => ⟨_, pa_nil, q [] H0 H [] B h To.refl O trivial⟩
theorem ax_cons (h : EX X Γ B e fun y B1 => AX X Γ B1 es fun ds B2 => Ω (.da y :: ds) B2) (hs : starEach (e :: es) X.env = (false, eval e X.env) :: starEach es X.env := by rfl) : AX X Γ B (e :: es) Ω := fun g σ H0 H E O Q q =>
  ⟨_, pa_cons (we e) (wa es) hs, h g σ H0 H E O _ fun v H1 H' y B1 hy t o rv => hy g σ H1 H' (E.mono t.ex) o _ fun vs H2 H'' ds B2 hd t2 o2 rs => q (v :: vs) H2 H'' _ _ hd (t.trans t2) o2 ⟨Rp.mono t2.ex rv, rs⟩⟩
theorem ax_bag (i : Nat) {x : Str} (r : AX X Γ B es fun ds B2 => Ω (.bag :: ds) B2) (h : Γ[i]? = some .bag := by rfl) (hN : X.N[i]? = some x := by rfl)
    (hv : Vis X.env.scope x := by first | exact Or.inl rfl | exact Or.inr (Or.inl rfl) | exact Or.inr (Or.inr rfl))
    (h1 : (x == ("__debug__" : Str)) = false := by decide) (h2 : (x == ("__classdict__" : Str)) = false := by decide)
    (hs : starEach (.Name x pos :: es) X.env = (false, eval (.Name x pos) X.env) :: starEach es X.env := by rfl) : AX X Γ B (.Name x pos :: es) Ω := fun g σ H0 H E O Q q =>
  ⟨_, pa_cons (we (.Name x pos)) (wa es) hs, (ej_bag (B := B) i h hN hv h1 h2) g σ H0 H E O _ fun v H1 H' t o rv => r g σ H1 H' (E.mono t.ex) o _ fun vs H2 H'' ds B2 hd t2 o2 rs => q (v :: vs) H2 H'' _ _ hd (t.trans t2) o2 ⟨rv.mono t2.ex, rs⟩⟩
theorem ex_call {x : Str} {k : Nat} {Pre : List VD → Bag → Prop} {Po : List VD → Bag → Post} (c : CalX X.prog X.w X.K X.mg X.base x k Pre Po) (g : Gx k X) (ha : AX X Γ B (e :: es) fun ds B1 => Pre ds B1 ∧ ∀ r B', Po ds B1 r B' → Φ r B')
    (hg : Gl X x := by rfl) (hdb : (x == ("__debug__" : Str)) = false := by decide) (he : starEach (e :: es) X.env = (false, eval e X.env) :: starEach es X.env := by rfl)
    (hpl : (backTo pos (starEach es X.env)).any (·.1) = false := by rfl) : EX X Γ B (.Call (.Name x p) (e :: es) [] pos) Φ := by
  obtain ⟨f, fd, ps, F, hm, hk, hb⟩ := c
  intro gh σ H0 H E O Q q
  refine ⟨fun σ H Q => WA X (e :: es) σ H fun vs H1 => DefSpX X.K Pre Po vs H1 Q E0, ⟨fun pins s σ H Q I h => ?_⟩, ?_⟩
  · refine wpAny_Call_Name_kw (ld_glob I hg hm ?_ hdb)
    refine PySem.W.callWith_K (h₀ := X.base) I.ok.mod.kin hk (thn ((wa (e :: es)).run pos pins s σ H _ I h) ?_) he hpl
    rintro us s1 ⟨vs, H1, I1, r1, q1⟩
    exact ⟨I1.kIn, runG F g hb I1 r1 q1⟩
  · refine ha gh σ H0 H E O _ fun vs H1 H' ds B1 hd t o rs => ?_
    exact ⟨gh, ds, B1, H1, rs, o, hd.1, fun v H2 H'' r B2 hr t2 o2 rv => q v H2 H'' _ _ (hd.2 _ _ hr) (t.trans t2) o2 rv⟩
theorem ex_callD {x : Str} {k : Nat} {R : Rel} (c : Cal X.prog X.w X.K X.mg X.base x k R) (g : Gx k X) (ha : AX X Γ B (e :: es) fun ds B1 => ∃ r B', R ds B1 r B' ∧ Φ r B')
    (hg : Gl X x := by rfl) (hdb : (x == ("__debug__" : Str)) = false := by decide) (he : starEach (e :: es) X.env = (false, eval e X.env) :: starEach es X.env := by rfl)
    (hpl : (backTo pos (starEach es X.env)).any (·.1) = false := by rfl) : EX X Γ B (.Call (.Name x p) (e :: es) [] pos) Φ := by
  obtain ⟨f, fd, ps, F, hm, hk, hb⟩ := c
  intro gh σ H0 H E O Q q
  refine ⟨fun σ H Q => WA X (e :: es) σ H fun vs H1 => DefSp X.K R vs H1 Q E0, ⟨fun pins s σ H Q I h => ?_⟩, ?_⟩
  · refine wpAny_Call_Name_kw (ld_glob I hg hm ?_ hdb)
    refine PySem.W.callWith_K (h₀ := X.base) I.ok.mod.kin hk (thn ((wa (e :: es)).run pos pins s σ H _ I h) ?_) he hpl
    rintro us s1 ⟨vs, H1, I1, r1, q1⟩
    exact ⟨I1.kIn, runG F g hb I1 r1 q1⟩
  · refine ha gh σ H0 H E O _ fun vs H1 H' ds B1 hd t o rs => ?_
    obtain ⟨r, B2, hR, hΦ⟩ := hd
    exact ⟨gh, ds, B1, H1, r, B2, rs, o, hR, fun v H2 H'' t2 o2 rv => q v H2 H'' _ _ hΦ (t.trans t2) o2 rv⟩
theorem ex_tup {k} (h : AX X Γ B es fun ds B1 => ∃ ys : List PyData, ds = ys.map .da ∧ ys.length ≤ 1000 ∧ Φ (.tuple ys) B1) : EX X Γ B (.Tuple es k pos) Φ := fun g σ H0 H Ev O Q q =>
  ⟨_, pe_tup (wa es), h g σ H0 H Ev O _ fun vs H1 H' ds B1 hd t o rs => by
    obtain ⟨ys, rfl, hl, hΦ⟩ := hd
    have rs := RvAll.dat rs
    refine ⟨by rw [rs.length]; exact Nat.le_of_lt (small1000 hl), fun n hn => ?_⟩
    obtain ⟨t2, o2⟩ := laid (o := .tup vs) o hn
    exact q _ _ _ _ _ hΦ (t.trans t2) o2 (Rp.tup (SqT.of upd_same) (rs.mono t2.ex))⟩
theorem ex_lst (h : AX X Γ B es fun ds B1 => ∃ ys : List PyData, ds = ys.map .da ∧ ys.length ≤ 1000 ∧ Φ (.list ys) B1) : EX X Γ B (.List es pos) Φ := fun g σ H0 H Ev O Q q =>
  ⟨_, pe_lst (wa es), h g σ H0 H Ev O _ fun vs H1 H' ds B1 hd t o rs => by
    obtain ⟨ys, rfl, hl, hΦ⟩ := hd
    have rs := RvAll.dat rs
    refine ⟨by rw [rs.length]; exact Nat.le_of_lt (small1000 hl), fun n hn => ?_⟩
    obtain ⟨t2, o2⟩ := laid (o := .lst vs) o hn
    exact q _ _ _ _ _ hΦ (t.trans t2) o2 (Rp.lst upd_same (rs.mono t2.ex))⟩
theorem tx_tj {x : Bool} (h : TJ X Γ B e x B1) (hΨ : Ψ x B1) : TX X Γ B e Ψ := fun g σ H0 H Ev O Q q => h g σ H0 H Ev O Q fun H1 H' t o => q x H1 H' B1 hΨ t o
theorem ex_bin {r : R2} (ha : EX X Γ B a fun y B1 => EX X Γ B1 b fun z B2 => ∃ u, Φ u B2 ∧ ∀ g v w H0 H, On X.K g B2 H0 H → Rp X.K H0 v y → Rp X.K H0 w z → ∀ Q : VK, (∀ z H0' H', To g H0 H H0' H' → On X.K g B2 H0' H' → Rp X.K H0' z u → Q z H') → r v w H Q)
    (hp : ∀ t u, PE X a t → PE X b u → PE X e (tOp r t u)) : EX X Γ B e Φ := fun g σ H0 H E O Q q =>
  ⟨_, hp _ _ (we a) (we b), ha g σ H0 H E O _ fun v H1 H' y B1 hy t o rv => hy g σ H1 H' (E.mono t.ex) o _ fun w H2 H'' z B2 hz t2 o2 rw' => by
    obtain ⟨u, hu, hr⟩ := hz
    exact hr g v w H2 H'' o2 (rv.mono t2.ex) rw' Q fun z H3 H3' t3 o3 r3 => q z H3 H3' u B2 hu ((t.trans t2).trans t3) o3 r3⟩
theorem sj_setX (i : Nat) {x : Str} (nd : X.N.Nodup) (h : EX X Γ B e fun y B1 => SJ X (Γ.set i (.da y)) B1 rest E) (hi : X.N[i]? = some x := by rfl)
    (hx : Loc X.env.scope x := by first | exact Or.inl rfl | exact Or.inr rfl) (hs : swapsWith e (some (.Name x pos')) pos.line X.env = pure false := by rfl)
    (hf : X.fn x = true ∨ X.env.scope.names.lookup x = some .local := by first | exact Or.inl rfl | exact Or.inr rfl) : SJ X Γ B (.Assign [.Name x pos'] e pos :: rest) E := fun g σ H0 H Ev O D G =>
  ⟨_, pss_cons (ps_set nd hi hx (we e) hs hf) (ws rest), h g σ H0 H Ev O _ fun v H1 H' y B1 k t o r => k g _ H1 H' ((Ev.mono t.ex).set i r) o D (G.on t)⟩
theorem sj_retX (h : EX X Γ B e E.rt) : SJ X Γ B (.Return (some e) pos :: rest) E := fun g σ H0 H Ev O D G =>
  ⟨_, pss_cons (ps_ret (we e)) (ws rest), h g σ H0 H Ev O _ fun v H1 H' y B1 hy t o r => G.rt _ B1 v H1 H' hy t o r⟩
theorem sj_ifX (h : TX X Γ B c fun x B1 => (x = true → SJ X Γ B1 s1 { E with nx := fun Γ' B' => SJ X Γ' B' rest E }) ∧ (x = false → SJ X Γ B1 s2 { E with nx := fun Γ' B' => SJ X Γ' B' rest E })) :
    SJ X Γ B (.If c s1 s2 pos :: rest) E := fun g σ H0 H Ev O D G =>
  ⟨_, pss_cons (ps_if (wt c) (ws s1) (ws s2)) (ws rest), h g σ H0 H Ev O _ fun x H1 H' B1 hx t o => by
    have G' : Gets X { E with nx := fun Γ' B' => SJ X Γ' B' rest E } g H1 H' { D with nx := WS X rest D } :=
      ⟨fun Γ2 B2 σ2 H2 H'' q t2 ev o2 => q g σ2 H2 H'' ev o2 D (G.on (t.trans t2)), (G.on t).rt, (G.on t).bk, (G.on t).ct⟩
    cases x with
    | true => exact iteT (hx.1 rfl g σ H1 H' (Ev.mono t.ex) o _ G')
    | false => exact iteF (hx.2 rfl g σ H1 H' (Ev.mono t.ex) o _ G')⟩
end
section
variable {X : Cx} {i : Nat} {Γ : List VD} {B B1 B2 B' : Bag} {acc ds : List PyData} {e e2 a b c : Expr} {es : List Expr} {d da db : VD} {y y2 : PyData} {pos p p1 p2 p3 pos' : Pos} {rest ss s1 s2 : List Stmt} {E : EnO} {Φ : Post}
theorem Own.frozen {K : PySem.W.Frag} {g : Gh} {A0 A1 : Hp} {a : Addr} {σ : L2.St} {H0 H : Hp} (w : Own K i g A0 A1 a B Γ acc σ H0 H) {zs : List V} (hz : H a = some (.lst zs)) (rz : RpAll K H0 zs acc) :
    EnvD K g (upd H0 a (.lst zs)) σ (Γ.set i (.da (.list acc))) ∧ On K g B (upd H0 a (.lst zs)) H := by
  have sm : Same H0 (upd H0 a (.lst zs)) := fun b o e => by
    rw [upd_ne fun z : b = a => by rw [z, w.no] at e; cases e]; exact e
  refine ⟨?_, fun b o e => ?_, fun b l e => ?_⟩
  · have e := (w.ev.mono sm).set (v := .ref a) (d := .da (.list acc)) i (Rp.lst upd_same (rz.mono sm))
    have es : σ.set i (some (.ref a)) = σ := by
      apply List.ext_getElem?
      intro j
      by_cases hj : i = j
      · subst hj
        rw [List.getElem?_set_self (List.getElem?_eq_some_iff.mp w.at').1, w.at']
      · rw [List.getElem?_set_ne hj]
    rw [es] at e; exact e
  · by_cases hb : b = a
    · subst hb; rw [upd_same] at e; rw [hz]; exact e
    · rw [upd_ne hb] at e; exact w.on.ex b o e
  · obtain ⟨p, q, r⟩ := w.on.bag b l e
    have hb : b ≠ a := fun z => w.off l (z ▸ e)
    have hl : l ≠ a := fun z => by rw [z, w.no] at r; cases r
    exact ⟨by rw [upd_ne hb]; exact p, q, by rw [upd_ne hl]; exact r⟩
end
section
variable {X : Cx} {Γ : List VD} {B B1 B2 B' : Bag} {e a : Expr} {elt : Expr} {scope : Scope} {j : Nat} {x : Str} {px : Pos} {ds ys : List PyData} {pos pos' : Pos} {rest : List Stmt} {E : En} {Φ : Post}
end
end Gd
namespace Gd
open PySem PySem.Spec PyProof.Rows L2
section
variable {X : Cx} {Γ : List VD} {B B1 B2 B' : Bag} {e a b c : Expr} {es : List Expr} {d da db : VD} {y : PyData} {pos p pos' : Pos} {rest ss s1 s2 : List Stmt} {E : En} {Φ : Post} {Ω : List VD → Bag → Prop} {Ψ : Bool → Bag → Prop}
theorem ax_one (h : EX X Γ B e fun y B1 => Ω [.da y] B1) (hs : starEach [e] X.env = [(false, eval e X.env)] := by rfl) : AX X Γ B [e] Ω := ax_cons (ex_mono h fun y B1 hy => ax_nil hy) hs
end
end Gd
set_option exponentiation.threshold 20000
namespace Lw
open PySem PySem.Spec PyProof.Rows L2 Gd Fr
open scoped Rat
theorem lay_all {ds : List PyData} (h : ∀ d ∈ ds, d.canLay0 = true) : PyData.canLayAll0 ds = true := by
  induction ds with
  | nil => simp only [PyData.canLayAll0]
  | cons d ds ih => simp only [PyData.canLayAll0, h d List.mem_cons_self, ih fun x hx => h x (List.mem_cons_of_mem _ hx), Bool.and_self]
theorem depth_all {n : Nat} {ds : List PyData} (h : ∀ d ∈ ds, d.depth ≤ n) : PyData.depthAll ds ≤ n := by
  induction ds with
  | nil => exact Nat.zero_le _
  | cons d ds ih =>
    show max d.depth (PyData.depthAll ds) ≤ n
    exact Nat.max_le.mpr ⟨h d List.mem_cons_self, ih fun x hx => h x (List.mem_cons_of_mem _ hx)⟩
def Sh (n : Nat) (d : PyData) : Prop := d.canLay0 = true ∧ d.depth ≤ n
theorem Sh.shaped {n : Nat} {d : PyData} (h : Sh n d) (hn : n ≤ 64 := by decide) : SeqAt.shaped d = true := by
  unfold SeqAt.shaped
  rw [h.1, Bool.true_and, decide_eq_true_eq]
  exact Nat.le_trans h.2 hn
theorem Sh.lst {n : Nat} {ds : List PyData} (h : ∀ d ∈ ds, Sh n d) : Sh (n + 1) (.list ds) :=
  ⟨by simp only [PyData.canLay0]; exact lay_all fun d hd => (h d hd).1, by show PyData.depthAll ds + 1 ≤ n + 1; have := depth_all fun d hd => (h d hd).2; omega⟩
theorem Sh.tup {n : Nat} {ds : List PyData} (h : ∀ d ∈ ds, Sh n d) : Sh (n + 1) (.tuple ds) :=
  ⟨by simp only [PyData.canLay0]; exact lay_all fun d hd => (h d hd).1, by show PyData.depthAll ds + 1 ≤ n + 1; have := depth_all fun d hd => (h d hd).2; omega⟩
theorem Sh.int (i : Int) : Sh 0 (.int i) := ⟨by simp only [PyData.canLay0], Nat.le_refl _⟩
theorem Sh.str {x : Str} (h : PyData.strOk x = true) : Sh 0 (.str x) := ⟨by simp only [PyData.canLay0]; exact h, Nat.le_refl _⟩
theorem Sh.tup1 {n : Nat} {d : PyData} (h : Sh n d) : Sh (n + 1) (.tuple [d]) := Sh.tup fun e he => by rw [List.mem_singleton.mp he]; exact h
theorem Sh.mono {n m : Nat} {d : PyData} (h : Sh n d) (e : n ≤ m) : Sh m d := ⟨h.1, Nat.le_trans h.2 e⟩
theorem sh_va (v : Va) : Sh 1 v.d := by
  cases v with
  | nan => exact Sh.tup1 (Sh.str (by decide +kernel))
  | inf s => exact ⟨by show PyData.canLay0 (.tuple [.str "inf", .int s]) = true; simp only [PyData.canLay0, PyData.canLayAll0, Bool.and_true]; decide +kernel, Nat.le_refl _⟩
  | num s c e => exact ⟨by show PyData.canLay0 (.tuple [.str "num", .int s, .int c, .int e]) = true; simp only [PyData.canLay0, PyData.canLayAll0, Bool.and_true]; decide +kernel, Nat.le_refl _⟩
inductive Te where
  | nan
  | inf (s : Int)
  | x (q : Rat) (s : Int)
def Te.d : Te → PyData
  | .nan => .tuple [.str "nan"]
  | .inf s => .tuple [.str "inf", .int s]
  | .x q s => .tuple [.str "x", fq q, .int s]
def Te.isNan : Te → Bool
  | .nan => true
  | _ => false
def Te.isInf : Te → Bool
  | .inf _ => true
  | _ => false
def Te.sg : Te → Int
  | .nan => 0
  | .inf s => s
  | .x _ s => s
def Te.q : Te → Rat
  | .x q _ => q
  | _ => 0
end Lw
namespace Lw
open PySem PySem.Spec PyProof.Rows L2 Gd Fr
end Lw
set_option exponentiation.threshold 20000
namespace Lw
open PySem PySem.Spec PyProof.Rows L2 Gd Fr
open scoped Rat
theorem F4.inj {t u : F4} (h : t.d = u.d) : t = u := by
  obtain ⟨a, b, c, d⟩ := t
  obtain ⟨a', b', c', d'⟩ := u
  have h : fmP a b c d = fmP a' b' c' d' := h
  unfold fmP at h
  injection h with h
  injection h with h1 h
  injection h with h2 h
  injection h with h3 h
  injection h with h4 h
  injection h1 with h1
  injection h2 with h2
  injection h3 with h3
  injection h4 with h4
  have h1 : a = a' := by omega
  have h2 : b = b' := by omega
  subst h1; subst h2; subst h3; subst h4; rfl
section
variable {b p : Nat} {low high : Int} (F : Fm b p low high)
include F
end
end Lw
namespace Lw
open Gd
end Lw
set_option exponentiation.threshold 20000
namespace Lw
open PySem PySem.Spec PyProof.Rows L2 Gd Fr
open scoped Rat
end Lw
set_option exponentiation.threshold 20000
namespace Lw
open PySem PySem.Spec PyProof PyProof.Rows L2 Gd Fr
open scoped Rat
theorem big_lt {b D t P : Nat} (h2 : 2 ≤ b) (hD : 1 ≤ D) (h : (b ^ D - 1) * b ^ t < b ^ P) : D + t ≤ P := by
  refine Nat.not_lt.mp fun hn => ?_
  have h1 : b ^ P ≤ b ^ (D - 1 + t) := Nat.pow_le_pow_right (by omega) (by omega)
  have h3 : b ^ (D - 1) ≤ b ^ D - 1 := by
    have e : b ^ D = b ^ (D - 1) * b := by rw [← Nat.pow_succ]; exact congrArg (b ^ ·) (by omega)
    have p : 0 < b ^ (D - 1) := Nat.pow_pos (by omega)
    have := Nat.mul_le_mul_left (b ^ (D - 1)) h2
    omega
  have h4 : b ^ (D - 1) * b ^ t ≤ (b ^ D - 1) * b ^ t := Nat.mul_le_mul_right _ h3
  rw [← Nat.pow_add] at h4
  omega
end Lw
namespace Gd
open PySem PySem.Spec PyProof.Rows L2
section
variable {X : Cx} {Γ : List VD} {B B1 B2 : Bag} {e c elt : Expr} {scope : Scope} {acc : List PyData} {pos pos' : Pos} {rest : List Stmt} {E : En} {d : VD}
theorem wj_andF (h : TJ X Γ B e false B1) : WJ X Γ B (.BoolOp .And (e :: a :: es) pos) false B1 := fun g σ H0 H E O Q q =>
  ⟨_, pw_and (wt e) (ww _), h g σ H0 H E O _ fun H1 H' t o => iteF (q H1 H' t o)⟩
end
end Gd
set_option exponentiation.threshold 20000
namespace Lw
open PySem PySem.Spec PyProof.Rows L2 Gd Fr
open scoped Rat
inductive R_timesW : Rel
  | mk (n d m c : Nat) (x y : Rat) (B : Bag) (hx : Qz n d x) (hy : Qz m c y) (h1 : n ≤ 90000) (h2 : m ≤ 90000) (h3 : d ≤ 8900) (h4 : c ≤ 8900) : R_timesW [.da (fq x), .da (fq y)] B (fq (x * y)) B
end Lw
namespace Lw
open PySem PySem.Spec PyProof.Rows L2 Gd Fr
open scoped Rat
end Lw
namespace Gd
open PySem PySem.Spec PyProof.Rows L2
section
variable {X : Cx} {Γ : List VD} {B B1 B2 : Bag} {e c elt : Expr} {scope : Scope} {acc : List PyData} {pos pos' : Pos} {rest : List Stmt} {E : En} {d : VD} {Φ : Post}
end
end Gd
set_option exponentiation.threshold 20000
namespace Lw
open PySem PySem.Spec PyProof.Rows L2 Gd Fr
open scoped Rat
end Lw
set_option exponentiation.threshold 20000
namespace Lw
open PySem PySem.Spec PyProof.Rows L2 Gd Fr
open scoped Rat
def Fl (fl : List Str) : Prop := fl = [] ∨ fl = (["invalid"] : List Str) ∨ fl = (["inexact", "over"] : List Str) ∨ fl = (["inexact", "tiny"] : List Str) ∨ fl = (["inexact"] : List Str)
theorem Fl.sh {fl : List Str} (h : Fl fl) : SeqAt.shaped (words fl) = true := by
  rcases h with rfl | rfl | rfl | rfl | rfl <;> decide +kernel
theorem Fl.eqv {fl : List Str} (h : Fl fl) : PyData.eqv (words fl) (.tuple []) = decide (fl = []) := by
  rcases h with rfl | rfl | rfl | rfl | rfl <;> rfl
end Lw
namespace Gd
open PySem PySem.Spec PyProof.Rows L2
section
variable {prog : Program} {w : World} {A : Around} {E : Value → Shared → Prop} {s : Shared}
end
section
variable {X : Cx} {Γ : List VD} {B B1 B2 : Bag} {a b c e : Expr} {pos p pos' : Pos} {rest s1 : List Stmt} {E : En}
end
end Gd
namespace Gd
open PySem PySem.Spec PyProof.Rows L2
section
variable {X : Cx} {Γ : List VD} {B B1 B2 B3 B' : Bag} {e a b c : Expr} {es : List Expr} {d da db dc : VD} {pos p pos' apos p1 p2 p3 : Pos} {rest ss s1 s2 : List Stmt} {E : En}
end
end Gd
set_option exponentiation.threshold 20000
namespace Lw
open PySem PySem.Spec PyProof.Rows L2 Gd Fr
open scoped Rat
inductive Sp where
  | none
  | span (u v : Va)
def Sp.d : Sp → PyData
  | .none => .tuple [.str "none"]
  | .span u v => .tuple [.str "span", u.d, v.d]
def Sp.ok (b p : Nat) (low high : Int) : Sp → Prop
  | .none => True
  | .span u v => (Vcan b p low high u ∧ u.isNan = false) ∧ Vcan b p low high v ∧ v.isNan = false
def apI (b p : Nat) (low high : Int) : Sp → Int
  | .none => 0
  | .span u v => rkI b p low high v - rkI b p low high u
inductive Wd (b p : Nat) (low high : Int) (L : List Sp) : PyData → Prop
  | none (h : ∀ s ∈ L, apI b p low high s < 2) : Wd b p low high L .none
  | some (i : Nat) (x : Sp) (hi : L[i]? = .some x) (h2 : 2 ≤ apI b p low high x) (h3 : ∀ s ∈ L, apI b p low high s ≤ apI b p low high x) (h4 : ∀ j y, j < i → L[j]? = .some y → apI b p low high y < apI b p low high x) : Wd b p low high L (.int (i : Nat))
theorem Wd.one {b p : Nat} {low high : Int} {L : List Sp} {d e : PyData} (h : Wd b p low high L d) (h' : Wd b p low high L e) : d = e := by
  cases h with
  | none h =>
    cases h' with
    | none _ => rfl
    | some i x hi h2 _ _ => have := h x (List.mem_of_getElem? hi); omega
  | some i x hi h2 h3 h4 =>
    cases h' with
    | none h => have := h x (List.mem_of_getElem? hi); omega
    | some j y hj g2 g3 g4 =>
      have a1 := h3 y (List.mem_of_getElem? hj)
      have a2 := g3 x (List.mem_of_getElem? hi)
      rcases Nat.lt_trichotomy i j with z | z | z
      · have := g4 i x z hi; omega
      · rw [z]
      · have := h4 j y z hj; omega
noncomputable def wdP (b p : Nat) (low high : Int) (L : List Sp) : PyData := by
  classical exact if h : ∃ d, Wd b p low high L d then h.choose else .none
theorem Wd.is {b p : Nat} {low high : Int} {L : List Sp} {d : PyData} (h : Wd b p low high L d) : wdP b p low high L = d := by
  have hx : ∃ d, Wd b p low high L d := ⟨d, h⟩
  unfold wdP
  rw [dif_pos hx]
  exact hx.choose_spec.one h
theorem pick_ex {α : Type} (xs : List α) (f : α → PyData) (B : Bag) (h : 0 < xs.length) : ∃ x ∈ xs, pick (xs.map f) B = f x := by
  have h0 := tkV_ge B (m := (xs.map f).length) (by rw [List.length_map]; omega)
  have h1 := tkV_lt B (m := (xs.map f).length) (by rw [List.length_map]; omega)
  have hlt : (tkV B (xs.map f).length).toNat < xs.length := by rw [List.length_map] at h1 ⊢; rw [List.length_map] at h0; omega
  refine ⟨xs[(tkV B (xs.map f).length).toNat], List.getElem_mem hlt, ?_⟩
  unfold pick
  rw [List.getD_eq_getElem?_getD, List.getElem?_map, List.getElem?_eq_getElem hlt]
  rfl
end Lw
namespace PySem
end PySem
namespace Gd
open PySem PySem.Spec PyProof.Rows L2
end Gd
namespace Gd
open PySem PySem.Spec PyProof.Rows L2
end Gd
namespace Gd
open PySem PySem.Spec PyProof.Rows L2
section
variable {X : Cx} {Γ : List VD} {B B1 : Bag} {a : Expr} {p p' kp pos : Pos}
end
end Gd
set_option exponentiation.threshold 20000
namespace Lw
open PySem PySem.Spec PyProof.Rows L2 Gd Fr
open scoped Rat
def plT : Va → Int × Int × Int
  | .nan => (2, 0, 0)
  | .inf s => if s = 0 then (1, 0, 0) else (-2, 0, 0)
  | .num s c e => if s = 0 then (0, e, c) else (-1, -e, -c)
def t3 (x : Int × Int × Int) : PyData := .tuple [.int x.1, .int x.2.1, .int x.2.2]
end Lw
set_option exponentiation.threshold 20000
namespace Lw
open PySem PySem.Spec PyProof.Rows L2 Gd Fr
open scoped Rat
section
variable {b p : Nat} {low high : Int} (F : Fm b p low high)
include F
end
section
variable {b p : Nat} {low high : Int} (F : Fm b p low high)
include F
end
end Lw
set_option exponentiation.threshold 20000
namespace Gd
open PySem PySem.Spec PyProof.Rows L2
section
variable {X : Cx} {Γ : List VD} {B B1 B2 B' : Bag} {e a b c : Expr} {pos : Pos}
end
end Gd
set_option exponentiation.threshold 20000
namespace Lw
open PySem PySem.Spec PyProof.Rows L2 Gd Fr
open scoped Rat
def lex3 (x y : Int × Int × Int) : Prop := x.1 < y.1 ∨ (x.1 = y.1 ∧ (x.2.1 < y.2.1 ∨ (x.2.1 = y.2.1 ∧ x.2.2 < y.2.2)))
instance (x y : Int × Int × Int) : Decidable (lex3 x y) := by unfold lex3; infer_instance
theorem lex3_asym {x y : Int × Int × Int} (h : lex3 x y) : ¬ lex3 y x := by unfold lex3 at *; omega
section
variable {b p : Nat} {low high : Int} (F : Fm b p low high)
include F
end
section
variable {b p : Nat} {low high : Int} (F : Fm b p low high)
include F
end
end Lw
namespace Lw
open PySem PySem.Spec PyProof.Rows L2 Gd Fr
end Lw
namespace Lw
open PySem PySem.Spec PyProof.Rows L2 Gd Fr
end Lw
namespace Lw
open PySem PySem.Spec PyProof.Rows L2 Gd Fr
end Lw
namespace Lw
open PySem PySem.Spec PyProof.Rows L2 Gd Fr
open scoped Rat
end Lw
namespace Lw
open PySem PySem.Spec PyProof.Rows L2 Gd Fr
open scoped Rat
end Lw
namespace Lw
open PySem PySem.Spec PyProof.Rows L2 Gd Fr
end Lw
set_option exponentiation.threshold 20000
namespace Gd
open PySem PySem.Spec PyProof.Rows L2
section
variable {X : Cx} {Γ : List VD} {B B1 B2 B' : Bag} {e a b c : Expr} {pos p : Pos}
end
end Gd
set_option exponentiation.threshold 20000
namespace Lw
open PySem PySem.Spec PyProof.Rows L2 Gd Fr
open scoped Rat
def IsR (b p : Nat) (low : Int) (q : Rat) (e : Int) : Prop := low ≤ e ∧ q < pw b (2 * (p + e)) ∧ (e = low ∨ pw b (2 * (p + e - 1)) ≤ q)
section
variable {b p : Nat} (h2 : 2 ≤ b)
include h2
end
open Classical in
noncomputable def eR (b p : Nat) (low : Int) (q : Rat) : Int := if h : ∃ e, IsR b p low q e then h.choose else low
section
variable {b p : Nat} (h2 : 2 ≤ b)
include h2
end
end Lw
set_option exponentiation.threshold 20000
namespace Lw
open PySem PySem.Spec PyProof.Rows L2 Gd Fr
open scoped Rat
structure RtOk (b : Nat) (low : Int) (q : Rat) (n d : Nat) : Prop where
  h0 : 0 < q
  hq : Qz n d q
  hn : n ≤ 8800
  hd : d ≤ 8800
  hL : q.den * b ^ (2 * low).toNat < 2 ^ 8800
section
variable {b p : Nat} {low high : Int} (F : Fm b p low high)
include F
end
end Lw
set_option exponentiation.threshold 20000
namespace Lw
open PySem PySem.Spec PyProof.Rows L2 Gd Fr
open scoped Rat
section
variable {b : Nat} (h2 : 2 ≤ b)
include h2
end
end Lw
set_option exponentiation.threshold 20000
namespace Lw
open PySem PySem.Spec PyProof.Rows L2 Gd Fr
open scoped Rat
section
variable {b p : Nat} {low high : Int} (F : Fm b p low high)
include F
end
section
variable (b p : Nat) (low high : Int)
end
end Lw
set_option exponentiation.threshold 20000
namespace Gd
open PySem PySem.Spec PyProof.Rows L2
section
variable {X : Cx} {Γ : List VD} {B B1 B2 B' : Bag} {e a b c : Expr} {pos p : Pos} {rest s1 : List Stmt} {E : En} {Φ : Post}
end
end Gd
set_option exponentiation.threshold 20000
namespace Lw
open PySem PySem.Spec PyProof.Rows L2 Gd Fr
open scoped Rat
end Lw
namespace Lw
open PySem PySem.Spec PyProof.Rows L2 Gd Fr
open scoped Rat
end Lw
namespace Lw
open PySem PySem.Spec PyProof.Rows L2 Gd Fr
open scoped Rat
end Lw
set_option exponentiation.threshold 20000
namespace Lw
open PySem PySem.Spec PyProof.Rows L2 Gd Fr
open scoped Rat
structure Sz (b p : Nat) (low high : Int) (P H J : Nat) : Prop where
  hP : b ^ p < 2 ^ P
  hH : b ^ high.toNat < 2 ^ H
  hL : b ^ (-low).toNat < 2 ^ J
  pj : P + H ≤ J
  p1 : 1 ≤ P
  h1 : 1 ≤ H
section
variable {b p : Nat} {low high : Int} {P H J : Nat} (F : Fm b p low high) (Z : Sz b p low high P H J)
include F Z
theorem Sz.pw {e : Int} (h : low ≤ e) (h' : e ≤ high) : Qz H J (pw b e) := by
  have b2 := F.b2
  refine pw_bd b2 ?_ ?_ Z.h1 (by have := Z.pj; have := Z.p1; omega)
  · exact Nat.lt_of_le_of_lt (Nat.pow_le_pow_right (by omega) (by omega)) Z.hH
  · exact Nat.lt_of_le_of_lt (Nat.pow_le_pow_right (by omega) (by omega)) Z.hL
theorem Sz.c {c : Int} (h0 : 0 ≤ c) (h1 : c < ((b ^ p : Nat) : Int)) : Qz P 1 (c : Rat) := by
  have := Z.hP
  exact ⟨by rw [Rat.num_intCast]; unfold Bd; omega, by rw [Rat.den_intCast]; unfold Bd; decide⟩
theorem Sz.half {q : Rat} (h0 : 0 ≤ q) (hq : Qz (J + 540) (J + 540) q) : Qz (P + 2 + (J + 540)) (2 + J) (((2 * cQ b (eQ b p low q) q + 1 : Int) : Rat) / 2 * Lw.pw b (eQ b p low q)) := by
  have b2 := F.b2
  have pj := Z.pj; have p1 := Z.p1; have z1 := Z.h1
  have hE := eQ_is (p := p) b2 low q
  have c0 := c_ge b2 h0 (eQ b p low q)
  have c1 := c_lt b2 hE
  have ebd := F.e_bd hq h0 hE
  have el := hE.1
  generalize eQ b p low q = e at *
  have hu : Qz (J + 540) J (Lw.pw b e) := by
    refine pw_bd b2 ?_ ?_ (by omega) (by omega)
    · have h3 : 2 ^ H ≤ 2 ^ (J + 540) := Nat.pow_le_pow_right (by decide) (by omega)
      rcases ebd with ⟨h, _, _⟩ | h | h
      · exact Nat.lt_of_le_of_lt (Nat.le_mul_of_pos_left _ q.den_pos) h
      · have : e.toNat = 0 := by omega
        rw [this, Nat.pow_zero]; exact Nat.one_lt_two_pow (by omega)
      · have h5 : b ^ e.toNat ≤ b ^ high.toNat := Nat.pow_le_pow_right (by omega) (by have := F.lh; omega)
        have := Z.hH
        omega
    · exact Nat.lt_of_le_of_lt (Nat.pow_le_pow_right (by omega) (by omega)) Z.hL
  have hc : Qz (P + 2) 1 ((2 * cQ b e q + 1 : Int) : Rat) := by
    have := Z.hP
    have e4 : 2 ^ (P + 2) = 2 ^ P * 4 := by rw [Nat.pow_add]
    exact ⟨by rw [Rat.num_intCast]; unfold Bd; omega, by rw [Rat.den_intCast]; unfold Bd; decide⟩
  have h2 : Qz 2 1 (2 : Rat) := ⟨by unfold Bd; decide, by unfold Bd; decide⟩
  have h2' : Qz (P + 2) 2 (((2 * cQ b e q + 1 : Int) : Rat) / 2) := by
    rw [Rat.div_def]
    have hi : Qz 1 2 ((2 : Rat)⁻¹) := ⟨by unfold Bd; decide +kernel, by unfold Bd; decide +kernel⟩
    have e1 : ((2 * cQ b e q + 1 : Int) : Rat) * (2 : Rat)⁻¹ = (2 * cQ b e q + 1) /. 2 := by rw [← Rat.div_def, Rat.divInt_eq_div]; rfl
    rw [e1]
    have hn : Bd (P + 2) (2 * cQ b e q + 1) := by have := hc.nu; rwa [Rat.num_intCast] at this
    obtain ⟨z1, z2⟩ := divInt_bd (n := 2 * cQ b e q + 1) (d := 2) (by decide) hn (b := 2) (by unfold Bd; decide)
    exact ⟨z1, z2⟩
  exact (h2'.mul hu).le (by omega) (by omega)
end
end Lw
set_option exponentiation.threshold 20000
namespace Gd
open PySem PySem.Spec PyProof.Rows L2
section
variable {X : Cx} {Γ : List VD} {B B1 B2 B' : Bag} {e a b c : Expr} {pos : Pos}
end
end Gd
set_option exponentiation.threshold 20000
namespace Lw
open PySem PySem.Spec PyProof.Rows L2 Gd Fr
open scoped Rat
section
variable {X : Cx} {Γ : List VD} {B B1 B2 B' : Bag} {e a b c : Expr} {pos : Pos} {x y : Int × Int × Int}
end
def plc (v : Va) : Prop := v.isZ = true → v.sg = 0
def Sp.gd (b : Nat) : Sp → Prop
  | .none => True
  | .span u v => plc u ∧ plc v ∧ u ≠ .inf 0 ∧ v ≠ .inf 1 ∧ ¬ lex3 (plT v) (plT u)
def Sp.ok2 (b p : Nat) (low high : Int) (s : Sp) : Prop := s.ok b p low high ∧ s.gd b
end Lw
namespace Lw
open PySem PySem.Spec PyProof.Rows L2 Gd Fr
open scoped Rat
def liesB : Sp → Sp → Bool
  | .none, _ => true
  | _, .none => false
  | .span a b, .span c d => !decide (lex3 (plT a) (plT c)) && !decide (lex3 (plT d) (plT b))
section
variable {b p : Nat} {low high : Int} (F : Fm b p low high)
theorem Sp.u2 {u v : Va} (h : (Sp.span u v).ok2 b p low high) : Vcan b p low high u ∧ u.isNan = false ∧ plc u := ⟨h.1.1.1, h.1.1.2, h.2.1⟩
theorem Sp.v2 {u v : Va} (h : (Sp.span u v).ok2 b p low high) : Vcan b p low high v ∧ v.isNan = false ∧ plc v := ⟨h.1.2.1, h.1.2.2, h.2.2.1⟩
include F
omit F in
theorem lex3_trans {x y z : Int × Int × Int} (h1 : ¬ lex3 y x) (h2 : ¬ lex3 z y) : ¬ lex3 z x := by unfold lex3 at *; omega
end
section
variable {b p : Nat} {low high : Int} (F : Fm b p low high)
include F
end
end Lw
set_option exponentiation.threshold 20000
namespace Lw
open PySem PySem.Spec PyProof.Rows L2 Gd Fr
open scoped Rat
section
variable {b p : Nat} {low high : Int} (F : Fm b p low high)
include F
end
end Lw
namespace Lw
open PySem PySem.Spec PyProof.Rows L2 Gd Fr
open scoped Rat
end Lw
set_option exponentiation.threshold 20000
namespace Lw
open PySem PySem.Spec PyProof.Rows L2 Gd Fr
open scoped Rat
theorem lex_irr (x : Int × Int × Int) : ¬ lex3 x x := fun h => lex3_asym h h
def Cm (N k : Nat) (x : Rat) : Prop := ∃ m : Int, x * ((N : Int) : Rat) = (m : Rat) ∧ Bd k m
theorem Cm.add {N k j : Nat} {x y : Rat} (h : Cm N k x) (h' : Cm N j y) : Cm N (k + j + 1) (x + y) := by
  obtain ⟨m, e, b⟩ := h
  obtain ⟨m', e', b'⟩ := h'
  exact ⟨m + m', by rw [Rat.intCast_add, ← e, ← e']; grind, b.add b'⟩
theorem Cm.neg {N k : Nat} {x : Rat} (h : Cm N k x) : Cm N k (-x) := by
  obtain ⟨m, e, b⟩ := h
  exact ⟨-m, by rw [Rat.intCast_neg, ← e]; grind, b.neg⟩
theorem Cm.le {N k j : Nat} {x : Rat} (h : Cm N k x) (e : k ≤ j) : Cm N j x := by
  obtain ⟨m, e1, b⟩ := h
  exact ⟨m, e1, b.le e⟩
theorem Cm.more {N k j : Nat} {x : Rat} (M : Nat) (hM : M < 2 ^ j) (h : Cm N k x) : Cm (M * N) (j + k) x := by
  obtain ⟨m, e1, b⟩ := h
  exact ⟨(M : Int) * m, by rw [Int.natCast_mul, Rat.intCast_mul, Rat.intCast_mul, ← e1]; grind, (Bd.nat hM).mul b⟩
end Lw
set_option exponentiation.threshold 20000
namespace Gd
open PySem PySem.Spec PyProof.Rows L2
section
variable {X : Cx} {Γ : List VD} {B B1 B2 B' : Bag} {e a b c : Expr} {pos p : Pos} {Φ : Post}
theorem ex_catL (ha : EX X Γ B a fun y B1 => EX X Γ B1 b fun z B2 => ∃ ds es, y = .list ds ∧ z = .list es ∧ ds.length + es.length ≤ 1000 ∧ Φ (.list (ds ++ es)) B2) : EX X Γ B (.BinOp a .Add b pos) Φ :=
  ex_bin (ex_mono ha fun y B1 hy => ex_mono hy fun z B2 hz => by
    obtain ⟨ds, es, rfl, rfl, hl, hΦ⟩ := hz
    refine ⟨.list (ds ++ es), hΦ, fun g v w H0 H O r1 r2 Q q => ?_⟩
    obtain ⟨pa, xs, rfl, hx, rs⟩ := rvL (g := g) r1
    obtain ⟨pb, ys, rfl, hy, rt⟩ := rvL (g := g) r2
    refine ⟨pa, pb, xs, ys, rfl, rfl, O.ex _ _ hx, O.ex _ _ hy, by rw [rs.length, rt.length]; exact Nat.le_of_lt (small1000 hl), fun n hn => ?_⟩
    obtain ⟨t3, o3⟩ := laid (o := .lst (xs ++ ys)) O hn
    exact q _ _ _ t3 o3 (Rp.lst upd_same ((rs.app rt).mono t3.ex))) (fun _ _ h1 h2 => pe_op op_cat h1 h2)
end
end Gd
set_option exponentiation.threshold 20000
namespace Lw
open PySem PySem.Spec PyProof.Rows L2 Gd Fr
open scoped Rat
section
variable {b p : Nat} {low high : Int} (F : Fm b p low high)
include F
end
end Lw
set_option exponentiation.threshold 20000
namespace Lw
open PySem PySem.Spec PyProof.Rows L2 Gd Fr
open scoped Rat
inductive Xe | lo | hi | q (r : Rat)
deriving DecidableEq
namespace Xe
def d : Xe → PyData
  | .lo => .tuple [.int (-1), .int 0]
  | .hi => .tuple [.int 1, .int 0]
  | .q r => fq r
def n : Xe → Int
  | .lo => -1
  | .hi => 1
  | .q r => r.num
def e : Xe → Int
  | .q r => (r.den : Int)
  | _ => 0
theorem pair (x : Xe) : x.d = .tuple [.int x.n, .int x.e] := by cases x <;> rfl
def bd (n d : Nat) : Xe → Prop
  | .q r => Qz n d r
  | _ => True
def lt : Xe → Xe → Bool
  | .q a, .q b => decide (a < b)
  | .lo, .lo => false
  | .lo, _ => true
  | .q _, .hi => true
  | _, _ => false
def add : Xe → Xe → Xe
  | .q a, .q b => .q (a + b)
  | .q _, y => y
  | x, _ => x
def neg : Xe → Xe
  | .lo => .hi
  | .hi => .lo
  | .q a => .q (-a)
def mul (x y : Xe) : Xe :=
  if x.n = 0 ∨ y.n = 0 then .q 0 else match x, y with
    | .q a, .q b => .q (a * b)
    | _, _ => if decide (0 < x.n) = decide (0 < y.n) then .hi else .lo
def min (x y : Xe) : Xe := if y.lt x = true then y else x
def max (x y : Xe) : Xe := if x.lt y = true then y else x
theorem eqs (x y : Xe) : (decide (x.n = y.n) && decide (x.e = y.e)) = true ↔ x = y := by
  rw [Bool.and_eq_true, decide_eq_true_eq, decide_eq_true_eq]
  refine ⟨fun ⟨h1, h2⟩ => ?_, fun h => by rw [h]; exact ⟨rfl, rfl⟩⟩
  cases x with
  | q a =>
    have da : ¬ (a.den : Int) = 0 := den_ne a
    cases y with
    | q b =>
      have h1 : a.num = b.num := h1
      have h2 : (a.den : Int) = (b.den : Int) := h2
      congr 1
      exact Rat.ext h1 (by omega)
    | lo => exact absurd h2 da
    | hi => exact absurd h2 da
  | lo =>
    cases y with
    | q b => exact absurd h2.symm (den_ne b)
    | lo => rfl
    | hi => exact absurd h1 (by decide)
  | hi =>
    cases y with
    | q b => exact absurd h2.symm (den_ne b)
    | hi => rfl
    | lo => exact absurd h1 (by decide)
theorem eqv (x y : Xe) : PyData.eqv x.d y.d = true ↔ x = y := by rw [pair x, pair y, eqv_ii]; exact eqs x y
theorem irr (x : Xe) : x.lt x = false := by
  cases x with
  | q a => exact decide_eq_false (by grind)
  | _ => rfl
theorem asym {x y : Xe} (h : x.lt y = true) : y.lt x = false := by
  cases x <;> cases y <;> simp_all [lt] <;> grind
theorem tot {x y : Xe} (h : x.lt y = false) (h2 : y.lt x = false) : x = y := by
  cases x <;> cases y <;> simp_all [lt] <;> grind
theorem trans {x y z : Xe} (h : x.lt y = true) (h2 : y.lt z = true) : x.lt z = true := by
  cases x <;> cases y <;> cases z <;> simp_all [lt] <;> grind
def of (b : Nat) : Va → Xe
  | .inf s => if s = 0 then .hi else .lo
  | v => .q (v.wQ b)
theorem sh (x : Xe) : SeqAt.shaped x.d = true := by rw [pair]; exact shaped_ii _ _
theorem mul_zero {x y : Xe} (h : (decide (x.n = 0) || decide (y.n = 0)) = true) : mul x y = .q 0 := by
  unfold mul
  rw [Bool.or_eq_true, decide_eq_true_eq, decide_eq_true_eq] at h
  rw [if_pos h]
end Xe
end Lw
namespace Gd
open PySem PySem.Spec PyProof.Rows L2
section
variable {X : Cx} {Γ : List VD} {B B1 : Bag} {e e1 elt : Expr} {scope : Scope} {pos pos' : Pos} {rest : List Stmt} {E : En} {d : VD}
end
end Gd
namespace Gd
open PySem PySem.Spec PyProof.Rows L2
section
variable {X : Cx} {Γ : List VD} {B B1 B2 : Bag} {e : Expr} {es : List Expr} {p pos : Pos}
end
end Gd
set_option exponentiation.threshold 20000
namespace Lw
open PySem PySem.Spec PyProof.Rows L2 Gd Fr
open scoped Rat
namespace Xe
theorem neg_lt (x y : Xe) : x.neg.lt y.neg = y.lt x := by
  cases x <;> cases y <;> simp [neg, lt] <;> grind
def cm (N k : Nat) : Xe → Prop
  | .q r => Cm N k r
  | _ => True
end Xe
structure Rok (N : Nat) (a : Xe × Xe) : Prop where
  b1 : a.1.bd 3040 2341
  b2 : a.2.bd 3040 2341
  c1 : a.1.cm N 5380
  c2 : a.2.cm N 5380
  l1 : a.1 ≠ .hi
  l2 : a.2 ≠ .lo
  le : a.2.lt a.1 = false
end Lw
namespace Gd
open PySem PySem.Spec PyProof.Rows L2
section
variable {X : Cx} {Γ : List VD} {B B1 B2 : Bag} {i f : Expr}
end
end Gd
set_option exponentiation.threshold 20000
namespace Lw
open PySem PySem.Spec PyProof.Rows L2 Gd Fr
open scoped Rat
def opMany (w : Str) : Nat := if ("fused" : Str) = w then 3 else if ("opposite" : Str) = w then 1 else if ("size" : Str) = w then 1 else 2
theorem op_le (w : Str) : 1 ≤ opMany w ∧ opMany w ≤ 3 := by
  unfold opMany
  split
  · exact ⟨by decide, by decide⟩
  · split
    · exact ⟨by decide, by decide⟩
    · split <;> exact ⟨by decide, by decide⟩
section
variable {b p : Nat} {low high : Int} (F : Fm b p low high)
include F
end
end Lw
set_option exponentiation.threshold 20000
namespace Lw
open PySem PySem.Spec PyProof.Rows L2 Gd Fr
open scoped Rat
namespace Xe
theorem le_cases {x y : Xe} (h : y.lt x = false) : x = y ∨ x.lt y = true := by
  cases c : x.lt y with
  | true => exact .inr rfl
  | false => exact .inl (tot c h)
theorem le_trans {x y z : Xe} (h : y.lt x = false) (h2 : z.lt y = false) : z.lt x = false := by
  rcases le_cases h with rfl | a
  · exact h2
  · rcases le_cases h2 with rfl | b
    · exact h
    · exact asym (trans a b)
end Xe
section
variable {b p : Nat} {low high : Int} (F : Fm b p low high)
include F
end
section
variable {b p : Nat} {low high : Int} (F : Fm b p low high)
include F
end
end Lw
namespace Gd
open PySem PySem.Spec PyProof.Rows L2
section
variable {X : Cx} {i : Nat} {Γ : List VD} {B B1 B2 B' : Bag} {acc ds ys : List PyData} {e a b c : Expr} {es : List Expr} {d da db : VD} {y : PyData} {pos p p1 p2 p3 pos' : Pos} {rest ss s1 s2 : List Stmt} {E : EnO} {Es : En}
end
end Gd
set_option exponentiation.threshold 20000
namespace Lw
open PySem PySem.Spec PyProof.Rows L2 Gd Fr
open scoped Rat
section
variable {b p : Nat} {low high : Int} (F : Fm b p low high)
include F
end
def Xe.rt (b : Nat) (low : Int) (x : Xe) : Prop := x.e = 0 ∨ x.n ≤ 0 ∨ ∃ r, x = .q r ∧ RtOk b low r 3040 2341
end Lw
set_option exponentiation.threshold 20000
namespace Lw
open PySem PySem.Spec PyProof.Rows L2 Gd Fr
open scoped Rat
section
variable {b p : Nat} {low high : Int} (F : Fm b p low high)
include F
end
end Lw
set_option exponentiation.threshold 20000
namespace Lw
open PySem PySem.Spec PyProof.Rows L2 Gd Fr
open scoped Rat
section
variable {b p : Nat} {low high : Int} (F : Fm b p low high)
include F
end
end Lw
namespace Gd
open PySem PySem.Spec PyProof.Rows L2
section
variable {X : Cx} {Γ : List VD} {B B0 B1 B2 : Bag} {e fe i : Expr} {es : List Expr} {p pos dpos : Pos}
end
end Gd
set_option exponentiation.threshold 20000
namespace Lw
open PySem PySem.Spec PyProof.Rows L2 Gd Fr
open scoped Rat
section
variable {b p : Nat} {low high : Int} (F : Fm b p low high)
include F
end
end Lw
set_option exponentiation.threshold 20000
namespace Lw
open PySem PySem.Spec PyProof.Rows L2 Gd Fr
open scoped Rat
section
variable {b p : Nat} {low high : Int} (F : Fm b p low high)
include F
end
end Lw
set_option exponentiation.threshold 20000
namespace Lw
open PySem PySem.Spec PyProof.Rows L2 Gd Fr
open scoped Rat
section
variable {b p : Nat} {low high : Int} (F : Fm b p low high)
include F
end
end Lw
set_option exponentiation.threshold 20000
namespace Lw
open PySem PySem.Spec PyProof.Rows L2 Gd Fr
open scoped Rat
section
variable {b p : Nat} {low high : Int}
end
end Lw
namespace Gd
open PySem PySem.Spec PyProof.Rows L2
theorem RpAll.put {K : PySem.W.Frag} {H : Hp} {v : V} {y : PyData} (r : Rp K H v y) : ∀ {zs : List V} {ds : List PyData} (k : Nat), RpAll K H zs ds → RpAll K H (zs.set k v) (ds.set k y)
  | _, _, _, .nil => .nil
  | _, _, 0, .cons _ t => .cons r t
  | _, _, k + 1, .cons h t => .cons h (RpAll.put r k t)
section
variable {X : Cx} {i : Nat} {Γ : List VD} {B B1 B2 B3 B' : Bag} {acc ds : List PyData} {e e2 a b c : Expr} {d da db : VD} {y y2 : PyData} {pos p p1 p2 p3 pos' px : Pos} {rest ss s1 s2 : List Stmt} {E : EnO}
end
end Gd
namespace Gd
open PySem PySem.Spec PyProof.Rows L2
section
variable {X : Cx} {Γ : List VD} {B B1 B2 : Bag} {i f : Expr}
end
end Gd
namespace Gd
open PySem PySem.Spec PyProof.Rows L2
section
variable {X : Cx} {Γ : List VD} {B B1 B2 : Bag} {a b : Expr} {pos : Pos}
end
end Gd
set_option exponentiation.threshold 20000
namespace Lw
open PySem PySem.Spec PyProof.Rows L2 Gd Fr
open scoped Rat
section
variable {b p : Nat} {low high : Int}
end
end Lw
set_option exponentiation.threshold 20000
namespace Lw
open PySem PySem.Spec PyProof.Rows L2 Gd Fr
open scoped Rat
end Lw
namespace Gd
open PySem PySem.Spec PyProof.Rows L2
section
variable {X : Cx} {Γ : List VD} {B B1 B2 : Bag} {e1 e2 e3 e4 i : Expr} {pos dpos : Pos}
end
section
variable {X : Cx} {Γ : List VD} {B B1 B2 B' : Bag} {e a b c elt : Expr} {scope : Scope} {j : Nat} {x : Str} {px : Pos} {ds ys acc : List PyData} {pos pos' p : Pos} {rest : List Stmt} {E : EnO} {d : VD} {y y1 : PyData}
variable {i : Nat}
theorem Own.put {K : PySem.W.Frag} {g : Gh} {A0 A1 : Hp} {a : Addr} {σ : L2.St} {H0 H : Hp} {v : V} (w : Own K i g A0 A1 a B Γ acc σ H0 H) (j : Nat) (hij : j ≠ i) (r : Rv K g H0 v d) : Own K i g A0 A1 a B (Γ.set j d) acc (σ.set j (some v)) H0 H :=
  ⟨w.to, w.fr, w.off, w.ev.set j r, by rw [List.getElem?_set_ne hij]; exact w.at', w.no, w.ls, w.on⟩
theorem ow_unpack (is : List Nat) {ts : List Expr} {k : Nat} {pt : Pos} {dd : List PyData} (hc : X.calm = true) (h : EJ X Γ B e (.da (.tuple dd)) B1) (hg : PGs X ts (gNames is)) (hl : is.length = dd.length) (hi : ∀ j ∈ is, j ≠ i)
    (q : OwJ X i (setAll Γ is dd) B1 acc rest E) (hn : (assignEach ts X.env).length = dd.length := by rfl) (hst : (assignEach ts X.env).findIdx? (·.1) = none := by rfl)
    (h1 : swapsWithSole [.Tuple ts k pt] e pos.line X.env = pure false := by rfl) (h2 : swappedStores [.Tuple ts k pt] e X.env = pure none := by rfl)
    (h3 : (assignEach [.Tuple ts k pt] X.env).map (·.2) = [assign (.Tuple ts k pt) X.env] := by rfl) : OwJ X i Γ B acc (.Assign [.Tuple ts k pt] e pos :: rest) E := fun g σ A0 A1 ad H0 H w D G =>
  ⟨_, pss_cons (ps_asg (we e) (pg_tup hc hg hn hst) h1 h2 h3) (ws rest), h g σ H0 H w.ev w.on _ fun v H1 H' t o r => by
    have w1 := w.step t o
    obtain ⟨p, xs, rfl, hxs, rs⟩ := rvT r
    refine ⟨p, xs, rfl, seqT o.ex hxs, rs.length, ?_⟩
    have go : ∀ (is : List Nat) (vs : List V) (ds : List PyData) (σ : L2.St) (Γ : List VD), RpAll X.K H1 vs ds → is.length = ds.length → (∀ j ∈ is, j ≠ i) → Own X.K i g A0 A1 ad B1 Γ acc σ H1 H' →
        (∀ σ', Own X.K i g A0 A1 ad B1 (setAll Γ is ds) acc σ' H1 H' → WS X rest D σ' H') → gNames is vs σ H' (WS X rest D) := by
      intro is
      induction is with
      | nil => intro vs ds σ Γ r hl _ w q; cases r with
        | nil => exact ⟨rfl, q σ w⟩
        | cons _ _ => cases hl
      | cons j is ih => intro vs ds σ Γ r hl hj w q; cases r with
        | nil => cases hl
        | cons h1 r => exact ⟨_, _, rfl, ih _ _ _ _ r (Nat.succ.inj hl) (fun j hj' => hj j (List.mem_cons_of_mem _ hj')) (w.put j (hj j (List.mem_cons_self ..)) (d := .da _) h1) q⟩
    exact go is xs dd σ Γ rs hl hi w1 fun σ' w' => q g σ' A0 A1 ad H1 H' w' D (G.on t.ex)⟩
end
end Gd
set_option exponentiation.threshold 20000
namespace Lw
open PySem PySem.Spec PyProof.Rows L2 Gd Fr
open scoped Rat
inductive Stp where
  | input (i : Nat)
  | told (q : Rat)
  | op (w : Str) (is : List Nat)
def Stp.d : Stp → PyData
  | .input i => .tuple [.str "input", .int (i : Nat)]
  | .told q => .tuple [.str "told", fq q]
  | .op w is => .tuple (.str w :: is.map fun i => PyData.int (i : Nat))
def pgWords : List Str := ["add", "take", "if", "least", "greatest", "opposite", "size", "times", "by", "fused", "root"]
def arity (w : Str) : Nat := if ("fused" : Str) = w then 3 else if ("if" : Str) = w then 4 else if ("opposite" : Str) = w then 1 else if ("size" : Str) = w then 1 else if ("root" : Str) = w then 1 else 2
def Stp.ok (many k : Nat) : Stp → Prop
  | .input i => i < many
  | .told q => Qz 11 5 q
  | .op w is => w ∈ pgWords ∧ is.length = arity w ∧ ∀ i ∈ is, i < k
abbrev SB := Sp × Bool
structure Xe2 (r : Xe × Xe) : Prop where
  l1 : r.1 ≠ .hi
  l2 : r.2 ≠ .lo
  le : r.2.lt r.1 = false
theorem Rok.two {N : Nat} {a : Xe × Xe} (h : Rok N a) : Xe2 a := ⟨h.l1, h.l2, h.le⟩
namespace Xe
end Xe
section
variable {b p : Nat} {low high : Int} (F : Fm b p low high)
include F
end
end Lw
namespace Gd
open PySem PySem.Spec PyProof.Rows L2
theorem off_none {K : PySem.W.Frag} {g : Gh} {B : Bag} {H0 H : Hp} {a : Addr} (o : On K g B H0 H) (h : H a = none) : Off g a := fun l e => by
  obtain ⟨_, q, _⟩ := o.bag a l e
  rw [h] at q; cases q
section
variable {X : Cx} {i : Nat} {Γ : List VD} {B B1 B2 B' : Bag} {acc ds dd : List PyData} {e c : Expr} {es : List Expr} {d : VD} {y : PyData} {pos p p1 p2 p3 pos' : Pos} {rest ss s1 s2 : List Stmt}
variable {E : EnO}
end
end Gd
namespace Gd
open PySem PySem.Spec PyProof.Rows L2
section
variable {X : Cx} {Γ : List VD} {B B1 B2 B' : Bag} {e a b c elt : Expr} {scope : Scope} {j : Nat} {x : Str} {px : Pos}
end
end Gd
namespace Gd
open PySem PySem.Spec PyProof.Rows L2
section
variable {X : Cx} {i : Nat} {Γ : List VD} {B B1 B2 B' : Bag} {acc ds : List PyData} {e a b c : Expr} {es : List Expr} {d : VD} {y : PyData} {pos p p1 p2 p3 pos' : Pos} {rest ss s1 s2 : List Stmt} {E : EnO} {Φ : List PyData → Bag → Prop}
theorem ow_par (j k : Nat) {x y : Str} {px py pt : Pos} {kt k2 pt2} {d1 d2 : VD} (nd : X.N.Nodup) (hc : X.calm = true) (h : AJ X Γ B [a, b] [d1, d2] B1) (q : OwJ X i ((Γ.set j d1).set k d2) B1 acc rest E)
    (hij : j ≠ k) (hji : j ≠ i) (hki : k ≠ i) (hw : swappedStores [.Tuple [.Name x px, .Name y py] kt pt] (.Tuple [a, b] k2 pt2) X.env = pure (some [x, y]) := by rfl) (hi : X.N[j]? = some x := by rfl) (hj : X.N[k]? = some y := by rfl)
    (hx : X.env.scope.names.lookup x = some .local := by rfl) (hy : X.env.scope.names.lookup y = some .local := by rfl)
    (hsw : swapsWithSole [.Tuple [.Name x px, .Name y py] kt pt] (.Tuple [a, b] k2 pt2) pos.line X.env = pure false := by rfl) :
    OwJ X i Γ B acc (.Assign [.Tuple [.Name x px, .Name y py] kt pt] (.Tuple [a, b] k2 pt2) pos :: rest) E := fun g σ A0 A1 ad H0 H w D G =>
  ⟨_, pss_cons (ps_par hc nd hi hj hij hx hy (wa [a, b]) hw hsw) (ws rest), h g σ H0 H w.ev w.on _ fun vs H1 H' t o r => by
    obtain ⟨v, w', rfl, r1, r2⟩ := rv2 r
    exact ⟨v, w', rfl, q g _ A0 A1 ad H1 H' (((w.step t o).put j hji r1).put k hki r2) D (G.on t.ex)⟩⟩
theorem ow_augI (j : Nat) {x : Str} {m n : Int} (nd : X.N.Nodup) (hij : j ≠ i) (h0 : Γ[j]? = some (.da (.int m))) (h : EJ X Γ B e (.da (.int n)) B1) (k : OwJ X i (Γ.set j (.da (.int (m + n)))) B1 acc rest E) (hi : X.N[j]? = some x := by rfl)
    (hx : Loc X.env.scope x := by first | exact Or.inl rfl | exact Or.inr rfl) (hf : X.fn x = true ∨ X.env.scope.names.lookup x = some .local := by first | exact Or.inl rfl | exact Or.inr rfl) :
    OwJ X i Γ B acc (.AugAssign (.Name x pos') .Add e pos :: rest) E := fun g σ A0 A1 a H0 H w D G =>
  ⟨_, pss_cons (ps_aug nd hi hx (we e) ip_add hf) (ws rest), by
    obtain ⟨v, hv, r⟩ := w.ev.at' j _ h0 (fun z => nomatch z)
    refine ⟨v, hv, h g σ H0 H w.ev w.on _ fun w' H1 H' t o r2 => ⟨m, n, rvI r, rvI r2, ?_⟩⟩
    exact k g _ A0 A1 a H1 H' ((w.step t o).put j hij (d := .da _) (Rp.int _)) D (G.on t.ex)⟩
end
end Gd
set_option exponentiation.threshold 20000
namespace Lw
open PySem PySem.Spec PyProof.Rows L2 Gd Fr
open scoped Rat
section
variable {b p : Nat} {low high : Int} (F : Fm b p low high)
include F
end
end Lw
set_option exponentiation.threshold 20000
namespace Lw
open PySem PySem.Spec PyProof.Rows L2 Gd Fr
open scoped Rat
def xle (x y : Xe) : Prop := y.lt x = false
def xin (a' a : Xe × Xe) : Prop := xle a.1 a'.1 ∧ xle a'.2 a.2
theorem xle.refl (x : Xe) : xle x x := Xe.irr x
theorem xle.trans {x y z : Xe} (h : xle x y) (h2 : xle y z) : xle x z := Xe.le_trans h h2
theorem xle.tot (x y : Xe) : xle x y ∨ xle y x := by
  unfold xle
  cases c : y.lt x with
  | false => exact .inl rfl
  | true => exact .inr (Xe.asym c)
theorem xle.neg {x y : Xe} (h : xle x y) : xle y.neg x.neg := by unfold xle; rw [Xe.neg_lt]; exact h
end Lw
set_option exponentiation.threshold 20000
namespace Lw
open PySem PySem.Spec PyProof.Rows L2 Gd Fr
open scoped Rat
section
variable {b p : Nat} {low high : Int} (F : Fm b p low high)
include F
end
def spin (s t : Sp) : Prop := liesB s t = true
theorem spin_span {u v x y : Va} : spin (.span u v) (.span x y) ↔ ¬ lex3 (plT u) (plT x) ∧ ¬ lex3 (plT y) (plT v) := by
  show ((!decide (lex3 (plT u) (plT x))) && !decide (lex3 (plT y) (plT v))) = true ↔ _
  rw [Bool.and_eq_true, Bool.not_eq_true', Bool.not_eq_true', decide_eq_false_iff_not, decide_eq_false_iff_not]
theorem spin.refl (s : Sp) : spin s s := by
  cases s with
  | none => rfl
  | span u v => exact spin_span.mpr ⟨lex_irr _, lex_irr _⟩
theorem spin.trans {s t u : Sp} (h : spin s t) (h2 : spin t u) : spin s u := by
  cases s with
  | none => rfl
  | span a b => cases t with
    | none => cases h
    | span c d => cases u with
      | none => cases h2
      | span e f =>
        have h := spin_span.mp h; have h2 := spin_span.mp h2
        exact spin_span.mpr ⟨lex3_trans h2.1 h.1, lex3_trans h.2 h2.2⟩
section
variable {b p : Nat} {low high : Int} (F : Fm b p low high)
include F
end
end Lw
set_option exponentiation.threshold 20000
namespace Lw
open PySem PySem.Spec PyProof.Rows L2 Gd Fr
open scoped Rat
section
variable {b p : Nat} {low high : Int} (F : Fm b p low high)
include F
omit F in
def sbin (x' x : SB) : Prop := spin x'.1 x.1 ∧ (x.2 = true → x'.2 = true)
omit F in
theorem sbin.refl (x : SB) : sbin x x := ⟨spin.refl _, fun h => h⟩
omit F in
def bxin (box' box : List Sp) : Prop := box'.length = box.length ∧ ∀ (i : Nat) s s', box[i]? = some s → box'[i]? = some s' → spin s' s
end
end Lw
namespace Gd
open PySem PySem.Spec PyProof.Rows L2
section
variable {X : Cx} {Γ : List VD} {B B1 B2 B' : Bag} {e a b c elt : Expr} {scope : Scope} {j : Nat} {x : Str} {px pos : Pos} {Φ : Post}
end
end Gd
set_option exponentiation.threshold 20000
namespace Lw
open PySem PySem.Spec PyProof.Rows L2 Gd Fr
open scoped Rat
section
variable {b p : Nat} {low high : Int} (F : Fm b p low high)
include F
end
theorem bxin.refl (L : List Sp) : bxin L L := ⟨rfl, fun i s s' h h' => by rw [h] at h'; obtain rfl := Option.some.inj h'; exact spin.refl _⟩
theorem bxin.trans {L L' L'' : List Sp} (h : bxin L L') (h' : bxin L' L'') : bxin L L'' := ⟨by rw [h.1, h'.1], fun i s s' e e' => by
  have hl : i < L'.length := by rw [h'.1]; exact (List.getElem?_eq_some_iff.mp e).1
  have e2 : L'[i]? = some L'[i] := List.getElem?_eq_getElem hl
  exact (h.2 i _ _ e2 e').trans (h'.2 i _ _ e e2)⟩
end Lw
namespace Lw
open PySem PySem.Spec PyProof.Rows L2 Gd Fr
end Lw
set_option exponentiation.threshold 20000
namespace Lw
open PySem PySem.Spec PyProof.Rows L2 Gd Fr
open scoped Rat
structure Sml (b p : Nat) (low high : Int) : Prop where
  bp : b ^ p < 2 ^ 8
  bh : b ^ high.toNat < 2 ^ 11
  bl : b ^ (-low).toNat < 2 ^ 20
  nn : 0 ≤ (p : Int) + high + (-low).toNat
  bt : b ^ ((p : Int) + high + (-low).toNat).toNat < 2 ^ 17
section
variable {b p : Nat} {low high : Int} (F : Fm b p low high) (S : Sml b p low high)
include F S
end
def pt2 (x : Rat) : Xe × Xe := (.q x, .q x)
section
variable {b p : Nat} {low high : Int} (F : Fm b p low high)
include F
end
section
variable {b p : Nat} {low high : Int} (F : Fm b p low high)
include F
end
end Lw
set_option exponentiation.threshold 20000
namespace Lw
open PySem PySem.Spec PyProof.Rows L2 Gd Fr
open scoped Rat
end Lw
namespace Lw
end Lw
set_option exponentiation.threshold 20000
namespace Lw
open PySem PySem.Spec PyProof.Rows L2 Gd Fr
open scoped Rat
end Lw
set_option exponentiation.threshold 20000
namespace Lw
open PySem PySem.Spec PyProof.Rows L2 Gd Fr
open scoped Rat
section
variable {b p : Nat} {low high : Int} (F : Fm b p low high)
include F
end
end Lw
namespace Gd
open PySem PySem.Spec PyProof.Rows L2
section
variable {X : Cx} {Γ : List VD} {B B1 : Bag} {a : Expr} {p p2 p3 pos : Pos}
variable {elt e : Expr} {scope : Scope} {j : Nat} {ds : List PyData} {Φ : Post}
end
end Gd
set_option exponentiation.threshold 20000
namespace Lw
open PySem PySem.Spec PyProof.Rows L2 Gd Fr
open scoped Rat
section
variable {t : F4} (F : Fm t.1 t.2.1 t.2.2.1 t.2.2.2)
include F
end
end Lw
set_option exponentiation.threshold 20000
namespace Lw
open PySem PySem.Spec PyProof.Rows L2 Gd Fr
open scoped Rat
end Lw
namespace Lw
open PySem PySem.Spec PyProof.Rows L2 Gd Fr
open scoped Rat
end Lw
set_option exponentiation.threshold 20000
namespace Lw
open PySem PySem.Spec PyProof.Rows L2 Gd Fr
open scoped Rat
end Lw
namespace Gd
open PySem PySem.Spec PyProof.Rows L2
section
variable {X : Cx} {i : Nat} {Γ : List VD} {B : Bag} {acc : List PyData} {e : Expr} {pos : Pos} {s1 rest : List Stmt} {E : EnO}
end
end Gd
set_option exponentiation.threshold 20000
namespace Lw
open PySem PySem.Spec PyProof.Rows L2 Gd Fr
open scoped Rat
end Lw
namespace Gd
open PySem PySem.Spec PyProof.Rows L2
section
variable {X : Cx} {Γ : List VD} {B B1 B2 : Bag} {a b c e elt : Expr} {scope : Scope} {pos p pos' : Pos} {rest s1 : List Stmt} {E : En} {d : VD}
end
section
variable {X : Cx} {Γ : List VD} {B : Bag} {a b : Expr} {pos : Pos} {Φ : Post}
end
end Gd
set_option exponentiation.threshold 20000
namespace Lw
open PySem PySem.Spec PyProof.Rows L2 Gd Fr
open scoped Rat
section
variable {b p : Nat} {low high : Int} (F : Fm b p low high)
include F
end
def bnd : Nat → Nat × Nat
  | 0 => (38, 35)
  | k + 1 => (2 * (bnd k).1 + (bnd k).2 + 1, 3 * (bnd k).2)
end Lw
namespace Gd
open PySem PySem.Spec PyProof.Rows L2 RZ
section
variable {X : Cx} {Γ : List VD} {B B1 B2 B' : Bag} {a b c e e1 elt : Expr} {es : List Expr} {scope : Scope} {pos pos' p p2 p3 : Pos} {rest s1 : List Stmt} {E : En} {d : VD} {ds : List PyData} {y : PyData}
end
end Gd
set_option exponentiation.threshold 20000
namespace Lw
open PySem PySem.Spec PyProof.Rows L2 Gd Fr
open scoped Rat
section
variable {b p : Nat} {low high : Int} (F : Fm b p low high)
include F
end
section
variable {b p : Nat} {low high : Int} {L : List Stp} {s : Sp}
variable (F : Fm b p low high)
include F
end
end Lw
namespace Gd
open PySem PySem.Spec PyProof.Rows L2
def dict1 : List (PyData × PyData) → Bool
  | [(.tuple [.int i, .int j], .int n)] => decide (i.natAbs.log2 < 1920) && (decide (j.natAbs.log2 < 1920) && decide (n.natAbs.log2 < 1920))
  | _ => false
theorem dict1_inv {kvs : List (PyData × PyData)} (h : dict1 kvs = true) : ∃ i j n, kvs = [(.tuple [.int i, .int j], .int n)] ∧ i.natAbs.log2 < 1920 ∧ j.natAbs.log2 < 1920 ∧ n.natAbs.log2 < 1920 := by
  unfold dict1 at h
  split at h
  · rename_i i j n
    simp only [Bool.and_eq_true, decide_eq_true_eq] at h
    exact ⟨i, j, n, rfl, h.1, h.2.1, h.2.2⟩
  · cases h
mutual
def datB : PyData → Bool
  | .none => true
  | .bool _ => true
  | .int i => decide (i.natAbs.log2 < 1920)
  | .str x => PyData.strOk x
  | .list xs => datA xs
  | .tuple xs => datA xs
  | .dict kvs => kvs.isEmpty || dict1 kvs
def datA : List PyData → Bool
  | [] => true
  | x :: xs => datB x && datA xs
end
structure OkA (d : PyData) : Prop where
  any : datB d = true
  dp : d.depth ≤ 60
  bulk : d.bulk ≤ 5000
mutual
theorem any_show : ∀ d : PyData, datB d = true → d.showable = true ∧ d.leavesShort 1921 = true
  | .none, _ => by simp only [PyData.showable, PyData.leavesShort, and_self]
  | .bool _, _ => by simp only [PyData.showable, PyData.leavesShort, and_self]
  | .int i, h => by
    simp only [datB] at h
    exact ⟨by simp only [PyData.showable]; exact h, nice_short (.int i) (by simp only [nice]; exact h)⟩
  | .str x, h => by
    simp only [datB] at h
    exact ⟨by simp only [PyData.showable], nice_short (.str x) (by simp only [nice]; exact h)⟩
  | .list xs, h => by simp only [datB] at h; simp only [PyData.showable, PyData.leavesShort]; exact any_showA xs h
  | .tuple xs, h => by simp only [datB] at h; simp only [PyData.showable, PyData.leavesShort]; exact any_showA xs h
  | .dict kvs, h => by
    simp only [datB, Bool.or_eq_true, List.isEmpty_iff] at h
    rcases h with h | h
    · subst h
      simp only [PyData.showable, PyData.showableKv, PyData.leavesShort, PyData.leavesShortKv, and_self]
    · obtain ⟨i, j, n, rfl, h1, h2, h3⟩ := dict1_inv h
      have k : ∀ i : Int, i.natAbs.log2 < 1920 → PyData.showable (.int i) = true ∧ PyData.leavesShort 1921 (.int i) = true := fun i h =>
        ⟨by simp only [PyData.showable]; exact decide_eq_true h, nice_short (.int i) (by simp only [nice]; exact decide_eq_true h)⟩
      simp only [PyData.showable, PyData.showableAll, PyData.showableKv, PyData.leavesShort, PyData.leavesShortAll, PyData.leavesShortKv, Bool.and_eq_true, Bool.and_true]
      have k1 := k i h1
      have k2 := k j h2
      have k3 := k n h3
      simp only [PyData.showable, PyData.leavesShort] at k1 k2 k3
      simp only [k1, k2, k3, and_self]
theorem any_showA : ∀ ds : List PyData, datA ds = true → PyData.showableAll ds = true ∧ PyData.leavesShortAll 1921 ds = true
  | [], _ => by simp only [PyData.showableAll, PyData.leavesShortAll, and_self]
  | x :: xs, h => by
    simp only [datA, Bool.and_eq_true] at h
    simp only [PyData.showableAll, PyData.leavesShortAll, Bool.and_eq_true]
    exact ⟨⟨(any_show x h.1).1, (any_showA xs h.2).1⟩, (any_show x h.1).2, (any_showA xs h.2).2⟩
end
theorem OkA.len {d : PyData} (h : OkA d) : d.shown.length ≤ sizeLine := by
  have h1 := PyData.shown_le_bulk 1921 (by decide) d (any_show d h.any).2
  have h2 := h.bulk
  rw [show sizeLine = 16777216 from by decide]
  omega
theorem Rp.dict1 {K : PySem.W.Frag} {H : Hp} {v : V} {i j n : Int} (h : Rp K H v (.dict [(.tuple [.int i, .int j], .int n)])) : ∃ a, v = .ref a ∧ H a = some (.dT [([.inl i, .inl j], V.int n)]) := by
  generalize hd : PyData.dict [(.tuple [.int i, .int j], .int n)] = d at h
  cases h with
  | non => cases hd
  | bl b => cases hd
  | int i => cases hd
  | str x => cases hd
  | lst _ _ => cases hd
  | tup _ _ => cases hd
  | dct h => cases hd
  | dctT kvs h =>
    injection hd with hd
    cases kvs with
    | nil => cases hd
    | cons p r =>
      obtain ⟨k, m⟩ := p
      cases r with
      | cons q r => simp only [List.map_cons, List.cons.injEq] at hd; obtain ⟨_, hd⟩ := hd; cases hd
      | nil =>
        simp only [List.map_cons, List.map_nil, List.cons.injEq, Prod.mk.injEq, PyData.tuple.injEq, PyData.int.injEq, and_true] at hd
        obtain ⟨hk, rfl⟩ := hd
        cases k with
        | nil => cases hk
        | cons x k =>
          cases k with
          | nil => simp only [List.map_cons, List.map_nil, List.cons.injEq] at hk; obtain ⟨_, hk⟩ := hk; cases hk
          | cons y k =>
            cases k with
            | cons z k => simp only [List.map_cons, List.cons.injEq] at hk; obtain ⟨_, _, hk⟩ := hk; cases hk
            | nil =>
              simp only [List.map_cons, List.map_nil, List.cons.injEq, PyData.int.injEq, and_true] at hk
              obtain ⟨rfl, rfl⟩ := hk
              exact ⟨_, rfl, h⟩
section
variable {X : Cx} {pins : List (Addr × Obj)} {σ : L2.St} {H : Hp} {s : Shared}
end
section
variable {X : Cx} {Γ : List VD} {B B1 B2 B' : Bag} {a b e : Expr} {es : List Expr} {d : VD} {y : PyData} {pos p pos' : Pos}
end
end Gd
set_option exponentiation.threshold 20000
namespace Lw
open PySem PySem.Spec PyProof.Rows L2 Gd Fr
open scoped Rat
def intB : PyData → Bool
  | .int _ => true
  | _ => false
inductive R_anyint : Rel
  | mk (d : PyData) (B : Bag) : R_anyint [.da d] B (.bool (intB d)) B
inductive Pap where
  | in_
  | part (i : Nat) (x y : Pap)
def Pap.d : Pap → PyData
  | .in_ => .tuple [.str "in"]
  | .part i x y => .tuple [.str "part", .int (i : Nat), x.d, y.d]
section
variable {b p : Nat} {low high : Int} {L : List Stp} {s : Sp}
end
structure An (D W : Nat) (d : PyData) : Prop where
  any : datB d = true
  dp : d.depth ≤ D
  bk : d.bulk ≤ W
structure AnA (D W : Nat) (ds : List PyData) : Prop where
  any : datA ds = true
  dp : PyData.depthAll ds ≤ D
  bk : PyData.bulkAll ds ≤ W
theorem An.le {D W D' W' : Nat} {d : PyData} (h : An D W d) (e : D ≤ D') (f : W ≤ W') : An D' W' d := ⟨h.any, Nat.le_trans h.dp e, Nat.le_trans h.bk f⟩
theorem AnA.le {D W D' W' : Nat} {d : List PyData} (h : AnA D W d) (e : D ≤ D') (f : W ≤ W') : AnA D' W' d := ⟨h.any, Nat.le_trans h.dp e, Nat.le_trans h.bk f⟩
theorem An.ok {D W : Nat} {d : PyData} (h : An D W d) (e : D ≤ 60 := by decide) (f : W ≤ 5000 := by decide) : OkA d := ⟨h.any, Nat.le_trans h.dp e, Nat.le_trans h.bk f⟩
theorem AnA.nil {D W : Nat} : AnA D W [] := ⟨by simp only [datA], by simp only [PyData.depthAll]; omega, by simp only [PyData.bulkAll]; omega⟩
theorem AnA.cons {D W W' : Nat} {d : PyData} {ds : List PyData} (h : An D W d) (r : AnA D W' ds) : AnA D (W + 1 + W') (d :: ds) :=
  ⟨by simp only [datA, Bool.and_eq_true]; exact ⟨h.any, r.any⟩, by have := h.dp; have := r.dp; simp only [PyData.depthAll]; omega, by have := h.bk; have := r.bk; simp only [PyData.bulkAll]; omega⟩
theorem An.tup {D W : Nat} {ds : List PyData} (h : AnA D W ds) : An (D + 1) W (.tuple ds) := ⟨by simp only [datB]; exact h.any, by have := h.dp; simp only [PyData.depth]; omega, by have := h.bk; simp only [PyData.bulk]; omega⟩
theorem An.lst {D W : Nat} {ds : List PyData} (h : AnA D W ds) : An (D + 1) W (.list ds) := ⟨by simp only [datB]; exact h.any, by have := h.dp; simp only [PyData.depth]; omega, by have := h.bk; simp only [PyData.bulk]; omega⟩
theorem An.tup_inv {D W : Nat} {ds : List PyData} (h : An (D + 1) W (.tuple ds)) : AnA D W ds := ⟨by have := h.any; simp only [datB] at this; exact this, by have := h.dp; simp only [PyData.depth] at this; omega, by have := h.bk; simp only [PyData.bulk] at this; omega⟩
theorem AnA.mem {D W : Nat} : ∀ {ds : List PyData}, AnA D W ds → ∀ d ∈ ds, An D W d
  | [], _, _, h => by cases h
  | x :: xs, h, d, hd => by
    have a := h.any
    have b := h.dp
    have c := h.bk
    simp only [datA, Bool.and_eq_true] at a
    simp only [PyData.depthAll] at b
    simp only [PyData.bulkAll] at c
    rcases List.mem_cons.mp hd with rfl | hd
    · exact ⟨a.1, by omega, by omega⟩
    · exact AnA.mem (ds := xs) ⟨a.2, by omega, by omega⟩ d hd
theorem AnA.app {D W W' : Nat} : ∀ {ds es : List PyData}, AnA D W ds → AnA D W' es → AnA D (W + W') (ds ++ es)
  | [], es, _, h => h.le (Nat.le_refl _) (by omega)
  | x :: xs, es, h, h' => by
    have a := h.any
    have b := h.dp
    have c := h.bk
    simp only [datA, Bool.and_eq_true] at a
    simp only [PyData.depthAll] at b
    simp only [PyData.bulkAll] at c
    have r := AnA.app (D := D) (W := W - (x.bulk + 1)) (ds := xs) ⟨a.2, by omega, by omega⟩ h'
    rw [List.cons_append]
    exact (AnA.cons (D := D) (W := x.bulk) ⟨a.1, by omega, Nat.le_refl _⟩ r).le (Nat.le_refl _) (by omega)
theorem AnA.sub {D W : Nat} : ∀ {ds es : List PyData}, es.Sublist ds → AnA D W ds → AnA D W es := by
  intro ds es h
  induction h generalizing W with
  | slnil => exact fun h => h
  | @cons l1 l2 a h ih =>
    intro k
    have a1 := k.any
    have b1 := k.dp
    have c1 := k.bk
    simp only [datA, Bool.and_eq_true] at a1
    simp only [PyData.depthAll] at b1
    simp only [PyData.bulkAll] at c1
    exact ih ⟨a1.2, by omega, by omega⟩
  | @cons_cons l1 l2 a h ih =>
    intro k
    have a1 := k.any
    have b1 := k.dp
    have c1 := k.bk
    simp only [datA, Bool.and_eq_true] at a1
    simp only [PyData.depthAll] at b1
    simp only [PyData.bulkAll] at c1
    have r := ih (W := W - (a.bulk + 1)) ⟨a1.2, by omega, by omega⟩
    exact (AnA.cons (D := D) (W := a.bulk) ⟨a1.1, by omega, Nat.le_refl _⟩ r).le (Nat.le_refl _) (by omega)
theorem An.int {D W n : Nat} {i : Int} (h : Bd n i) (e : n ≤ 1920 := by decide) : An D W (.int i) := ⟨by
  have := nice_int h e
  simp only [nice] at this
  simp only [datB]; exact this, by simp only [PyData.depth]; omega, by simp only [PyData.bulk]; omega⟩
theorem An.bool {D W : Nat} {i : Bool} : An D W (.bool i) := ⟨by simp only [datB], by simp only [PyData.depth]; omega, by simp only [PyData.bulk]; omega⟩
theorem An.none {D W : Nat} : An D W .none := ⟨by simp only [datB], by simp only [PyData.depth]; omega, by simp only [PyData.bulk]; omega⟩
theorem An.dict {D W : Nat} (h : 1 ≤ D) : An D W (.dict []) := ⟨by simp only [datB, List.isEmpty_nil, Bool.true_or], by simp only [PyData.depth, PyData.depthKv]; omega, by simp only [PyData.bulk, PyData.bulkKv]; omega⟩
theorem An.str {D W : Nat} {x : Str} (h : PyData.strOk x = true) (h2 : x.cps.size ≤ W) : An D W (.str x) := ⟨by simp only [datB]; exact h, by simp only [PyData.depth]; omega, by simp only [PyData.bulk]; exact h2⟩
end Lw
namespace Lw
open PySem PySem.Spec PyProof.Rows L2 Gd Fr
def Pap.dep : Pap → Nat
  | .in_ => 1
  | .part _ x y => max x.dep y.dep + 1
theorem Pap.sh : ∀ (x : Pap) {n : Nat}, x.dep ≤ n → Sh n x.d
  | .in_, n + 1, _ => Sh.tup fun e he => by rw [List.mem_singleton.mp he]; exact (Sh.str (x := "in") (by decide +kernel)).mono (Nat.zero_le _)
  | .in_, 0, h => by simp only [Pap.dep] at h; omega
  | .part i x y, 0, h => by simp only [Pap.dep] at h; omega
  | .part i x y, n + 1, h => by
    simp only [Pap.dep] at h
    refine Sh.tup fun e he => ?_
    simp only [List.mem_cons, List.not_mem_nil, or_false] at he
    rcases he with rfl | rfl | rfl | rfl
    · exact (Sh.str (x := "part") (by decide +kernel)).mono (Nat.zero_le _)
    · exact (Sh.int _).mono (Nat.zero_le _)
    · exact Pap.sh x (by omega)
    · exact Pap.sh y (by omega)
end Lw
namespace Lw
open PySem PySem.Spec PyProof.Rows L2 Gd Fr
section
variable {b p : Nat} {low high : Int} {L : List Stp} {s : Sp}
end
end Lw
namespace HT
open PySem PySem.Spec PyProof.Rows L2
section
variable {prog : Program} {w : World} {A : Around} {E : Value → Shared → Prop} {s : Shared}
end
end HT
namespace Gd
open PySem PySem.Spec PyProof.Rows L2
section
variable {X : Cx} {Γ : List VD} {B B1 : Bag} {a b e : Expr} {k : Nat} {p p1 p2 p3 pos : Pos} {ds : List PyData} {Φ : Post}
end
end Gd
set_option exponentiation.threshold 20000
namespace Lw
open PySem PySem.Spec PyProof.Rows L2 Gd Fr
open scoped Rat
def Pap.ok : Pap → Prop
  | .in_ => True
  | .part i x y => i ≤ 8 ∧ x.ok ∧ y.ok
theorem an_str {D W : Nat} {x : Str} (h : PyData.strOk x = true := by decide +kernel) (h2 : x.cps.size ≤ W := by decide) : An D W (.str x) := An.str h h2
theorem small_int {D W : Nat} {i : Int} (h0 : -100 ≤ i) (h1 : i ≤ 100) : An D W (.int i) := An.int (n := 8) (by unfold Bd; omega)
theorem an_part {n W : Nat} {i x y : PyData} (hi : An n 0 i) (hx : An n W x) (hy : An n W y) : An (n + 1) (8 + 2 * W) (.tuple [.str "part", i, x, y]) :=
  (An.tup (AnA.cons (an_str (D := n) (W := 4)) (AnA.cons hi (AnA.cons hx (AnA.cons hy (AnA.nil (W := 0))))))).le (Nat.le_refl _) (by omega)
def wp : Nat → Nat
  | 0 => 0
  | n + 1 => 8 + 2 * wp n
theorem Pap.an : ∀ (x : Pap) {n : Nat}, x.dep ≤ n → x.ok → An n (wp n) x.d
  | .in_, 0, h, _ => by simp only [Pap.dep] at h; omega
  | .in_, n + 1, _, _ => (An.tup (AnA.cons (an_str (D := n) (W := 2)) (AnA.nil (W := 0)))).le (Nat.le_refl _) (by simp only [wp]; omega)
  | .part i x y, 0, h, _ => by simp only [Pap.dep] at h; omega
  | .part i x y, n + 1, h, ok => by
    simp only [Pap.dep] at h
    obtain ⟨h1, h2, h3⟩ := ok
    exact an_part (small_int (by omega) (by omega)) (x.an (by omega) h2) (y.an (by omega) h3)
inductive PB : Nat → PyData → Prop
  | none (n : Nat) : PB n .none
  | inw (n : Nat) : PB n (.str "in")
  | partw (n : Nat) : PB n (.str "part")
  | int (n i : Nat) (h : i ≤ 8) : PB n (.int (i : Nat))
  | pap (n : Nat) (x : Pap) (h : x.dep ≤ n) (ok : x.ok) : PB n x.d
theorem Pap.items (x : Pap) {n : Nat} (h : x.dep ≤ n + 1) (ok : x.ok) : ∃ ds : List PyData, x.d = .tuple ds ∧ ds ≠ [] ∧ ds.length ≤ 4 ∧ AnA n (wp (n + 1)) ds ∧ ∀ d ∈ ds, PB n d := by
  have a := x.an h ok
  cases x with
  | in_ => exact ⟨_, rfl, by simp, by simp, a.tup_inv, fun d hd => by rw [List.mem_singleton.mp hd]; exact .inw n⟩
  | part i x y =>
    obtain ⟨h1, h2, h3⟩ := ok
    simp only [Pap.dep] at h
    refine ⟨_, rfl, by simp, by simp, a.tup_inv, fun d hd => ?_⟩
    simp only [List.mem_cons, List.not_mem_nil, or_false] at hd
    rcases hd with rfl | rfl | rfl | rfl
    · exact .partw n
    · exact .int n i h1
    · exact .pap n x (by omega) h2
    · exact .pap n y (by omega) h3
theorem len_bulk : ∀ ds : List PyData, ds.length ≤ PyData.bulkAll ds
  | [] => Nat.zero_le _
  | x :: xs => by
    have := len_bulk xs
    simp only [PyData.bulkAll, List.length_cons]; omega
end Lw
namespace Lw
open PySem PySem.Spec PyProof.Rows L2 Gd Fr
def wq : Nat → Nat
  | 0 => 0
  | n + 1 => 24 + 2 * wq n
theorem Pap.nd : ∀ (x : Pap) {n : Nat}, x.dep ≤ n → x.ok → Nd (n + 1) (wq n) x.d
  | .in_, 0, h, _ => by simp only [Pap.dep] at h; omega
  | .in_, n + 1, _, _ => (Nd.tuple (NdA.cons ((Nd.str (x := "in") (by decide +kernel) (by decide)).le (D' := n + 1) (W' := 20) (by omega) (Nat.le_refl _)) (NdA.nil (W := 0)))).le (Nat.le_refl _) (by simp only [wq]; omega)
  | .part i x y, 0, h, _ => by simp only [Pap.dep] at h; omega
  | .part i x y, n + 1, h, ok => by
    simp only [Pap.dep] at h
    obtain ⟨h1, h2, h3⟩ := ok
    have a := x.nd (n := n) (by omega) h2
    have b := y.nd (n := n) (by omega) h3
    exact (Nd.tuple (NdA.cons ((Nd.str (x := "part") (by decide +kernel) (by decide)).le (D' := n + 1) (W' := 20) (by omega) (Nat.le_refl _)) (NdA.cons ((Nd.int (n := 8) (i := (i : Nat)) (by unfold Bd; omega)).le (D' := n + 1) (W' := 0) (by omega) (Nat.le_refl _)) (NdA.cons a (NdA.cons b (NdA.nil (W := 0))))))).le (Nat.le_refl _) (by simp only [wq]; omega)
end Lw
namespace Gd
open PySem PySem.Spec PyProof.Rows L2
section
variable {X : Cx} {Γ : List VD} {B B1 B2 B3 B' : Bag} {a b e : Expr} {es : List Expr} {d : VD} {y : PyData} {pos p pos' p1 p2 p3 p4 : Pos}
theorem ej_inD {d : PyData} {ds : List PyData} (hu : X.A.units + 64 < cLine) (ha : EJ X Γ B a (.da d) B1) (hb : EJ X Γ B1 b (.da (.tuple ds)) B2) (hd : SeqAt.shaped d = true) (hds : SeqAt.shaped (.tuple ds) = true) (hp : d.depth ≤ 60) (hm : behindInMarks .In b = false := by rfl) :
    EJ X Γ B (.Compare a [.In] [b] pos) (.da (.bool (ds.any fun z => PyData.eqv z d))) B2 :=
  ej_bin ha hb (fun _ _ h1 h2 => pe_cmpR (op_inDT hu) h1 h2 hm) fun g v w H0 H O r1 r2 Q q => ⟨d, ds, (Rp.mono O.ex r1).dp (nd_shaped hd), (Rp.mono O.ex r2).dp (nd_shaped hds), hd, hds, hp, q _ H0 H To.refl O (Rp.bl _)⟩
end
end Gd
set_option exponentiation.threshold 20000
namespace Lw
open PySem PySem.Spec PyProof.Rows L2 Gd Fr
open scoped Rat
def bendW : List Str := ["num", "inf", "nan", "span", "none", "inexact", "tiny", "over", "invalid", "by", "even", "up", "down", "zero", "away", "input", "told", "if", "add", "take", "times", "root", "fused", "size", "least", "greatest", "opposite", "few", "near", ""]
theorem bendW_facts : ∀ x ∈ bendW, (PyData.strOk x = true ∧ x.cps.size ≤ 10) ∧ (PyData.strOk (x ++ "s") = true ∧ (x ++ "s").cps.size ≤ 20) ∧ (PyData.strOk (cutS x none (some (-1))) = true ∧ (cutS x none (some (-1))).cps.size ≤ 20) ∧ (PyData.strOk (Txt.upper x) = true ∧ (Txt.upper x).cps.size ≤ 20) := by
  have key : bendW.all (fun x => (PyData.strOk x && decide (x.cps.size ≤ 10)) && ((PyData.strOk (x ++ "s") && decide ((x ++ "s").cps.size ≤ 20)) && ((PyData.strOk (cutS x none (some (-1))) && decide ((cutS x none (some (-1))).cps.size ≤ 20)) && (PyData.strOk (Txt.upper x) && decide ((Txt.upper x).cps.size ≤ 20))))) = true := by decide +kernel
  intro x hx
  have := List.all_eq_true.mp key x hx
  simp only [Bool.and_eq_true, decide_eq_true_eq] at this
  exact this
mutual
def bendB : PyData → Bool
  | .int i => decide (i.natAbs.log2 < 1900)
  | .str x => bendW.contains x
  | .tuple xs => bendA xs
  | d => datB d
def bendA : List PyData → Bool
  | [] => true
  | x :: xs => bendB x && bendA xs
end
mutual
theorem bendB_dat : ∀ d : PyData, bendB d = true → datB d = true
  | .none, h => by simp only [datB]
  | .bool _, h => by simp only [datB]
  | .int i, h => by simp only [bendB, decide_eq_true_eq] at h; simp only [datB, decide_eq_true_eq]; omega
  | .str x, h => by
    simp only [bendB] at h
    simp only [datB]
    exact (bendW_facts x (by simpa using h)).1.1
  | .list xs, h => by simpa only [bendB] using h
  | .tuple xs, h => by
    simp only [bendB] at h
    simp only [datB]
    exact bendA_dat xs h
  | .dict xs, h => by simpa only [bendB] using h
theorem bendA_dat : ∀ ds : List PyData, bendA ds = true → datA ds = true
  | [], _ => by simp only [datA]
  | x :: xs, h => by
    simp only [bendA, Bool.and_eq_true] at h
    simp only [datA, Bool.and_eq_true]
    exact ⟨bendB_dat x h.1, bendA_dat xs h.2⟩
end
theorem bendA_mem : ∀ {ds : List PyData}, bendA ds = true → ∀ d ∈ ds, bendB d = true
  | x :: xs, h, d, hd => by
    simp only [bendA, Bool.and_eq_true] at h
    rcases List.mem_cons.mp hd with rfl | hd
    · exact h.1
    · exact bendA_mem h.2 d hd
structure BN (n W : Nat) (d : PyData) : Prop where
  ok : bendB d = true
  dp : d.depth ≤ n
  bk : d.bulk ≤ W
theorem BN.an {n W : Nat} {d : PyData} (h : BN n W d) : An n W d := ⟨bendB_dat d h.ok, h.dp, h.bk⟩
theorem BN.tup {n W : Nat} {ds : List PyData} (h : BN n W (.tuple ds)) : (ds ≠ [] → 1 ≤ n) ∧ AnA (n - 1) W ds ∧ ∀ d ∈ ds, BN (n - 1) W d := by
  have h1 := h.ok
  have h2 := h.dp
  have h3 := h.bk
  simp only [bendB] at h1
  simp only [PyData.depth] at h2
  simp only [PyData.bulk] at h3
  have a : AnA (n - 1) W ds := ⟨bendA_dat ds h1, by omega, h3⟩
  exact ⟨fun _ => by omega, a, fun d hd => ⟨bendA_mem h1 d hd, (a.mem d hd).dp, (a.mem d hd).bk⟩⟩
theorem bd_add1 {n : Nat} {i j : Int} (h : Bd n i) (k : Bd n j) : Bd (n + 1) (i + j) := by
  unfold Bd at *
  have e := Int.natAbs_add_le i j
  have : 2 ^ (n + 1) = 2 ^ n * 2 := Nat.pow_succ ..
  omega
theorem bd_sub1 {n : Nat} {i j : Int} (h : Bd n i) (k : Bd n j) : Bd (n + 1) (i - j) := by
  rw [Int.sub_eq_add_neg]; exact bd_add1 h k.neg
def LenOk : PyData → Prop
  | .tuple ds => ds.length ≤ 1000
  | _ => True
theorem An.len {D W : Nat} {d : PyData} (h : An D W d) (e : W ≤ 1000) : LenOk d := by
  cases d with
  | tuple ds =>
    have := h.bk
    simp only [PyData.bulk] at this
    exact Nat.le_trans (len_bulk ds) (by omega)
  | _ => trivial
end Lw
namespace Gd
open PySem PySem.Spec PyProof.Rows L2
section
variable {X : Cx} {Γ : List VD} {B B1 B2 : Bag} {a b c e elt : Expr} {scope : Scope} {acc : List PyData} {pos pos' p : Pos} {rest : List Stmt} {E : En} {d : VD} {j : Nat} {x : Str} {px : Pos}
theorem ej_lenS {y : Str} (hl : y.length ≤ sizeLine) (hm : X.mg "len" = none) (ha : EJ X Γ B a (.da (.str y)) B1) (hs : starEach [a] X.env = [(false, eval a X.env)] := by rfl) (hg : Gl X "len" := by rfl) :
    EJ X Γ B (.Call (.Name "len" p) [a] [] pos) (.da (.int y.length)) B1 :=
  ej_callB call_len hm (aj_cons ha aj_nil hs) (fun g vs H0 H O r Q q => by
    obtain ⟨v, rfl, h⟩ := rv1 r
    refine ⟨v, y.length, rfl, ?_, q _ _ _ To.refl O (Rp.int _)⟩
    cases h with
    | str => exact ⟨hl, rfl⟩) (hg := hg) (he := hs)
end
end Gd
set_option exponentiation.threshold 20000
namespace Lw
open PySem PySem.Spec PyProof PyProof.Rows L2 Gd Fr
open scoped Rat
theorem tk_ex {B : Bag} (h : Bok B) (m : Int) (h0 : 0 < m) (h1 : m < 2 ^ 60) : ∃ (v : Int) (B' : Bag), R_take [.bag, .da (.int m)] B (.int v) B' ∧ 0 ≤ v ∧ v < m ∧ Bok B' :=
  ⟨tkV B m, tkB B m, R_take.mk B m h0 (by unfold Bd; exact Nat.lt_of_lt_of_le (show _ < 2 ^ 60 by omega) (Nat.pow_le_pow_right (by decide) (by decide))) h, tkV_ge B h0, tkV_lt B h0, tkB_ok h m⟩
theorem sm_ex {α : Type} (xs : List α) (f : α → PyData) {B : Bag} (hl : xs.length ≤ 1000) (h : Bok B) (h0 : 0 < xs.length) : ∃ x ∈ xs, ∃ B' : Bag, R_some [.bag, .da (.list (xs.map f))] B (f x) B' ∧ Bok B' := by
  obtain ⟨x, hx, hp⟩ := pick_ex xs f B h0
  have := R_some.mk B (xs.map f) (by rw [List.length_map]; exact h0) (by rw [List.length_map]; exact hl) h
  rw [hp] at this
  exact ⟨x, hx, _, this, tkB_ok h _⟩
def d3 (t : Int × Int × Int) : PyData := .tuple [.int t.1, .int t.2.1, .int t.2.2]
end Lw
namespace Gd
open PySem PySem.Spec PyProof.Rows L2 RZ
section
variable {X : Cx} {Γ : List VD} {B B1 B2 B' : Bag} {e a b c : Expr} {elt : Expr} {scope : Scope} {j : Nat} {x : Str} {px : Pos} {ds ys : List PyData} {pos pos' : Pos} {acc : List PyData}
end
end Gd
namespace Gd
open PySem PySem.Spec PyProof.Rows L2
section
variable {X : Cx} {Γ : List VD} {B B1 B2 B' : Bag} {e a b c : Expr} {es : List Expr} {elt : Expr} {scope : Scope} {pos pos' : Pos} {acc : List PyData}
end
end Gd
namespace Gd
open PySem PySem.Spec PyProof.Rows L2
section
variable {P : Program} {w : World} {A : Around} {E : Value → Shared → Prop} {s : Shared} {a : Addr} {l0 : Addr} {l : List Str} {items : Array Value}
end
section
variable {X : Cx} {Γ : List VD} {B B1 : Bag} {b : Expr} {pos p : Pos} {Φ : Post}
end
end Gd
namespace Gd
open PySem PySem.Spec PyProof.Rows L2
section
variable {X : Cx} {Γ : List VD} {B B1 B2 : Bag} {a e : Expr} {pos p p' kp : Pos} {rest : List Stmt} {ds : List PyData}
end
end Gd
namespace Gd
open PySem PySem.Spec PyProof.Rows L2
section
variable {X : Cx} {Γ : List VD} {B B1 B2 : Bag} {a b c elt : Expr} {scope : Scope} {pos p : Pos}
end
end Gd
namespace Gd
open PySem PySem.Spec PyProof.Rows L2
section
variable {X : Cx} {Γ : List VD} {B B1 B2 : Bag} {a b : Expr} {pos : Pos}
end
end Gd
namespace Gd
open PySem PySem.Spec PyProof.Rows L2
section
variable {X : Cx} {Γ : List VD} {B B1 B2 : Bag} {a b e : Expr} {pos p p' : Pos} {rest : List Stmt} {ds : List PyData}
end
end Gd
namespace HT
open PySem PySem.Spec PyProof.Rows L2
open PySem.Builtin PySem.Builtin.Str PySem.Builtin.Int
section
variable {prog : Program} {w : World} {A : Around} {E : Value → Shared → Prop} {s : Shared} {a : Int} {t : Tok}
theorem call_int_reprD {Q : Value → Shared → Prop} (hn : s.heap.NoDigits) (hl : a.natAbs < 10 ^ 4300) (h1 : Q (.str (toString a) s.toks) { s with toks := s.toks + 1 }) :
    wpAny (model prog w) A (call (.builtin "int.__repr__") [.int a t]) Q E s := by
  refine wpAny_call_entry F.slot_int_repr (typeIs_int s a t) F.entry_int_repr ?_ (F.args_int_repr_1 _)
  unfold Builtin.«int.__repr__»
  show wpAny _ _ (do let r ← Builtin.overDigitLimit? a; _) _ _ s
  refine wpAny_bind (overDigitLimit_any hn (fun hlt => ?_) (fun hge => absurd hl (Nat.not_lt.mpr hge)))
  exact wpAny_bind (wpAny_mkStr (wpAny_pure ⟨_, rfl, h1⟩) (int_text_fits10 hlt))
theorem strOf_intD {Q : Value → Shared → Prop} (hn : s.heap.NoDigits) (hl : a.natAbs < 10 ^ 4300) (h1 : Q (.str (toString a) s.toks) { s with toks := s.toks + 1 }) :
    wpAny (model prog w) A (PySem.Builtin.Str.strOf (.int a t)) Q E s := by
  unfold PySem.Builtin.Str.strOf
  rw [show isExactStr (.int a t) = false from rfl]
  try (have hv : [Value.int a t].any Value.onHeap = false := rfl; simp only [cRoomFor, hv, Bool.false_eq_true, if_false, pure_bind])
  refine wpAny_bind (m := callSpecial? (.int a t) (Str.ofString "__str__")) (wpAny_callSpecial?_slot (name := Str.ofString "__str__") (typeIs_int s a t) F.slot_int_str ?_)
  refine wpAny_call_entry F.slot_int_str (typeIs_int s a t) entry_object_str ?_ (args_object_str _)
  unfold Builtin.«object.__str__»
  refine wpAny_bind (m := slotArgs "__str__" 0 _) (wpAny_pure ?_)
  try (have hv : [Value.int a t].any Value.onHeap = false := rfl; simp only [cRoomFor, hv, Bool.false_eq_true, if_false, pure_bind])
  refine wpAny_bind (m := callSpecialIfBound? (.int a t) (Str.ofString "__repr__")) (wpAny_callSpecialIfBound?_slot (name := Str.ofString "__repr__") (typeIs_int s a t) F.slot_int_repr
    (call_int_reprD hn hl ?_))
  exact wpAny_pure ⟨_, rfl, wpAny_pure h1⟩
theorem str_of_intD {Q : Value → Shared → Prop} (hn : s.heap.NoDigits) (hl : a.natAbs < 10 ^ 4300) (h1 : Q (.str (toString a) s.toks) { s with toks := s.toks + 1 }) :
    wpAny (model prog w) A (call (.type "str") [.int a t]) Q E s :=
  callType_new F.called_str (by decide) (F.typeCall_str_1 _) (F.newCall_str_1 _) (fun obj => F.args_object_init_2 obj _) F.entry_str_new
    (meets_str_new (S := fun A R s => s.heap.NoDigits ∧ R (.ok (.ret (.str (toString a) s.toks))) { s with toks := s.toks + 1 })
      fun _ _ _ _ _ hq => strOf_intD hq.1 hl hq.2)
    ⟨hn, ⟨typeIs_str _ _ _, h1⟩⟩
end
end HT
namespace Gd
open PySem PySem.Spec PyProof.Rows L2
section
variable {X : Cx} {Γ : List VD} {B B1 B2 : Bag} {a b c e elt : Expr} {scope : Scope} {acc : List PyData} {pos pos' p : Pos} {rest : List Stmt} {E : En} {d : VD} {j : Nat} {x : Str} {px : Pos}
theorem call_strD {k : Nat} (g : Gx k X) (nd : X.base.NoDigits) : CallR X (.type "str") (fun xs H Q => ∃ i : Int, xs = [.int i] ∧ i.natAbs < 10 ^ 4300 ∧ Q (.str (toString i)) H) := by
  intro pins s σ H xs us Q I r h
  obtain ⟨i, rfl, hz, q⟩ := h
  obtain ⟨u, rfl, t, rfl⟩ := vals1 r
  exact HT.str_of_intD (nd.keeps fun b o e => (I.env0.bs b o e).1) hz ⟨.str _, H, I.tok _, ⟨_, rfl⟩, q⟩
theorem ej_strD {k : Nat} {i : Int} (g : Gx k X) (nd : X.base.NoDigits) (hi : i.natAbs < 10 ^ 4300) (hm : X.mg "str" = none) (ha : EJ X Γ B a (.da (.int i)) B1) (hs : starEach [a] X.env = [(false, eval a X.env)] := by rfl) (hg : Gl X "str" := by rfl) :
    EJ X Γ B (.Call (.Name "str" p) [a] [] pos) (.da (.str (toString i))) B1 :=
  ej_callTy (call_strD g nd) hm (aj_cons ha aj_nil hs) (fun g vs H0 H O r Q q => by
    obtain ⟨v, rfl, h⟩ := rv1 r
    exact ⟨i, by rw [rvI h], hi, q _ _ _ To.refl O (Rp.str _)⟩) (hg := hg) (he := hs)
theorem divp2 {i j : Int} (hj : 0 < j) (h : Bd 8999 j ∨ Bd 8999 i) : CDivP i j := by
  by_cases hl : j.natAbs.log2 < 9000
  · exact ⟨hj, PyProof.noPylong_of_log2 hl⟩
  · have hi : Bd 8999 i := by
      rcases h with h | h
      · exact absurd (lg (h.le (Nat.le_refl _)) (by decide)) hl
      · exact h
    refine divp_ok hj ?_
    have e1 := intBits_le hi
    have e2 : Builtin.Int.intBits j = j.natAbs.log2 + 1 := by
      unfold Builtin.Int.intBits
      rw [if_neg (show ¬ (j == 0) = true by simpa using (show j ≠ 0 by omega))]
    omega
theorem ej_divmodP {i j : Int} (hm : X.mg "divmod" = none) (ha : EJ X Γ B a (.da (.int i)) B1) (hb : EJ X Γ B1 b (.da (.int j)) B2) (hc : CDivP i j) (hg : Gl X "divmod" := by rfl)
    (h1 : starEach [a, b] X.env = (false, eval a X.env) :: starEach [b] X.env := by rfl) (h2 : starEach [b] X.env = (false, eval b X.env) :: starEach [] X.env := by rfl)
    (hpl : (backTo pos (starEach [b] X.env)).any (·.1) = false := by rfl) :
    EJ X Γ B (.Call (.Name "divmod" p) [a, b] [] pos) (.da (.tuple [.int (i / j), .int (i % j)])) B2 :=
  ej_callB call_divmodW hm (aj_cons ha (aj_cons hb aj_nil h2) h1) (fun g vs H0 H O r Q q => by
    obtain ⟨v, w, rfl, r1, r2⟩ := rv2 r
    refine ⟨i, j, by rw [rvI r1, rvI r2], hc, fun n hn => ?_⟩
    obtain ⟨t2, o2⟩ := laid (o := .tup [.int (i / j), .int (i % j)]) O hn
    exact q _ _ _ t2 o2 (Rp.tup (SqT.of upd_same) (.cons (.int _) (.cons (.int _) .nil)))) (hg := hg) (he := h1) (hpl := hpl)
theorem op_fdivP : OpR X (binaryOp .FloorDiv) (rI CDivP fun i j => .int (i / j)) := opI fun i j _ _ _ _ _ hc q => by
  exact floordiv_int (by have := hc.1; omega) (by rw [Int.fdiv_eq_ediv_of_nonneg i (by have := hc.1; omega)]; exact q) (.inl hc.2)
theorem ej_fdivP {i j : Int} (ha : EJ X Γ B a (.da (.int i)) B1) (hb : EJ X Γ B1 b (.da (.int j)) B2) (hc : CDivP i j) : EJ X Γ B (.BinOp a .FloorDiv b pos) (.da (.int (i / j))) B2 :=
  ej_iic ha hb op_fdivP hc fun _ => .int _
theorem ex_repLn {Φ : Post} {k : Nat} (ha : EX X Γ B a fun y B1 => EX X Γ B1 b fun z B2 => ∃ ds, y = .list ds ∧ z = .int (k : Int) ∧ ds.length ≤ 1000 ∧ Φ (.list (List.replicate k ds).flatten) B2) (hk : k ≤ 1000) : EX X Γ B (.BinOp a .Mult b pos) Φ :=
  ex_bin (ex_mono ha fun y B1 hy => ex_mono hy fun z B2 hz => by
    obtain ⟨ds, rfl, rfl, hl, hΦ⟩ := hz
    refine ⟨.list (List.replicate k ds).flatten, hΦ, fun g v w H0 H O r1 r2 Q q => ?_⟩
    obtain ⟨p, xs, rfl, hx, rs⟩ := rvL (g := g) r1
    obtain rfl := rvI (g := g) r2
    have hxl : xs.length = ds.length := rs.length
    refine ⟨p, (k : Int), xs, rfl, rfl, O.ex _ _ hx, by omega, by omega, ?_, fun m hm => ?_⟩
    · rw [sizeLine_eq, Int.toNat_natCast]
      have : xs.length * k ≤ 1000 * 1000 := Nat.mul_le_mul (by omega) hk
      omega
    · rw [Int.toNat_natCast]
      obtain ⟨t2, o2⟩ := laid (o := .lst (List.replicate k xs).flatten) O hm
      have rep : ∀ k : Nat, RpAll X.K H0 (List.replicate k xs).flatten (List.replicate k ds).flatten := fun k => by
        induction k with
        | zero => exact .nil
        | succ k ih => rw [List.replicate_succ, List.replicate_succ, List.flatten_cons, List.flatten_cons]; exact rs.app ih
      exact q _ _ _ t2 o2 (Rp.lst upd_same ((rep k).mono t2.ex))) (fun _ _ h1 h2 => pe_op op_rep h1 h2)
end
end Gd
set_option exponentiation.threshold 20000
namespace Lw
open PySem PySem.Spec PyProof PyProof.Rows L2 Gd Fr
open scoped Rat
theorem rep {y : Rat} {N D : Int} (hD : 0 < D) (h : (N : Rat) = y * (D : Rat)) : ∃ g : Int, 0 < g ∧ N = y.num * g ∧ D = (y.den : Int) * g := by
  have dp := den_pos y
  have e1 : y.num * D = N * (y.den : Int) := by
    have e : y * ((y.den : Int) : Rat) = (y.num : Rat) := by
      exact num_den y
    have e2 : ((N * (y.den : Int) : Int) : Rat) = ((y.num * D : Int) : Rat) := by
      rw [Rat.intCast_mul, Rat.intCast_mul, h, ← e]; grind
    exact (Rat.intCast_inj.mp e2).symm
  have dv : (y.den : Int) ∣ D := by
    have h1 : (y.den : Int) ∣ y.num * D := ⟨N, by rw [e1, Int.mul_comm]⟩
    have h2 : y.den ∣ y.num.natAbs * D.natAbs := by
      have := Int.natAbs_dvd_natAbs.mpr h1
      rwa [Int.natAbs_mul, Int.natAbs_natCast] at this
    have h3 := Nat.Coprime.dvd_of_dvd_mul_left y.reduced.symm h2
    exact Int.natAbs_dvd_natAbs.mp (by rw [Int.natAbs_natCast]; exact h3)
  obtain ⟨g, rfl⟩ := dv
  have hg : 0 < g := by
    refine Decidable.byContradiction fun z => ?_
    have : (y.den : Int) * g ≤ (y.den : Int) * 0 := Int.mul_le_mul_of_nonneg_left (by omega) (by omega)
    omega
  refine ⟨g, hg, ?_, rfl⟩
  refine Int.eq_of_mul_eq_mul_right (show (y.den : Int) ≠ 0 by omega) ?_
  rw [← e1]
  simp only [Int.mul_assoc, Int.mul_comm, Int.mul_left_comm]
section
variable {way : Str} {s g : Int} {y : Rat}
end
def dl (n : Nat) : Nat := (Nat.repr n).length
theorem dl_pos (n : Nat) : 1 ≤ dl n := by
  exact Nat.length_repr_pos
theorem lt_dl (n : Nat) : n < 10 ^ dl n := (Nat.length_repr_le_iff (dl_pos n)).mp (Nat.le_refl _)
theorem dl_le {n : Nat} (h : 0 < n) : 10 ^ (dl n - 1) ≤ n := by
  by_cases h1 : dl n = 1
  · rw [h1]; omega
  · refine Nat.le_of_not_lt fun z => ?_
    have h0 := dl_pos n
    have := (Nat.length_repr_le_iff (show 0 < dl n - 1 by omega)).mpr z
    have e : (Nat.repr n).length = dl n := rfl
    omega
theorem dl_str (n : Nat) : (toString (n : Int) : Str).length = dl n := by rw [PySem.ofString_length]; rfl
end Lw
set_option exponentiation.threshold 20000
namespace Lw
open PySem PySem.Spec PyProof PyProof.Rows L2 Gd Fr
open scoped Rat
structure FmD (b p : Nat) (low high : Int) : Prop where
  b2 : 2 ≤ b
  b6 : b < 2 ^ 6
  p2 : 2 ≤ p
  bp : b ^ p < 2 ^ 400
  lo : -1200 ≤ low
  lh : low ≤ high
  hi : high ≤ 1200
  bl : b ^ (-low).toNat ≤ 10 ^ 1400
  bh : b ^ p * b ^ high.toNat ≤ 10 ^ 400
def fmdB (t : F4) : Bool := decide (2 ≤ t.1) && (decide (t.1 < 2 ^ 6) && (decide (2 ≤ t.2.1) && (decide (t.1 ^ t.2.1 < 2 ^ 400) && (decide (-1200 ≤ t.2.2.1) && (decide (t.2.2.1 ≤ t.2.2.2) && (decide (t.2.2.2 ≤ 1200) && (decide (t.1 ^ (-t.2.2.1).toNat ≤ 10 ^ 1400) && decide (t.1 ^ t.2.1 * t.1 ^ t.2.2.2.toNat ≤ 10 ^ 400))))))))
theorem fmd_of {t : F4} (h : fmdB t = true) : FmD t.1 t.2.1 t.2.2.1 t.2.2.2 := by
  unfold fmdB at h
  simp only [Bool.and_eq_true, decide_eq_true_eq] at h
  obtain ⟨h1, h2, h3, h4, h5, h6, h7, h8, h9⟩ := h
  exact ⟨h1, h2, h3, h4, h5, h6, h7, h8, h9⟩
def toldF : List F4 := [(2, 3, -2, 1), (10, 2, -2, 0), (4, 3, -3, 3), (2, 2, 0, 0), (6, 4, -10, 8), (36, 2, -3, 2), (2, 5, -9, 9)]
def toldF2 : List F4 := [(2, 11, -24, 5), (2, 24, -149, 104), (2, 53, -1074, 971), (10, 7, -101, 90), (16, 6, -70, 57), (10, 16, -398, 369)] ++ [(2, 64, 30, 90), (10, 40, -60, -50), (12, 9, -1200, -1190)]
def NumD (b p : Nat) (low high s c e : Int) : Prop := (s = 0 ∨ s = 1) ∧ 0 ≤ c ∧ c < ((b ^ p : Nat) : Int) ∧ low ≤ e ∧ e ≤ high
def Pre_tc (Γ : List VD) (B : Bag) : Prop := ∃ (b p : Nat) (low high e : Int), Γ = [.bag, .da (fmP b p low high), .da (.int e)] ∧ FmD b p low high ∧ Bok B
def Post_tc (Γ : List VD) (_ : Bag) (r : PyData) (B' : Bag) : Prop := Bok B' ∧ ∀ (b p : Nat) (low high e : Int), Γ = [.bag, .da (fmP b p low high), .da (.int e)] → ∃ c : Int, r = .int c ∧ 1 ≤ c ∧ c < ((b ^ p : Nat) : Int)
def Pre_tn (Γ : List VD) (B : Bag) : Prop := ∃ (b p : Nat) (low high : Int), Γ = [.bag, .da (fmP b p low high)] ∧ FmD b p low high ∧ Bok B
def Post_tn (Γ : List VD) (_ : Bag) (r : PyData) (B' : Bag) : Prop := Bok B' ∧ ∀ (b p : Nat) (low high : Int), Γ = [.bag, .da (fmP b p low high)] → ∃ s c e : Int, r = (Va.num s c e).d ∧ NumD b p low high s c e ∧ 0 < c
section
variable {b p : Nat} {low high : Int} (F : FmD b p low high)
include F
theorem FmD.pn {e : Int} (h1 : low ≤ e) (h2 : e ≤ high) : Qz 1400 4700 (pw b e) := by
  have e1 := pw_num b F.b2 e
  have b0 : 0 < b := by have := F.b2; omega
  have u1 : b ^ e.toNat ≤ b ^ high.toNat := Nat.pow_le_pow_right b0 (by omega)
  have u2 : b ^ (-e).toNat ≤ b ^ (-low).toNat := Nat.pow_le_pow_right b0 (by omega)
  have u3 : b ^ high.toNat ≤ b ^ p * b ^ high.toNat := Nat.le_mul_of_pos_left _ (Nat.pow_pos b0)
  have k1 : 10 ^ 400 < 2 ^ 1400 := by decide +kernel
  have k2 : 10 ^ 1400 < 2 ^ 4700 := by decide +kernel
  have v1 := F.bl; have v2 := F.bh
  refine ⟨?_, ?_⟩
  · rw [e1.1]; unfold Bd; rw [Int.natAbs_natCast]; exact Nat.lt_of_le_of_lt (Nat.le_trans u1 (Nat.le_trans u3 v2)) k1
  · rw [e1.2]; unfold Bd; rw [Int.natAbs_natCast]; exact Nat.lt_of_le_of_lt (Nat.le_trans u2 v1) k2
end
inductive R_worthD : Rel
  | mk (b p : Nat) (low high s c e : Int) (B : Bag) (F : FmD b p low high) (h : NumD b p low high s c e) : R_worthD [.da (fmP b p low high), .da (Va.d (.num s c e))] B (fq (Va.wQ b (.num s c e))) B
inductive R_cross : Rel
  | mk (a b c d : Int) (B : Bag) (h1 : Bd 20000 a) (h2 : Bd 20000 b) (h3 : Bd 20000 c) (h4 : Bd 20000 d) : R_cross [.da (.tuple [.int a, .int b]), .da (.tuple [.int c, .int d])] B (.int (a * d - c * b)) B
inductive R_top : Rel
  | mk (n d : Nat) (q : Rat) (k : Int) (B : Bag) (hn : 0 < n) (hd : 0 < d) (h : (n : Rat) = q * (d : Rat)) (h1 : pw 10 k ≤ q) (h2 : q < pw 10 (k + 1)) (b1 : n < 10 ^ 4300) (b2 : d < 10 ^ 4300) : R_top [.da (.int n), .da (.int d)] B (.int (k + 1)) B
inductive R_overW : Rel
  | mk (n d m c : Nat) (x y : Rat) (B : Bag) (hx : Qz n d x) (hy : Qz m c y) (h1 : n ≤ 90000) (h2 : c ≤ 90000) (h3 : d ≤ 8900) (h4 : m ≤ 8900) (h : y ≠ 0) : R_overW [.da (fq x), .da (fq y)] B (fq (x / y)) B
section
variable {b p : Nat} {low high s c e : Int} (F : FmD b p low high) (h : NumD b p low high s c e)
include F h
theorem ndd_lt : (c : Rat) * pw b e < pw 10 400 := by
  obtain ⟨hs, c0, c1, l1, l2⟩ := h
  have b2 := F.b2
  have b0 : 0 < b := by omega
  have pe := pw_pos b2 e
  have e1 : pw b e ≤ ((b ^ high.toNat : Nat) : Rat) := by
    rw [← pw_nat]; exact pw_mono b2 (by omega)
  have e2 : (c : Rat) * pw b e < ((b ^ p : Nat) : Rat) * pw b e := by
    refine Rat.mul_lt_mul_of_pos_right ?_ pe
    rw [← Rat.intCast_natCast]; exact cast_lt.mpr c1
  have e3 : ((b ^ p : Nat) : Rat) * pw b e ≤ ((b ^ p : Nat) : Rat) * ((b ^ high.toNat : Nat) : Rat) := Rat.mul_le_mul_of_nonneg_left e1 (Rat.natCast_nonneg)
  have e4 : ((b ^ p : Nat) : Rat) * ((b ^ high.toNat : Nat) : Rat) ≤ pw 10 400 := by
    rw [show (400 : Int) = ((400 : Nat) : Int) from rfl, pw_nat, ← Rat.natCast_mul]; exact Rat.natCast_le_natCast.mpr F.bh
  exact Std.lt_of_lt_of_le e2 (Rat.le_trans e3 e4)
theorem ndd_ge (hc : 0 < c) : pw 10 (-1400) ≤ (c : Rat) * pw b e := by
  obtain ⟨hs, c0, c1, l1, l2⟩ := h
  have b2 := F.b2
  have e1 : pw b low ≤ pw b e := pw_mono b2 l1
  have e2 : pw 10 (-1400) ≤ pw b low := by
    have t1 : pw b (-low) ≤ pw 10 1400 := by
      refine Rat.le_trans (pw_mono b2 (show -low ≤ ((-low).toNat : Int) by omega)) ?_
      rw [pw_nat, show (1400 : Int) = ((1400 : Nat) : Int) from rfl, pw_nat]
      exact Rat.natCast_le_natCast.mpr F.bl
    have t2 : pw b low * pw b (-low) = 1 := by rw [← pw_add b2, show low + -low = 0 by omega, pw_zero]
    have t3 : pw 10 (-1400) * pw 10 1400 = 1 := by rw [← pw_add (by decide), show (-1400 : Int) + 1400 = 0 by decide, pw_zero]
    have t4 : pw 10 (-1400) * pw b low * pw b (-low) ≤ pw 10 (-1400) * pw b low * pw 10 1400 := Rat.mul_le_mul_of_nonneg_left t1 (Rat.le_of_lt (Rat.mul_pos (pw_pos (by decide) _) (pw_pos b2 _)))
    have t5 : pw 10 (-1400) * pw b low * pw b (-low) = pw 10 (-1400) := by rw [Rat.mul_assoc, t2, Rat.mul_one]
    have t6 : pw 10 (-1400) * pw b low * pw 10 1400 = pw b low := by
      calc pw 10 (-1400) * pw b low * pw 10 1400 = (pw 10 (-1400) * pw 10 1400) * pw b low := by grind
        _ = _ := by rw [t3, Rat.one_mul]
    rw [t5, t6] at t4
    exact t4
  have e3 : pw b e ≤ (c : Rat) * pw b e := by
    have : (1 : Rat) * pw b e ≤ (c : Rat) * pw b e := Rat.mul_le_mul_of_nonneg_right (by exact_mod_cast hc) (Rat.le_of_lt (pw_pos b2 e))
    rwa [Rat.one_mul] at this
  exact Rat.le_trans e2 (Rat.le_trans e1 e3)
theorem ndd_k (hc : 0 < c) {k : Int} (h1 : pw 10 k ≤ (c : Rat) * pw b e) (h2 : (c : Rat) * pw b e < pw 10 (k + 1)) : -1400 ≤ k ∧ k < 400 := by
  have a1 := ndd_lt F h
  have a2 := ndd_ge F h hc
  have m : ∀ {x y : Int}, pw 10 x < pw 10 y → x < y := fun {x y} z => Int.not_le.mp fun w => Rat.not_lt.mpr (pw_mono (by decide) w) z
  have u1 := m (Std.lt_of_le_of_lt h1 a1)
  have u2 := m (Std.lt_of_le_of_lt a2 h2)
  omega
end
theorem ten_qz {e : Int} (h1 : -2000 ≤ e) (h2 : e ≤ 2000) : (0 ≤ e → Qz 6650 1 (pw 10 e)) ∧ (e < 0 → Qz 1 6650 (pw 10 e)) ∧ Qz 6650 6650 (pw 10 e) := by
  have e1 := pw_num 10 (by decide) e
  have k : 10 ^ 2000 < 2 ^ 6650 := by decide +kernel
  have t : ∀ n : Nat, n ≤ 2000 → Bd 6650 ((10 ^ n : Nat) : Int) := fun n hn => by
    unfold Bd; rw [Int.natAbs_natCast]
    exact Nat.lt_of_le_of_lt (Nat.pow_le_pow_right (by decide) hn) k
  have z : ∀ x : Int, x ≤ 0 → Bd 1 ((10 ^ x.toNat : Nat) : Int) := fun x hx => by
    rw [show x.toNat = 0 by omega]; unfold Bd; decide
  refine ⟨fun h => ⟨?_, ?_⟩, fun h => ⟨?_, ?_⟩, ⟨?_, ?_⟩⟩
  · rw [e1.1]; exact t _ (by omega)
  · rw [e1.2]; exact z _ (by omega)
  · rw [e1.1]; exact z _ (by omega)
  · rw [e1.2]; exact t _ (by omega)
  · rw [e1.1]; exact t _ (by omega)
  · rw [e1.2]; exact t _ (by omega)
theorem ten_ne (e : Int) : pw 10 e ≠ 0 := fun z => by have := pw_pos (b := 10) (by decide) e; rw [z] at this; exact absurd this (by decide)
theorem ten_4401 : 10 ^ 4401 < 2 ^ 20000 := by decide +kernel
theorem top_cmp {n d : Nat} {q : Rat} {e : Int} (hn : 0 < n) (hd : 0 < d) (h : (n : Rat) = q * (d : Rat)) : ((10 ^ e.toNat : Nat) : Int) * d - n * ((10 ^ (-e).toNat : Nat) : Int) ≤ 0 ↔ pw 10 e ≤ q := by
  have dp : (0 : Rat) < (d : Rat) := Rat.natCast_pos.mpr hd
  have vp : (0 : Rat) < ((10 ^ (-e).toNat : Nat) : Rat) := Rat.natCast_pos.mpr (Nat.pow_pos (by decide))
  have ep : pw 10 e * ((10 ^ (-e).toNat : Nat) : Rat) = ((10 ^ e.toNat : Nat) : Rat) := by
    rw [← pw_nat, ← pw_add (by decide), ← pw_nat]; congr 1; omega
  have a : ((10 ^ e.toNat : Nat) : Int) * d - n * ((10 ^ (-e).toNat : Nat) : Int) ≤ 0 ↔ ((10 ^ e.toNat : Nat) : Int) * d ≤ n * ((10 ^ (-e).toNat : Nat) : Int) := by omega
  rw [a, ← Rat.intCast_le_intCast, Rat.intCast_mul, Rat.intCast_mul, Rat.intCast_natCast, Rat.intCast_natCast, Rat.intCast_natCast, Rat.intCast_natCast, h, ← ep]
  have e1 : pw 10 e * ((10 ^ (-e).toNat : Nat) : Rat) * (d : Rat) = pw 10 e * (((10 ^ (-e).toNat : Nat) : Rat) * (d : Rat)) := Rat.mul_assoc ..
  have e2 : q * (d : Rat) * ((10 ^ (-e).toNat : Nat) : Rat) = q * (((10 ^ (-e).toNat : Nat) : Rat) * (d : Rat)) := by grind
  rw [e1, e2]
  have pp := Rat.mul_pos vp dp
  exact ⟨fun z => Rat.le_of_mul_le_mul_right z pp, fun z => Rat.mul_le_mul_of_nonneg_right z (Rat.le_of_lt pp)⟩
theorem top_le {q : Rat} {e k : Int} (h1 : pw 10 e ≤ q) (h2 : q < pw 10 (k + 1)) : e ≤ k := by
  refine Decidable.byContradiction fun z => ?_
  exact Rat.not_lt.mpr (Std.le_trans (pw_mono (b := 10) (by decide) (show k + 1 ≤ e by omega)) h1) h2
theorem top_start {n d : Nat} {q : Rat} {k : Int} (hn : 0 < n) (hd : 0 < d) (h : (n : Rat) = q * (d : Rat)) (h2 : q < pw 10 (k + 1)) : (dl n : Int) - dl d - 1 ≤ k + 1 := by
  have h3 := top_le (e := (dl n : Int) - dl d - 1) (k := k) ((top_cmp hn hd h).mp ?_) h2
  · omega
  have a1 := dl_le hn
  have a2 := Nat.le_of_lt (lt_dl d)
  have p1 := dl_pos n
  generalize hx : ((dl n : Int) - dl d - 1).toNat = x
  generalize hy : (-((dl n : Int) - dl d - 1)).toNat = y
  have e1 : x + dl d ≤ dl n - 1 + y := by omega
  have c1 : 10 ^ x * d ≤ 10 ^ x * 10 ^ dl d := Nat.mul_le_mul_left _ a2
  have c2 : 10 ^ x * 10 ^ dl d ≤ 10 ^ (dl n - 1) * 10 ^ y := by rw [← Nat.pow_add, ← Nat.pow_add]; exact Nat.pow_le_pow_right (by decide) e1
  have c3 : 10 ^ (dl n - 1) * 10 ^ y ≤ n * 10 ^ y := Nat.mul_le_mul_right _ a1
  have c4 : 10 ^ x * d ≤ n * 10 ^ y := Nat.le_trans c1 (Nat.le_trans c2 c3)
  have c5 : ((10 ^ x * d : Nat) : Int) ≤ ((n * 10 ^ y : Nat) : Int) := Int.ofNat_le.mpr c4
  rw [Int.natCast_mul, Int.natCast_mul] at c5
  omega
theorem top_bound {n d : Nat} {q : Rat} {k : Int} (hn : 0 < n) (hd : 0 < d) (h : (n : Rat) = q * (d : Rat)) (h1 : pw 10 k ≤ q) (b1 : n < 10 ^ 4300) : k < 4300 := by
  have h3 := (top_cmp hn hd h).mpr h1
  refine Int.not_le.mp fun z => ?_
  have t : (-k).toNat = 0 := by omega
  rw [t, Nat.pow_zero] at h3
  have c1 : 10 ^ 4300 ≤ 10 ^ k.toNat := Nat.pow_le_pow_right (by decide) (by omega)
  have c2 : 10 ^ k.toNat * 1 ≤ 10 ^ k.toNat * d := Nat.mul_le_mul_left _ hd
  have c3 : ((10 ^ k.toNat * 1 : Nat) : Int) ≤ ((10 ^ k.toNat * d : Nat) : Int) := Int.ofNat_le.mpr c2
  rw [Int.natCast_mul, Int.natCast_mul] at c3
  omega
theorem at_rat {n d e : Int} {q : Rat} (h : (n : Rat) = q * (d : Rat)) : ((n * ((10 ^ (-e).toNat : Nat) : Int) : Int) : Rat) = q / pw 10 e * ((d * ((10 ^ e.toNat : Nat) : Int) : Int) : Rat) := by
  have ep : pw 10 e * ((10 ^ (-e).toNat : Nat) : Rat) = ((10 ^ e.toNat : Nat) : Rat) := by
    rw [← pw_nat, ← pw_add (by decide), ← pw_nat]; congr 1; omega
  rw [Rat.intCast_mul, Rat.intCast_mul, Rat.intCast_natCast, Rat.intCast_natCast, h, ← ep]
  have e1 : q / pw 10 e * ((d : Rat) * (pw 10 e * ((10 ^ (-e).toNat : Nat) : Rat))) = (q / pw 10 e * pw 10 e) * ((d : Rat) * ((10 ^ (-e).toNat : Nat) : Rat)) := by grind
  rw [e1, Rat.div_mul_cancel (ten_ne e)]
  grind
theorem size_nd {b p : Nat} {low high s c e : Int} (F : FmD b p low high) (h : NumD b p low high s c e) (hc : 0 < c) :
    ∃ n d : Nat, 0 < n ∧ 0 < d ∧ (n : Rat) = (c : Rat) * pw b e * (d : Rat) ∧ c * ((b ^ e.toNat : Nat) : Int) = n ∧ ((b ^ (-e).toNat : Nat) : Int) = d ∧ n < 10 ^ 4300 ∧ d < 10 ^ 4300 ∧ Bd 2000 (n : Int) ∧ Bd 4700 (d : Int) := by
  obtain ⟨s01, c0, c1, l1, l2⟩ := h
  have b2 := F.b2
  have pn := F.pn l1 l2
  have e1 := pw_num b b2 e
  have h1 := pn.nu; have h2 := pn.de
  rw [e1.1] at h1; rw [e1.2] at h2
  have hcb : Bd 400 c := by unfold Bd; have := F.bp; omega
  have h3 := hcb.mul h1
  obtain ⟨m, rfl⟩ : ∃ m : Nat, c = (m : Int) := ⟨c.toNat, by omega⟩
  have bp : 0 < b ^ e.toNat := Nat.pow_pos (by omega)
  have bq : 0 < b ^ (-e).toNat := Nat.pow_pos (by omega)
  have k1 : 2 ^ 1800 < 10 ^ 4300 := by decide +kernel
  have k2 : 2 ^ 4700 < 10 ^ 4300 := by decide +kernel
  have ep : pw b e * ((b ^ (-e).toNat : Nat) : Rat) = ((b ^ e.toNat : Nat) : Rat) := by
    rw [← pw_nat, ← pw_add b2, ← pw_nat]; congr 1; omega
  rw [← Int.natCast_mul] at h3
  refine ⟨m * b ^ e.toNat, b ^ (-e).toNat, Nat.mul_pos (by omega) bp, bq, ?_, by rw [Int.natCast_mul], rfl, ?_, ?_, h3.le (by decide), h2⟩
  · rw [Rat.natCast_mul, Rat.mul_assoc, ep, Rat.intCast_natCast]
  · unfold Bd at h3; rw [Int.natAbs_natCast] at h3; exact Nat.lt_trans h3 k1
  · unfold Bd at h2; rw [Int.natAbs_natCast] at h2; exact Nat.lt_trans h2 k2
end Lw
set_option exponentiation.threshold 200000
namespace Lw
open PySem PySem.Spec PyProof PyProof.Rows L2 Gd Fr
open scoped Rat
def farN (p : Nat) (low high : Int) : Nat := 2 * (low.natAbs + high.natAbs + p) + 1
structure FmR (b p : Nat) (low high : Int) : Prop where
  D : FmD b p low high
  p7 : p ≤ 120
  far : farN p low high ≤ 4900
  sq : ∀ i, i ≤ 16 → 2 ^ 8999 ≤ b ^ 2 ^ i → b ^ 2 ^ i ≤ 10 ^ (farN p low high + 2) → 10 ^ (farN p low high + 2) < b ^ 2 ^ i * 2 ^ 3990
  bl2 : b ^ (-low).toNat ≤ 10 ^ 1300
  sh : ∃ k : Int, Fm b p (low + k) (high + k)
def fmrB (t : F4) : Bool := (decide (t.1 ^ (-t.2.2.1).toNat ≤ 10 ^ 1300) && (fmB (t.1, t.2.1, t.2.2.1 + 0, t.2.2.2 + 0) || fmB (t.1, t.2.1, t.2.2.1 + -t.2.2.1, t.2.2.2 + -t.2.2.1))) && (fmdB t && (decide (t.2.1 ≤ 120) && (decide (farN t.2.1 t.2.2.1 t.2.2.2 ≤ 4900) && (List.range 17).all fun i => decide (t.1 ^ 2 ^ i < 2 ^ 8999) || (decide (10 ^ (farN t.2.1 t.2.2.1 t.2.2.2 + 2) < t.1 ^ 2 ^ i) || decide (10 ^ (farN t.2.1 t.2.2.1 t.2.2.2 + 2) < t.1 ^ 2 ^ i * 2 ^ 3990)))))
theorem fmr_of {t : F4} (h : fmrB t = true) : FmR t.1 t.2.1 t.2.2.1 t.2.2.2 := by
  unfold fmrB at h
  rw [Bool.and_eq_true, Bool.and_eq_true, Bool.and_eq_true, Bool.and_eq_true, Bool.and_eq_true, Bool.or_eq_true] at h
  obtain ⟨⟨h5, h6⟩, h1, h2, h3, h4⟩ := h
  refine ⟨fmd_of h1, of_decide_eq_true h2, of_decide_eq_true h3, fun i hi a b => ?_, of_decide_eq_true h5, h6.elim (fun z => ⟨0, fm_of z⟩) (fun z => ⟨-t.2.2.1, fm_of z⟩)⟩
  have := List.all_eq_true.mp h4 i (List.mem_range.mpr (by omega))
  rw [Bool.or_eq_true, Bool.or_eq_true, decide_eq_true_iff, decide_eq_true_iff, decide_eq_true_iff] at this
  omega
theorem told_fmr : (toldF ++ toldF2).all fmrB = true := by decide +kernel
theorem divpW {l sq w : Nat} (h0 : 0 < sq) (hl : l ≤ w) (h : 2 ^ 8999 ≤ sq → w < sq * 2 ^ 3990) : CDivP (l : Int) (sq : Int) := by
  by_cases hs : sq < 2 ^ 8999
  · exact divp2 (by omega) (.inl (by unfold Bd; rw [Int.natAbs_natCast]; exact hs))
  · have hw := h (by omega)
    refine divp_ok (by omega) ?_
    have e2 : Builtin.Int.intBits (sq : Int) = sq.log2 + 1 := by
      unfold Builtin.Int.intBits
      rw [if_neg (show ¬ ((sq : Int) == 0) = true by simpa using (show (sq : Int) ≠ 0 by omega)), Int.natAbs_natCast]
    have l2 : sq < 2 ^ (sq.log2 + 1) := Nat.lt_log2_self
    have l3 : Bd (sq.log2 + 1 + 3990) (l : Int) := by
      unfold Bd; rw [Int.natAbs_natCast, Nat.pow_add]
      exact Nat.lt_of_le_of_lt hl (Nat.lt_trans hw (Nat.mul_lt_mul_of_pos_right l2 (Nat.pow_pos (by decide))))
    have := intBits_le l3
    omega
def WhOk (b w : Nat) : Prop := w < 2 ^ 17000 ∧ ∀ i, i ≤ 16 → 2 ^ 8999 ≤ b ^ 2 ^ i → b ^ 2 ^ i ≤ w → w < b ^ 2 ^ i * 2 ^ 3990
theorem wh_small {b w : Nat} (h : w < 2 ^ 8999) : WhOk b w := ⟨Nat.lt_of_lt_of_le h (Nat.pow_le_pow_right (by decide) (by decide)), fun i _ h1 h2 => by omega⟩
theorem few_sqW {b j w : Nat} (h2 : 2 ≤ b) (hw : w < 2 ^ 17000) (h : ∀ i, i < j → b ^ 2 ^ i ≤ w) : j ≤ 15 := by
  refine Decidable.byContradiction fun hn => ?_
  have h1 := h 15 (by omega)
  have h3 : 2 ^ 2 ^ 15 ≤ b ^ 2 ^ 15 := Nat.pow_le_pow_left h2 _
  have h4 := (Nat.pow_lt_pow_iff_right (by decide : 1 < 2)).mp (Nat.lt_of_le_of_lt (Nat.le_trans h3 h1) hw)
  exact absurd h4 (by decide)
inductive R_withinW : Rel
  | mk (b w k : Nat) (B : Bag) (h2 : 2 ≤ b) (hw : WhOk b w) (h1 : b ^ k ≤ w) (h3 : w < b ^ (k + 1)) : R_withinW [.da (.int b), .da (.int w)] B (.int k) B
inductive R_pbelowW : Rel
  | mk (b : Nat) (q : Rat) (k : Int) (B : Bag) (h2 : 2 ≤ b) (h0 : 0 < q) (hz : Bd 8999 q.num ∨ Bd 8999 (q.den : Int)) (w1 : WhOk b (q.num.toNat / q.den)) (w2 : WhOk b ((q.den - 1) / q.num.toNat)) (h1 : pw b k ≤ q) (h3 : q < pw b (k + 1)) :
      R_pbelowW [.da (.int b), .da (fq q)] B (.int k) B
inductive R_redW : Rel
  | mk (n d : Int) (B : Bag) (h : d ≠ 0) (hn : Bd 8900 n ∨ Bd 8900 d) : R_redW [.da (.int n), .da (.int d)] B (fq (n /. d)) B
inductive R_timesX : Rel
  | mk (n d m c : Nat) (x y : Rat) (B : Bag) (hx : Qz n d x) (hy : Qz m c y) (h1 : n ≤ 90000) (h2 : m ≤ 90000) (h3 : d ≤ 90000) (h4 : c ≤ 90000) (a1 : Bd 8900 x.num ∨ Bd 8900 (y.den : Int)) (a2 : Bd 8900 y.num ∨ Bd 8900 (x.den : Int)) : R_timesX [.da (fq x), .da (fq y)] B (fq (x * y)) B
noncomputable def dqQ (s c e : Int) : Rat := ((if s = 1 then -c else c : Int) : Rat) * pw 10 e
def dcD (s c e : Int) : PyData := .tuple [.int s, .int c, .int e]
inductive R_dworth : Rel
  | mk (s c e : Int) (B : Bag) (hs : s = 0 ∨ s = 1) (h0 : 0 ≤ c) (hc : Bd 8900 c) (h1 : -8000 ≤ e) (h2 : e ≤ 8000) : R_dworth [.da (dcD s c e)] B (fq (dqQ s c e)) B
inductive R_spotW : Rel
  | mk (b p : Nat) (low high : Int) (q : Rat) (n d : Nat) (B : Bag) (F : FmR b p low high) (h0 : 0 < q) (hq : Qz n d q) (hn : n ≤ 40000) (hd : d ≤ 40000) (hz : Bd 8999 q.num ∨ Bd 8999 (q.den : Int))
      (l1 : pw 10 (-((farN p low high : Nat) : Int)) ≤ q) (l2 : q < pw 10 (((farN p low high : Nat) : Int) + 1)) :
      R_spotW [.da (fmP b p low high), .da (fq q)] B (.tuple [.int (eQ b p low q), .int (cQ b (eQ b p low q) q), .int (pt (rQ b (eQ b p low q) q) (Dq b (eQ b p low q) q))]) B
inductive R_roundW : Rel
  | mk (b p : Nat) (low high : Int) (way : Str) (x : Rat) (s : Int) (n d : Nat) (B : Bag) (F : FmR b p low high) (hw : way ∈ wayList) (hs : s = 0 ∨ s = 1) (hx : Qz n d x) (hn : n ≤ 40000) (hd : d ≤ 40000) (hz : Bd 8999 x.num ∨ Bd 8999 (x.den : Int))
      (l1 : x ≠ 0 → pw 10 (-((farN p low high : Nat) : Int)) ≤ absQ x) (l2 : absQ x < pw 10 (((farN p low high : Nat) : Int) + 1)) :
      R_roundW [.da (fmP b p low high), .da (.str way), .da (fq x), .da (.int s)] B (rdP b p low high way x s) B
inductive R_nearestW : Rel
  | mk (b p : Nat) (low high : Int) (way : Str) (s e c part : Int) (B : Bag) (F : FmR b p low high) :
      R_nearestW [.da (fmP b p low high), .da (.str way), .da (.int s), .da (.tuple [.int e, .int c, .int part])] B (nm s (nb b p (outw way s c part) c e).1 (nb b p (outw way s c part) c e).2) B
inductive R_outcomeW : Rel
  | mk (b p : Nat) (low high : Int) (way : Str) (s e c part : Int) (B : Bag) (F : FmR b p low high) :
      R_outcomeW [.da (fmP b p low high), .da (.str way), .da (.int s), .da (.tuple [.int e, .int c, .int part])] B (outP b p high way s e c part) B
inductive R_toogW : Rel
  | mk (b p : Nat) (low high : Int) (way : Str) (s : Int) (B : Bag) (F : FmR b p low high) : R_toogW [.da (fmP b p low high), .da (.str way), .da (.int s)] B (tooG b p high way s) B
inductive R_read : Rel
  | mk (b p : Nat) (low high : Int) (way : Str) (s c e : Int) (B : Bag) (F : FmR b p low high) (hw : way ∈ wayList) (hs : s = 0 ∨ s = 1) (h0 : 0 ≤ c) (hc : Bd 8900 c) (h1 : Bd 60 e) :
      R_read [.da (fmP b p low high), .da (.str way), .da (dcD s c e)] B (rdP b p low high way (dqQ s c e) s) B
theorem com_bdN {n d : Int} {k : Nat} (hn : n ≠ 0) (b : Bd k n) : Bd k (com n d) := by
  have h1 : Nat.gcd n.natAbs d.natAbs ≤ n.natAbs := Nat.gcd_le_left _ (by omega)
  unfold Bd com at *; split <;> omega
theorem outP_far {b p : Nat} {high : Int} {way : Str} {s e c part : Int} (he : high < e) : outP b p high way s e c part = .tuple [tooG b p high way s, words ["inexact", "over"]] := by
  unfold outP
  have : high < (nb b p (outw way s c part) c e).2 := by
    unfold nb upN; split
    · split <;> simp <;> omega
    · exact he
  rw [if_pos this]
theorem rd_hi {b p : Nat} {low high : Int} (h2 : 2 ≤ b) {way : Str} {x : Rat} {s : Int} (hx : x ≠ 0) (h : pw b (p + high) ≤ absQ x) : rdP b p low high way x s = .tuple [tooG b p high way (sgn x), words ["inexact", "over"]] := by
  rw [rdP_pos hx]
  refine outP_far ?_
  have hE := eQ_is (p := p) h2 low (absQ x)
  refine Int.not_le.mp fun z => ?_
  have := pw_mono h2 (show (p : Int) + eQ b p low (absQ x) ≤ p + high by omega)
  exact Rat.not_lt.mpr (Rat.le_trans this h) hE.2.1
theorem rd_lo {b p : Nat} {low high : Int} (h2 : 2 ≤ b) {way : Str} {x : Rat} {s : Int} (hx : x ≠ 0) (h : 2 * absQ x < pw b low) : rdP b p low high way x s = outP b p high way (sgn x) low 0 1 := by
  have q0 := absQ_pos hx
  have hE : IsE b p low (absQ x) low := ⟨Int.le_refl _, by
    have h3 : absQ x < pw b low := by grind
    exact ltle h3 (pw_mono h2 (by omega)), .inl rfl⟩
  rw [rdP_pos hx, eQ_of h2 hE]
  generalize absQ x = q at *
  have D0 := Dq_pos h2 low q
  have v := q_val h2 low q
  have c0 := c_ge h2 (Rat.le_of_lt q0) low
  have t0 : 0 ≤ tQ b low q := by
    unfold tQ; rw [Rat.div_def]
    exact Rat.mul_nonneg (by exact_mod_cast r_ge h2 low q) (Rat.le_of_lt (Rat.inv_pos.mpr (Dq_posQ h2 low q)))
  have hc : cQ b low q = 0 := by
    refine Int.le_antisymm (Int.le_of_lt_add_one (Int.not_le.mp fun z => ?_)) c0
    have h1 : (1 : Rat) ≤ (cQ b low q : Rat) := by exact_mod_cast z
    have h3 : (1 : Rat) * pw b low ≤ ((cQ b low q : Rat) + tQ b low q) * pw b low := Rat.mul_le_mul_of_nonneg_right (by grind) (Rat.le_of_lt (pw_pos h2 low))
    rw [← v, Rat.one_mul] at h3
    grind
  rw [hc]
  have ht : ((2 : Nat) : Rat) * tQ b low q < ((1 : Int) : Rat) := by
    rw [hc] at v
    have h4 : 2 * tQ b low q * pw b low < 1 * pw b low := by
      have : 2 * tQ b low q * pw b low = 2 * (((0 : Int) : Rat) + tQ b low q) * pw b low := by grind
      rw [this, Rat.mul_assoc, ← v, Rat.one_mul]; exact h
    have := Rat.lt_of_mul_lt_mul_right h4 (Rat.le_of_lt (pw_pos h2 low))
    exact_mod_cast this
  have ht2 := (t_lt_iff h2 low q 1 2 (by decide)).mp ht
  have hr : rQ b low q ≠ 0 := fun z => by
    have : tQ b low q = 0 := by unfold tQ; rw [z, Rat.intCast_zero, Rat.div_def, Rat.zero_mul]
    rw [hc, this] at v
    rw [v] at q0
    have : ((0 : Int) : Rat) + 0 = 0 := by grind
    rw [this, Rat.zero_mul] at q0
    exact absurd q0 (by decide)
  have hp : pt (rQ b low q) (Dq b low q) = 1 := by
    unfold pt; rw [if_neg hr, if_pos (by omega)]
  rw [hp]
theorem pw_ten_ge {b : Nat} (h2 : 2 ≤ b) (h6 : b < 2 ^ 6) (m : Int) : pw b m ≤ pw 10 (2 * (m.natAbs : Int)) := by
  refine Rat.le_trans (pw_mono h2 (show m ≤ (m.natAbs : Int) by omega)) ?_
  rw [show 2 * (m.natAbs : Int) = ((2 * m.natAbs : Nat) : Int) by omega, pw_nat, pw_nat, Nat.pow_mul]
  exact Rat.natCast_le_natCast.mpr (Nat.pow_le_pow_left (by omega) _)
theorem pw_ten_le {b : Nat} (h2 : 2 ≤ b) (h6 : b < 2 ^ 6) (m : Int) : pw 10 (-(2 * (m.natAbs : Int))) ≤ pw b m := by
  have t1 := pw_ten_ge h2 h6 (-m)
  rw [Int.natAbs_neg] at t1
  have t2 : pw b m * pw b (-m) = 1 := by rw [← pw_add h2, show m + -m = 0 by omega, pw_zero]
  have t3 : pw 10 (-(2 * (m.natAbs : Int))) * pw 10 (2 * (m.natAbs : Int)) = 1 := by rw [← pw_add (by decide), show -(2 * (m.natAbs : Int)) + 2 * (m.natAbs : Int) = 0 by omega, pw_zero]
  generalize 2 * (m.natAbs : Int) = f at *
  have t4 : pw 10 (-f) * pw b m * pw b (-m) ≤ pw 10 (-f) * pw b m * pw 10 f := Rat.mul_le_mul_of_nonneg_left t1 (Rat.le_of_lt (Rat.mul_pos (pw_pos (by decide) _) (pw_pos h2 _)))
  have t5 : pw 10 (-f) * pw b m * pw b (-m) = pw 10 (-f) := by rw [Rat.mul_assoc, t2, Rat.mul_one]
  have t6 : pw 10 (-f) * pw b m * pw 10 f = pw b m := by
    calc pw 10 (-f) * pw b m * pw 10 f = (pw 10 (-f) * pw 10 f) * pw b m := by grind
      _ = _ := by rw [t3, Rat.one_mul]
  rw [t5, t6] at t4
  exact t4
section
variable {s c e : Int} (hs : s = 0 ∨ s = 1) (hc : 0 < c)
include hs hc
theorem dq_ne : dqQ s c e ≠ 0 := by
  unfold dqQ
  intro z
  have pe := pw_pos (b := 10) (by decide) e
  rcases Rat.mul_eq_zero.mp z with h | h
  · have : (if s = 1 then -c else c) = 0 := by exact_mod_cast h
    split at this <;> omega
  · rw [h] at pe; exact absurd pe (by decide)
theorem dq_abs : absQ (dqQ s c e) = (c : Rat) * pw 10 e := absQ_w (b := 10) (by decide) (s := s) (e := e) (by omega)
theorem dq_sgn : sgn (dqQ s c e) = s := by
  have h := can_sgn (b := 10) (by decide) (s := s) (c := c) (e := e) hs (by omega)
  have hn : (Va.num s c e).wQ 10 ≠ 0 := dq_ne hs hc
  rw [if_neg hn] at h
  exact h
theorem rd_clamp {b p : Nat} {low high : Int} (h2 : 2 ≤ b) (h6 : b < 2 ^ 6) {way : Str} {k : Int} (k1 : pw 10 k ≤ (c : Rat)) (k2 : (c : Rat) < pw 10 (k + 1)) :
    ((farN p low high : Int) < k + e → rdP b p low high way (dqQ s c e) s = rdP b p low high way (dqQ s 1 (farN p low high : Int)) s) ∧
    (k + e < -(farN p low high : Int) → rdP b p low high way (dqQ s c e) s = rdP b p low high way (dqQ s 1 (-(farN p low high : Int))) s) := by
  have pe := pw_pos (b := 10) (by decide) e
  have n1 := dq_ne hs hc (e := e)
  have s1 := dq_sgn hs hc (e := e)
  have a1 := dq_abs hs hc (e := e)
  refine ⟨fun h => ?_, fun h => ?_⟩
  · have n2 := dq_ne hs (show (0 : Int) < 1 by decide) (e := (farN p low high : Int))
    have s2 := dq_sgn hs (show (0 : Int) < 1 by decide) (e := (farN p low high : Int))
    have a2 := dq_abs hs (show (0 : Int) < 1 by decide) (e := (farN p low high : Int))
    have g : pw b (p + high) ≤ pw 10 (farN p low high : Int) := Rat.le_trans (pw_ten_ge h2 h6 _) (pw_mono (by decide) (by unfold farN; omega))
    have g1 : pw b (p + high) ≤ absQ (dqQ s c e) := by
      rw [a1]
      refine Rat.le_trans g (Rat.le_trans (pw_mono (by decide) (show (farN p low high : Int) ≤ k + e by omega)) ?_)
      rw [pw_add (by decide)]
      exact Rat.mul_le_mul_of_nonneg_right k1 (Rat.le_of_lt pe)
    have g2 : pw b (p + high) ≤ absQ (dqQ s 1 (farN p low high : Int)) := by
      rw [a2, show ((1 : Int) : Rat) = 1 from rfl, Rat.one_mul]; exact g
    rw [rd_hi h2 n1 g1, rd_hi h2 n2 g2, s1, s2]
  · have n2 := dq_ne hs (show (0 : Int) < 1 by decide) (e := -(farN p low high : Int))
    have s2 := dq_sgn hs (show (0 : Int) < 1 by decide) (e := -(farN p low high : Int))
    have a2 := dq_abs hs (show (0 : Int) < 1 by decide) (e := -(farN p low high : Int))
    have g : 2 * pw 10 (-(farN p low high : Int)) < pw b low := by
      refine ltle ?_ (pw_ten_le h2 h6 low)
      have m1 : pw 10 (-(farN p low high : Int) + 1) ≤ pw 10 (-(2 * (low.natAbs : Int))) := pw_mono (by decide) (by unfold farN; omega)
      have m2 : pw 10 (-(farN p low high : Int) + 1) = pw 10 (-(farN p low high : Int)) * 10 := by
        rw [pw_add (by decide)]; congr 1
      have m3 := pw_pos (b := 10) (by decide) (-(farN p low high : Int))
      grind
    have g1 : 2 * absQ (dqQ s c e) < pw b low := by
      rw [a1]
      have x1 : (c : Rat) * pw 10 e < pw 10 (k + 1) * pw 10 e := Rat.mul_lt_mul_of_pos_right k2 pe
      rw [← pw_add (by decide)] at x1
      have x2 : pw 10 (k + 1 + e) ≤ pw 10 (-(farN p low high : Int)) := pw_mono (by decide) (by omega)
      grind
    have g2 : 2 * absQ (dqQ s 1 (-(farN p low high : Int))) < pw b low := by
      rw [a2, show ((1 : Int) : Rat) = 1 from rfl, Rat.one_mul]; exact g
    rw [rd_lo h2 n1 g1, rd_lo h2 n2 g2, s1, s2]
end
theorem divpI {N D : Int} (h0 : 0 ≤ N) (hD : 0 < D) (h : N < D * ((2 ^ 3990 : Nat) : Int)) : CDivP N D := by
  obtain ⟨n, rfl⟩ : ∃ n : Nat, N = (n : Int) := ⟨N.toNat, by omega⟩
  obtain ⟨d, rfl⟩ : ∃ d : Nat, D = (d : Int) := ⟨D.toNat, by omega⟩
  refine divpW (by omega) (Nat.le_refl n) fun _ => ?_
  rw [← Int.natCast_mul] at h
  exact Int.ofNat_lt.mp h
theorem ten_big : 10 ^ 4901 < 2 ^ 16400 := by decide +kernel
section
variable {b p : Nat} {low high : Int} (F : FmR b p low high) {q : Rat}
include F
theorem FmR.e_ok {e : Int} (hE : IsE b p low q e) (l2 : q < pw 10 (((farN p low high : Nat) : Int) + 1)) : e ≤ 17000 ∧ b ^ e.toNat < 2 ^ 16400 := by
  have b2 := F.D.b2; have p2 := F.D.p2; have lo := F.D.lo; have hi := F.D.hi; have lh := F.D.lh; have fr := F.far; have bh := F.D.bh
  have tb := ten_big
  by_cases h0 : e ≤ 0
  · have : e.toNat = 0 := by omega
    rw [this, Nat.pow_zero]
    exact ⟨by omega, Nat.one_lt_two_pow (by decide)⟩
  by_cases hl : e = low
  · subst hl
    have b0 : 0 < b := by omega
    have u1 : b ^ e.toNat ≤ b ^ high.toNat := Nat.pow_le_pow_right b0 (by omega)
    have u3 : b ^ high.toNat ≤ b ^ p * b ^ high.toNat := Nat.le_mul_of_pos_left _ (Nat.pow_pos b0)
    have u4 : 10 ^ 400 < 2 ^ 16400 := by decide +kernel
    exact ⟨by omega, Nat.lt_of_le_of_lt (Nat.le_trans u1 (Nat.le_trans u3 bh)) u4⟩
  · have h3 : pw b (p + e - 1) ≤ q := hE.2.2.resolve_left hl
    have h4 : pw b ((e.toNat : Nat) : Int) < pw 10 ((4901 : Nat) : Int) := by
      refine lelt (Rat.le_trans (pw_mono b2 (show ((e.toNat : Nat) : Int) ≤ p + e - 1 by omega)) h3) (ltle l2 (pw_mono (by decide) (by omega)))
    rw [pw_nat, pw_nat] at h4
    have h5 : b ^ e.toNat < 10 ^ 4901 := Rat.natCast_lt_natCast.mp h4
    have h6 : b ^ e.toNat < 2 ^ 16400 := Nat.lt_trans h5 tb
    have h7 : 2 ^ e.toNat ≤ b ^ e.toNat := Nat.pow_le_pow_left b2 _
    have h8 : e.toNat < 16400 := (Nat.pow_lt_pow_iff_right (by decide)).mp (Nat.lt_of_le_of_lt h7 h6)
    exact ⟨by omega, h6⟩
theorem FmR.lo_ok {e : Int} (h : low ≤ e) : b ^ (-e).toNat < 2 ^ 4700 := by
  have u2 : b ^ (-e).toNat ≤ b ^ (-low).toNat := Nat.pow_le_pow_right (by have := F.D.b2; omega) (by omega)
  exact Nat.lt_of_le_of_lt (Nat.le_trans u2 F.D.bl) (by decide +kernel)
theorem FmR.wh {w : Nat} (h : w < 10 ^ (farN p low high + 2)) : WhOk b w := by
  have fr := F.far
  refine ⟨Nat.lt_trans h (Nat.lt_of_le_of_lt (Nat.pow_le_pow_right (by decide) (show farN p low high + 2 ≤ 4902 by omega)) (by decide +kernel)), fun i hi h1 h2 => Nat.lt_trans h (F.sq i hi h1 (Nat.le_of_lt (Nat.lt_of_le_of_lt h2 h)))⟩
theorem FmR.w1 (h0 : 0 < q) (l2 : q < pw 10 (((farN p low high : Nat) : Int) + 1)) : WhOk b (q.num.toNat / q.den) := by
  refine F.wh (Nat.lt_of_lt_of_le ((Nat.div_lt_iff_lt_mul q.den_pos).mpr ?_) (Nat.pow_le_pow_right (by decide) (show farN p low high + 1 ≤ farN p low high + 2 by omega)))
  have h := (lt_pw_iff (b := 10) (by decide) q 0 (farN p low high + 1)).mp (by rw [show ((farN p low high + 1 : Nat) : Int) - (0 : Nat) = ((farN p low high : Nat) : Int) + 1 by omega]; exact l2)
  rw [Nat.pow_zero] at h
  have n0 : 0 ≤ q.num := Rat.num_nonneg.mpr (Rat.le_of_lt h0)
  have h2 : (q.num.toNat : Int) < ((10 ^ (farN p low high + 1) * q.den : Nat) : Int) := by rw [Int.natCast_mul, Int.mul_comm]; omega
  exact Int.ofNat_lt.mp h2
theorem FmR.w2 (h0 : 0 < q) (l1 : pw 10 (-((farN p low high : Nat) : Int)) ≤ q) : WhOk b ((q.den - 1) / q.num.toNat) := by
  have n0 : 0 < q.num := by
    have : 0 ≤ q.num := Rat.num_nonneg.mpr (Rat.le_of_lt h0)
    have : q.num ≠ 0 := fun z => absurd h0 (by rw [Rat.num_eq_zero.mp z]; decide)
    omega
  refine F.wh (Nat.lt_of_lt_of_le ((Nat.div_lt_iff_lt_mul (show 0 < q.num.toNat by omega)).mpr ?_) (Nat.pow_le_pow_right (by decide) (show farN p low high ≤ farN p low high + 2 by omega)))
  have h := (pw_le_iff (b := 10) (by decide) q (farN p low high) 0).mp (by rw [show ((0 : Nat) : Int) - (farN p low high : Nat) = -((farN p low high : Nat) : Int) by omega]; exact l1)
  rw [Nat.pow_zero] at h
  have h2 : (q.den : Int) ≤ ((10 ^ farN p low high * q.num.toNat : Nat) : Int) := by
    rw [Int.natCast_mul, Int.mul_comm, Int.toNat_of_nonneg (by omega)]; omega
  have := Int.ofNat_le.mp h2
  have := q.den_pos
  omega
theorem FmR.divD {e : Int} (h0 : 0 < q) (hE : IsE b p low q e) : CDivP (Nq b e q) (Dq b e q) := by
  have b2 := F.D.b2
  have D0 := Dq_pos b2 e q
  have N0 : 0 ≤ Nq b e q := Int.mul_nonneg (Rat.num_nonneg.mpr (Rat.le_of_lt h0)) (Int.natCast_nonneg _)
  refine divpI N0 D0 ?_
  have c := c_lt b2 hE
  unfold cQ at c
  have h1 : Nq b e q < ((b ^ p : Nat) : Int) * Dq b e q := (Int.ediv_lt_iff_lt_mul D0).mp c
  have h2 : b ^ p ≤ 2 ^ 3990 := Nat.le_trans (Nat.le_of_lt F.D.bp) (Nat.pow_le_pow_right (by decide) (by decide))
  have h3 : ((b ^ p : Nat) : Int) * Dq b e q ≤ ((2 ^ 3990 : Nat) : Int) * Dq b e q := Int.mul_le_mul_of_nonneg_right (Int.ofNat_le.mpr h2) (Int.le_of_lt D0)
  rw [Int.mul_comm (Dq b e q)]
  omega
end
theorem abs_z {x : Rat} {n : Nat} (h : Bd n x.num ∨ Bd n (x.den : Int)) : Bd n (absQ x).num ∨ Bd n ((absQ x).den : Int) := by
  unfold absQ; split
  · rw [Rat.neg_num, Rat.neg_den]
    exact h.imp Bd.neg id
  · exact h
theorem ten_8000 : 10 ^ 8000 < 2 ^ 26600 := by decide +kernel
theorem ten_2680 : 2 ^ 8900 < 10 ^ 2680 := by decide +kernel
theorem ten_qzW {e : Int} (h1 : -8000 ≤ e) (h2 : e ≤ 8000) : Qz 26600 26600 (pw 10 e) := by
  have e1 := pw_num 10 (by decide) e
  have t : ∀ n : Nat, n ≤ 8000 → Bd 26600 ((10 ^ n : Nat) : Int) := fun n hn => by
    unfold Bd; rw [Int.natAbs_natCast]
    exact Nat.lt_of_le_of_lt (Nat.pow_le_pow_right (by decide) hn) ten_8000
  refine ⟨?_, ?_⟩
  · rw [e1.1]; exact t _ (by omega)
  · rw [e1.2]; exact t _ (by omega)
theorem dq_zero {s e : Int} : dqQ s 0 e = 0 := by
  unfold dqQ
  have : (if s = 1 then -(0 : Int) else 0) = 0 := by split <;> rfl
  rw [this, Rat.intCast_zero, Rat.zero_mul]
theorem dq_qz {s c e : Int} (hs : s = 0 ∨ s = 1) (h0 : 0 < c) (hc : Bd 8900 c) (h1 : -8000 ≤ e) (h2 : e ≤ 8000) : Qz 40000 40000 (dqQ s c e) ∧ (Bd 8999 (dqQ s c e).num ∨ Bd 8999 ((dqQ s c e).den : Int)) := by
  have hx : Qz 8900 1 (((if s = 1 then -c else c : Int)) : Rat) := by
    refine ⟨?_, by rw [Rat.den_intCast]; unfold Bd; decide⟩
    rw [Rat.num_intCast]
    split
    · exact hc.neg
    · exact hc
  refine ⟨(hx.mul (ten_qzW h1 h2)).le (by decide) (by decide), ?_⟩
  have e1 := pw_num 10 (by decide) e
  by_cases he : 0 ≤ e
  · right
    have t : Qz 26600 1 (pw 10 e) := ⟨(ten_qzW h1 h2).nu, by rw [e1.2, show (-e).toNat = 0 by omega]; unfold Bd; decide⟩
    exact (hx.mul t).de.le (by decide)
  · left
    have t : Qz 1 26600 (pw 10 e) := ⟨by rw [e1.1, show e.toNat = 0 by omega]; unfold Bd; decide, (ten_qzW h1 h2).de⟩
    exact (hx.mul t).nu.le (by decide)
theorem k_bound {c k : Int} (h0 : 0 < c) (hc : Bd 8900 c) (k1 : pw 10 k ≤ (c : Rat)) (k2 : (c : Rat) < pw 10 (k + 1)) : 0 ≤ k ∧ k ≤ 2680 := by
  obtain ⟨m, rfl⟩ : ∃ m : Nat, c = (m : Int) := ⟨c.toNat, by omega⟩
  unfold Bd at hc
  rw [Int.natAbs_natCast] at hc
  rw [Rat.intCast_natCast] at k1 k2
  have t := ten_2680
  refine ⟨Int.not_lt.mp fun z => ?_, Int.not_lt.mp fun z => ?_⟩
  · have a1 := ltle k2 (pw_mono (b := 10) (by decide) (show k + 1 ≤ ((0 : Nat) : Int) by omega))
    rw [pw_nat, Nat.pow_zero] at a1
    have := Rat.natCast_lt_natCast.mp a1
    omega
  · have a1 := Rat.le_trans (pw_mono (b := 10) (by decide) (show ((2680 : Nat) : Int) ≤ k by omega)) k1
    rw [pw_nat] at a1
    have := Rat.natCast_le_natCast.mp a1
    omega
end Lw
set_option exponentiation.threshold 200000
namespace Lw
open PySem PySem.Spec PyProof PyProof.Rows L2 Gd Fr
open scoped Rat
def ptT (t : Rat) : Int := if t = 0 then 0 else if 2 * t < 1 then 1 else if 2 * t = 1 then 2 else 3
section
variable {b p : Nat} (h2 : 2 ≤ b) (k : Int)
include h2
theorem pt_byT (e : Int) (q : Rat) : pt (rQ b e q) (Dq b e q) = ptT (tQ b e q) := by
  unfold pt ptT
  have z := t_zero h2 e q
  have l := t_lt_iff h2 e q 1 2 (by decide)
  have m := t_eq_iff h2 e q 1 2
  have o : ((1 : Int) : Rat) = 1 := rfl
  have w : ((2 : Nat) : Rat) = 2 := rfl
  rw [o, w] at l m
  have e1 : ((2 : Nat) : Int) = 2 := rfl
  rw [e1, Int.one_mul] at l m
  by_cases h0 : rQ b e q = 0
  · rw [if_pos h0, if_pos (z.mpr h0)]
  · rw [if_neg h0, if_neg (fun y => h0 (z.mp y))]
    by_cases h1 : 2 * rQ b e q < Dq b e q
    · rw [if_pos h1, if_pos (l.mpr h1)]
    · rw [if_neg h1, if_neg (fun y => h1 (l.mp y))]
      by_cases h3 : 2 * rQ b e q = Dq b e q
      · rw [if_pos h3, if_pos (m.mpr h3)]
      · rw [if_neg h3, if_neg (fun y => h3 (m.mp y))]
end
section
variable {b p : Nat} {low high : Int} (F : FmR b p low high)
include F
end
end Lw
set_option exponentiation.threshold 200000
namespace Lw
open PySem PySem.Spec PyProof PyProof.Rows L2 Gd Fr
open scoped Rat
def Post_tfr (_ : List VD) (_ : Bag) (r : PyData) (B' : Bag) : Prop := Bok B' ∧ ∃ (b p : Nat) (low high : Int), r = fmP b p low high ∧ FmR b p low high
def ndD (t : Int × Int) : PyData := .tuple [.int t.1, .int t.2]
def szP (b : Nat) (c e : Int) : Int × Int := (c * ((b ^ e.toNat : Nat) : Int), ((b ^ (-e).toNat : Nat) : Int))
def midP (x y : Int × Int) : Int × Int := (x.1 * y.2 + y.1 * x.2, 2 * x.2 * y.2)
def prvP (b p : Nat) (low c e : Int) : Int × Int := if ((b ^ (p - 1) : Nat) : Int) < c ∨ e = low then (c - 1, e) else (((b ^ p : Nat) : Int) - 1, e - 1)
def loP (b p : Nat) (low c e : Int) : Int × Int := midP (szP b c e) (szP b (prvP b p low c e).1 (prvP b p low c e).2)
def upP (b p : Nat) (c e : Int) : Int × Int := midP (szP b c e) (szP b (upN b p c e).1 (upN b p c e).2)
inductive R_lszW : Rel
  | mk (b p : Nat) (low high c e : Int) (B : Bag) (F : FmD b p low high) (h0 : 0 ≤ c) (h1 : c ≤ ((b ^ p : Nat) : Int)) (h2 : low ≤ e) (h3 : e ≤ high + 1) :
      R_lszW [.da (fmP b p low high), .da (.int c), .da (.int e)] B (ndD (szP b c e)) B
inductive R_lnext : Rel
  | mk (b p : Nat) (low high c e : Int) (B : Bag) (F : FmD b p low high) (h1 : c < ((b ^ p : Nat) : Int)) :
      R_lnext [.da (fmP b p low high), .da (.int c), .da (.int e)] B (ndD (upN b p c e)) B
inductive R_lends : Rel
  | mk (b p : Nat) (low high c e : Int) (B : Bag) (F : FmR b p low high) (h0 : 0 < c) (h1 : c < ((b ^ p : Nat) : Int)) (h2 : low ≤ e) (h3 : e ≤ high) :
      R_lends [.da (fmP b p low high), .da (.int c), .da (.int e)] B (.tuple [ndD (loP b p low c e), ndD (upP b p c e), .bool (decide (c % 2 = 0))]) B
structure SzOk (A C : Int) (t : Int × Int) : Prop where
  n0 : 0 ≤ t.1
  nA : t.1 ≤ A
  d1 : 1 ≤ t.2
  dC : t.2 ≤ C
structure NdOk (A C : Int) (t : Int × Int) : Prop where
  n0 : 0 < t.1
  d0 : 0 < t.2
  nb : t.1 ≤ 2 * (A * C)
  db : t.2 ≤ 2 * (C * C)
  q1 : t.2 ≤ t.1 * (2 * C)
  q2 : t.1 ≤ t.2 * A
theorem nd_self {A C : Int} {t : Int × Int} (h : SzOk A C t) (p : 0 < t.1) : NdOk A C t := by
  obtain ⟨n0, nA, d1, dC⟩ := h
  have c0 : 1 ≤ C := by omega
  have a0 : 1 ≤ A := by omega
  have h1 : A * 1 ≤ A * C := Int.mul_le_mul_of_nonneg_left c0 (by omega)
  have h2 : C * 1 ≤ C * C := Int.mul_le_mul_of_nonneg_left c0 (by omega)
  have h3 : 1 * (2 * C) ≤ t.1 * (2 * C) := Int.mul_le_mul_of_nonneg_right (by omega) (by omega)
  have h4 : 1 * A ≤ t.2 * A := Int.mul_le_mul_of_nonneg_right d1 (by omega)
  exact ⟨p, by omega, by omega, by omega, by omega, by omega⟩
theorem nd_mid {A C : Int} {x y : Int × Int} (hx : SzOk A C x) (hy : SzOk A C y) (p : 0 < x.1) : NdOk A C (midP x y) := by
  obtain ⟨x0, xA, x1, xC⟩ := hx
  obtain ⟨y0, yA, y1, yC⟩ := hy
  obtain ⟨a, u⟩ := x
  obtain ⟨b, v⟩ := y
  dsimp only at *
  have e1 : 1 * 1 ≤ a * v := Int.mul_le_mul (by omega) y1 (by omega) (by omega)
  have e2 : 0 ≤ b * u := Int.mul_nonneg y0 (by omega)
  have e3 : a * v ≤ A * C := Int.mul_le_mul xA yC (by omega) (by omega)
  have e4 : b * u ≤ A * C := Int.mul_le_mul yA xC (by omega) (by omega)
  have e5 : 1 * 1 ≤ u * v := Int.mul_le_mul x1 y1 (by omega) (by omega)
  have e6 : u * v ≤ C * C := Int.mul_le_mul xC yC (by omega) (by omega)
  have e7 : 2 * u * v = 2 * (u * v) := Int.mul_assoc ..
  have e8 : u * v ≤ C * (a * v) := by
    have h1 : u * v ≤ C * v := Int.mul_le_mul_of_nonneg_right xC (by omega)
    have h2 : C * (1 * v) ≤ C * (a * v) := Int.mul_le_mul_of_nonneg_left (Int.mul_le_mul_of_nonneg_right (by omega) (by omega)) (by omega)
    rw [Int.one_mul] at h2; omega
  have e9 : a * v ≤ A * (u * v) := by
    have h1 : a * v ≤ A * v := Int.mul_le_mul_of_nonneg_right xA (by omega)
    have h2 : A * (1 * v) ≤ A * (u * v) := Int.mul_le_mul_of_nonneg_left (Int.mul_le_mul_of_nonneg_right x1 (by omega)) (by omega)
    rw [Int.one_mul] at h2; omega
  have e10 : b * u ≤ A * (u * v) := by
    have h1 : b * u ≤ A * u := Int.mul_le_mul_of_nonneg_right yA (by omega)
    have h2 : A * (u * 1) ≤ A * (u * v) := Int.mul_le_mul_of_nonneg_left (Int.mul_le_mul_of_nonneg_left y1 (by omega)) (by omega)
    rw [Int.mul_one] at h2; omega
  have e11 : 0 ≤ C * (b * u) := Int.mul_nonneg (by omega) e2
  refine ⟨?_, ?_, ?_, ?_, ?_, ?_⟩
  · show 0 < a * v + b * u; omega
  · show 0 < 2 * u * v; omega
  · show a * v + b * u ≤ _; omega
  · show 2 * u * v ≤ _; omega
  · show 2 * u * v ≤ (a * v + b * u) * (2 * C)
    have : (a * v + b * u) * (2 * C) = 2 * (C * (a * v)) + 2 * (C * (b * u)) := by
      rw [Int.add_mul, Int.mul_left_comm (a * v) 2 C, Int.mul_left_comm (b * u) 2 C, Int.mul_comm (a * v) C, Int.mul_comm (b * u) C]
    omega
  · show a * v + b * u ≤ 2 * u * v * A
    have : 2 * u * v * A = 2 * (A * (u * v)) := by rw [Int.mul_assoc 2 u v, Int.mul_assoc, Int.mul_comm (u * v) A]
    omega
theorem FmD.p400 {b p : Nat} {low high : Int} (F : FmD b p low high) : p ≤ 400 := by
  have b2 := F.b2; have bp := F.bp
  refine Nat.le_of_not_lt fun z => ?_
  have := Nat.pow_le_pow_left b2 p
  have := Nat.pow_le_pow_right (show 0 < 2 by decide) (show 400 ≤ p by omega)
  omega
theorem pn_next {b p : Nat} {low high : Int} (F : FmD b p low high) {e : Int} (h : e ≤ high + 1) : Bd 1420 ((b ^ e.toNat : Nat) : Int) := by
  have b2 := F.b2; have b6 := F.b6
  have b0 : 0 < b := by omega
  have u1 : b ^ e.toNat ≤ b ^ (high.toNat + 1) := Nat.pow_le_pow_right b0 (by omega)
  have u3 : b ^ high.toNat ≤ b ^ p * b ^ high.toNat := Nat.le_mul_of_pos_left _ (Nat.pow_pos b0)
  have u4 := F.bh
  unfold Bd
  rw [Int.natAbs_natCast]
  rw [Nat.pow_succ] at u1
  have u5 : b ^ high.toNat * b ≤ 10 ^ 400 * 2 ^ 6 := Nat.mul_le_mul (Nat.le_trans u3 u4) (Nat.le_of_lt b6)
  exact Nat.lt_of_le_of_lt (Nat.le_trans u1 u5) (by decide +kernel)
def A4 : Int := ((10 ^ 400 : Nat) : Int)
def C13 : Int := ((10 ^ 1300 : Nat) : Int)
section
variable {b p : Nat} {low high : Int} (F : FmR b p low high)
include F
theorem sz_ok {c e : Int} (h0 : 0 ≤ c) (h2 : low ≤ e) (h : (c ≤ ((b ^ p : Nat) : Int) ∧ e ≤ high) ∨ (c = ((b ^ (p - 1) : Nat) : Int) ∧ e = high + 1)) : SzOk A4 C13 (szP b c e) := by
  have b2 := F.D.b2; have p2 := F.D.p2
  have b0 : 0 < b := by omega
  have bh : ((b ^ p : Nat) : Int) * ((b ^ high.toNat : Nat) : Int) ≤ A4 := by rw [← Int.natCast_mul]; exact Int.ofNat_le.mpr F.D.bh
  refine ⟨Int.mul_nonneg h0 (Int.natCast_nonneg _), ?_, ?_, ?_⟩
  · refine Int.le_trans ?_ bh
    show c * ((b ^ e.toNat : Nat) : Int) ≤ _
    rcases h with ⟨h, h'⟩ | ⟨rfl, rfl⟩
    · exact Int.mul_le_mul h (Int.ofNat_le.mpr (Nat.pow_le_pow_right b0 (by omega))) (Int.natCast_nonneg _) (Int.natCast_nonneg _)
    · rw [← Int.natCast_mul, ← Int.natCast_mul, ← Nat.pow_add, ← Nat.pow_add]
      exact Int.ofNat_le.mpr (Nat.pow_le_pow_right b0 (by omega))
  · have : 0 < b ^ (-e).toNat := Nat.pow_pos b0
    show 1 ≤ ((b ^ (-e).toNat : Nat) : Int); omega
  · show ((b ^ (-e).toNat : Nat) : Int) ≤ _
    refine Int.le_trans (Int.ofNat_le.mpr (Nat.pow_le_pow_right b0 (show (-e).toNat ≤ (-low).toNat by omega))) (Int.ofNat_le.mpr F.bl2)
theorem up_ok {c e : Int} (h0 : 0 ≤ c) (h1 : c < ((b ^ p : Nat) : Int)) (h2 : low ≤ e) (h3 : e ≤ high) : SzOk A4 C13 (szP b (upN b p c e).1 (upN b p c e).2) := by
  unfold upN
  split
  · refine sz_ok F (Int.natCast_nonneg _) (by show low ≤ e + 1; omega) ?_
    by_cases he : e = high
    · exact .inr ⟨rfl, by rw [he]⟩
    · refine .inl ⟨Int.ofNat_le.mpr (Nat.pow_le_pow_right (by have := F.D.b2; omega) (by omega)), by show e + 1 ≤ high; omega⟩
  · exact sz_ok F (by show 0 ≤ c + 1; omega) h2 (.inl ⟨by show c + 1 ≤ _; omega, h3⟩)
theorem up_rng {c e : Int} (h0 : 0 ≤ c) (h1 : c < ((b ^ p : Nat) : Int)) (h2 : low ≤ e) (h3 : e ≤ high) : 0 ≤ (upN b p c e).1 ∧ (upN b p c e).1 ≤ ((b ^ p : Nat) : Int) ∧ low ≤ (upN b p c e).2 ∧ (upN b p c e).2 ≤ high + 1 := by
  unfold upN
  split
  · exact ⟨Int.natCast_nonneg _, Int.ofNat_le.mpr (Nat.pow_le_pow_right (by have := F.D.b2; omega) (by omega)), by show low ≤ e + 1; omega, by show e + 1 ≤ high + 1; omega⟩
  · exact ⟨by show 0 ≤ c + 1; omega, by show c + 1 ≤ _; omega, h2, by omega⟩
theorem prv_le {c e : Int} (h0 : 0 < c) (h1 : c < ((b ^ p : Nat) : Int)) (h2 : low ≤ e) (h3 : e ≤ high) : 0 ≤ (prvP b p low c e).1 ∧ (prvP b p low c e).1 ≤ ((b ^ p : Nat) : Int) ∧ low ≤ (prvP b p low c e).2 ∧ (prvP b p low c e).2 ≤ high := by
  have : (1 : Int) ≤ ((b ^ p : Nat) : Int) := by omega
  unfold prvP
  split
  · exact ⟨by show 0 ≤ c - 1; omega, by show c - 1 ≤ _; omega, h2, h3⟩
  · next h => exact ⟨by show 0 ≤ _ - (1 : Int); omega, by show _ - (1 : Int) ≤ _; omega, by show low ≤ e - 1; omega, by show e - 1 ≤ high; omega⟩
theorem ends_ok {c e : Int} (h0 : 0 < c) (h1 : c < ((b ^ p : Nat) : Int)) (h2 : low ≤ e) (h3 : e ≤ high) : NdOk A4 C13 (szP b c e) ∧ NdOk A4 C13 (loP b p low c e) ∧ NdOk A4 C13 (upP b p c e) := by
  have s := sz_ok F (Int.le_of_lt h0) h2 (.inl ⟨Int.le_of_lt h1, h3⟩)
  have pos : 0 < (szP b c e).1 := Int.mul_pos h0 (Int.natCast_pos.mpr (Nat.pow_pos (by have := F.D.b2; omega)))
  obtain ⟨a1, a2, a3, a4⟩ := prv_le F h0 h1 h2 h3
  exact ⟨nd_self s pos, nd_mid s (sz_ok F a1 a3 (.inl ⟨a2, a4⟩)) pos, nd_mid s (up_ok F (Int.le_of_lt h0) h1 h2 h3) pos⟩
end
theorem a4_bd : A4 < ((2 ^ 1330 : Nat) : Int) := Int.ofNat_lt.mpr (by decide +kernel)
theorem c13_bd : C13 < ((2 ^ 4320 : Nat) : Int) := Int.ofNat_lt.mpr (by decide +kernel)
theorem bd_of {n : Nat} {i : Int} (h0 : 0 ≤ i) (h : i < ((2 ^ n : Nat) : Int)) : Bd n i := by unfold Bd; omega
theorem SzOk.bd {t : Int × Int} (h : SzOk A4 C13 t) : Bd 1330 t.1 ∧ Bd 4320 t.2 :=
  ⟨bd_of h.n0 (Int.lt_of_le_of_lt h.nA a4_bd), bd_of (Int.le_trans (by decide) h.d1) (Int.lt_of_le_of_lt h.dC c13_bd)⟩
theorem ac_bd : 2 * (A4 * C13) < ((2 ^ 5660 : Nat) : Int) := by
  unfold A4 C13
  rw [← Int.natCast_mul, show (2 : Int) = ((2 : Nat) : Int) from rfl, ← Int.natCast_mul]
  exact Int.ofNat_lt.mpr (by decide +kernel)
theorem cc_bd : 2 * (C13 * C13) < ((2 ^ 8640 : Nat) : Int) := by
  unfold C13
  rw [← Int.natCast_mul, show (2 : Int) = ((2 : Nat) : Int) from rfl, ← Int.natCast_mul]
  exact Int.ofNat_lt.mpr (by decide +kernel)
theorem NdOk.bd {t : Int × Int} (h : NdOk A4 C13 t) : Bd 5660 t.1 ∧ Bd 8640 t.2 :=
  ⟨bd_of (Int.le_of_lt h.n0) (Int.lt_of_le_of_lt h.nb ac_bd), bd_of (Int.le_of_lt h.d0) (Int.lt_of_le_of_lt h.db cc_bd)⟩
def stripN (q : Nat) : Nat → Nat → Nat × Nat
  | 0, d => (d, 0)
  | f + 1, d => if d % q = 0 then ((stripN q f (d / q)).1, (stripN q f (d / q)).2 + 1) else (d, 0)
theorem strip_stop {q f m : Nat} (h : ¬ m % q = 0) : stripN q f m = (m, 0) := by cases f with
  | zero => rfl
  | succ f => unfold stripN; rw [if_neg h]
theorem strip_pos {q : Nat} (hq : 2 ≤ q) : ∀ (f d : Nat), 0 < d → 0 < (stripN q f d).1
  | 0, d, h => h
  | f + 1, d, h => by
    unfold stripN
    split
    · next z => exact strip_pos hq f (d / q) (Nat.div_pos (Nat.le_of_dvd h (Nat.dvd_of_mod_eq_zero z)) (by omega))
    · exact h
theorem strip_le {q : Nat} (hq : 2 ≤ q) : ∀ (f d : Nat), (stripN q f d).1 ≤ d
  | 0, d => Nat.le_refl _
  | f + 1, d => by
    unfold stripN
    split
    · exact Nat.le_trans (strip_le hq f (d / q)) (Nat.div_le_self _ _)
    · exact Nat.le_refl _
end Lw
namespace Lw
open PySem PySem.Spec PyProof PyProof.Rows L2 Gd Fr
open scoped Rat
end Lw
namespace Gd
open PySem PySem.Spec PyProof.Rows L2
end Gd
namespace Gd
open PySem PySem.Spec PyProof.Rows L2
section
variable {X : Cx} {pins : List (Addr × Obj)} {σ : L2.St} {H : Hp} {s : Shared}
end
section
variable {X : Cx} {Γ : List VD} {B B1 B2 : Bag} {a b c elt : Expr} {scope : Scope} {pos p : Pos}
end
end Gd
namespace Gd
open PySem PySem.Spec PyProof.Rows L2
section
variable {X : Cx} {Γ : List VD} {B B1 B2 : Bag} {a b c e : Expr} {pos p pos' : Pos} {rest s1 : List Stmt} {E : En}
end
end Gd
set_option exponentiation.threshold 20000
namespace Lw
open PySem PySem.Spec PyProof PyProof.Rows L2 Gd Fr
open scoped Rat
end Lw
set_option exponentiation.threshold 20000
namespace Lw
open PySem PySem.Spec PyProof.Rows L2 Gd Fr
open scoped Rat
section
variable {X : Cx} {Γ : List VD} {B B1 B2 : Bag} {a b : Expr} {pos : Pos}
end
end Lw
namespace Lw
open PySem PySem.Spec PyProof.Rows L2 Gd Fr
theorem BN.le {n W n' W' : Nat} {d : PyData} (h : BN n W d) (e : n ≤ n') (f : W ≤ W') : BN n' W' d := ⟨h.ok, Nat.le_trans h.dp e, Nat.le_trans h.bk f⟩
structure BNA (n W : Nat) (ds : List PyData) : Prop where
  ok : bendA ds = true
  dp : PyData.depthAll ds ≤ n
  bk : PyData.bulkAll ds ≤ W
theorem BNA.nil {n W : Nat} : BNA n W [] := ⟨by simp only [bendA], by simp only [PyData.depthAll]; omega, by simp only [PyData.bulkAll]; omega⟩
theorem BNA.cons {n W W' : Nat} {d : PyData} {ds : List PyData} (h : BN n W d) (r : BNA n W' ds) : BNA n (W + 1 + W') (d :: ds) :=
  ⟨by simp only [bendA, Bool.and_eq_true]; exact ⟨h.ok, r.ok⟩, by have := h.dp; have := r.dp; simp only [PyData.depthAll]; omega, by have := h.bk; have := r.bk; simp only [PyData.bulkAll]; omega⟩
theorem BNA.of {n W : Nat} : ∀ {ds : List PyData} {k : Nat}, (∀ d ∈ ds, BN n W d) → ds.length ≤ k → BNA n (k * (W + 1)) ds
  | [], k, _, _ => BNA.nil
  | d :: ds, 0, _, h => by simp at h
  | d :: ds, k + 1, h, hl => by
    have a := BNA.cons (h d List.mem_cons_self) (BNA.of (k := k) (fun x hx => h x (List.mem_cons_of_mem _ hx)) (by simpa using hl))
    have e : (k + 1) * (W + 1) = k * (W + 1) + (W + 1) := Nat.succ_mul _ _
    exact ⟨a.ok, a.dp, by have := a.bk; omega⟩
end Lw
namespace Gd
open PySem PySem.Spec PyProof.Rows L2
section
variable {X : Cx} {Γ : List VD} {B B1 B2 : Bag} {a b : Expr} {pos p p' : Pos}
end
end Gd
namespace Lw
open PySem PySem.Spec PyProof.Rows L2 Gd Fr
end Lw
set_option exponentiation.threshold 20000
namespace Lw
open PySem PySem.Spec PyProof PyProof.Rows L2 Gd Fr
def strB : PyData → Bool
  | .str _ => true
  | _ => false
theorem strs_of : ∀ {ds : List PyData}, (∀ d ∈ ds, strB d = true) → ∃ ss : List Str, ds = ss.map .str
  | [], _ => ⟨[], rfl⟩
  | d :: ds, h => by
    obtain ⟨ss, e⟩ := strs_of (ds := ds) fun x hx => h x (List.mem_cons_of_mem _ hx)
    have h1 := h d List.mem_cons_self
    cases d with
    | str x => exact ⟨x :: ss, by rw [e]; rfl⟩
    | _ => cases h1
end Lw
namespace Lw
open PySem PySem.Spec PyProof PyProof.Rows L2 Gd Fr
end Lw
namespace Lw
open PySem PySem.Spec PyProof PyProof.Rows L2 Gd Fr
end Lw
namespace Lw
open PySem PySem.Spec PyProof PyProof.Rows L2 Gd Fr
end Lw
namespace Lw
open PySem PySem.Spec PyProof PyProof.Rows L2 Gd Fr
end Lw
namespace Lw
open PySem PySem.Spec PyProof PyProof.Rows L2 Gd Fr
theorem An.item {D W : Nat} {x y : PyData} (h : An D W (.tuple [x, y])) (e : W ≤ 1000) : LenOk y := by
  have h2 := h.dp
  cases D with
  | zero => simp only [PyData.depth] at h2; omega
  | succ D => exact ((An.tup_inv h).mem y (by simp)).len e
end Lw
set_option exponentiation.threshold 20000
namespace Lw
open PySem PySem.Spec PyProof PyProof.Rows L2 Gd Fr
end Lw
namespace Gd
open PySem PySem.Spec PyProof.Rows L2
section
variable {X : Cx} {Γ : List VD} {B B1 B2 : Bag} {a b : Expr} {pos : Pos}
end
section
variable {X : Cx} {Γ : List VD} {B B1 B2 : Bag} {a b c d : Expr} {pos : Pos} {ta tb tc td : TE}
end
end Gd
namespace Lw
open PySem PySem.Spec PyProof PyProof.Rows L2 Gd Fr
end Lw
namespace Lw
open PySem PySem.Spec PyProof PyProof.Rows L2 Gd Fr
end Lw
set_option exponentiation.threshold 20000
namespace Lw
open PySem PySem.Spec PyProof PyProof.Rows L2 Gd Fr
open scoped Rat
def psB (b p : Nat) : Nat := 2 * b ^ (p - 1)
structure PsN (b : Nat) (low : Int) (M : Nat) (x : Rat) : Prop where
  ex : ∃ N : Int, x = (N : Rat) * pw b low ∧ N.natAbs < M
theorem PsN.le {b M M' : Nat} {low : Int} {x : Rat} (h : PsN b low M x) (e : M ≤ M') : PsN b low M' x := by
  obtain ⟨N, h1, h2⟩ := h.ex
  exact ⟨N, h1, by omega⟩
theorem PsN.add {b M M' : Nat} {low : Int} {x y : Rat} (h : PsN b low M x) (k : PsN b low M' y) : PsN b low (M + M') (x + y) := by
  obtain ⟨N, h1, h2⟩ := h.ex
  obtain ⟨N', k1, k2⟩ := k.ex
  refine ⟨N + N', ?_, by have := Int.natAbs_add_le N N'; omega⟩
  rw [h1, k1, Rat.intCast_add]; grind
structure PsS (b p : Nat) (low : Int) (K : Nat) (x : Rat) : Prop where
  ex : ∃ N : Int, x = (N : Rat) * pw b low ∧ N.natAbs < psB b p ^ K ∧ N.natAbs < 2 ^ 3000
theorem PsS.zero {b p : Nat} {low : Int} {x : Rat} (h : PsS b p low 0 x) : x = 0 := by
  obtain ⟨N, h1, h2, _⟩ := h.ex
  have : N = 0 := by simp at h2; omega
  rw [h1, this, Rat.intCast_zero, Rat.zero_mul]
end Lw
set_option exponentiation.threshold 200000
namespace Lw
open PySem PySem.Spec PyProof PyProof.Rows L2 Gd Fr
open scoped Rat
section
variable {b p : Nat} {low high : Int} (F : FmR b p low high)
include F
end
end Lw
namespace Lw
open PySem PySem.Spec PyProof PyProof.Rows L2 Gd Fr
end Lw
namespace Lw
open PySem PySem.Spec PyProof PyProof.Rows L2 Gd Fr
open scoped Rat
end Lw
set_option exponentiation.threshold 200000
namespace Lw
open PySem PySem.Spec PyProof PyProof.Rows L2 Gd Fr
open scoped Rat
structure NdR (n d : Int) : Prop where
  n0 : 0 ≤ n
  d0 : 0 < d
  bn : Bd 19500 n
  bd : Bd 19500 d
  hz : Bd 7600 d ∨ n * ((2 ^ 400 : Nat) : Int) < d
inductive R_crossW : Rel
  | mk (a b c d : Int) (B : Bag) (h1 : Bd 90000 a) (h2 : Bd 90000 b) (h3 : Bd 90000 c) (h4 : Bd 90000 d) : R_crossW [.da (.tuple [.int a, .int b]), .da (.tuple [.int c, .int d])] B (.int (a * d - c * b)) B
inductive R_lszX : Rel
  | mk (b p : Nat) (low high c e : Int) (B : Bag) (F : FmD b p low high) (hc : Bd 401 c) (h2 : low ≤ e) (h3 : e ≤ 19999) (hb : Bd 20000 ((b ^ e.toNat : Nat) : Int)) :
      R_lszX [.da (fmP b p low high), .da (.int c), .da (.int e)] B (ndD (szP b c e)) B
section
variable {b p : Nat} {low high : Int} (h2 : 2 ≤ b)
include h2
end
section
variable {b p : Nat} {low high : Int} (F : FmR b p low high) {n d : Int} (N : NdR n d) {q : Rat} (h : (n : Rat) = q * (d : Rat))
include F N
include h
end
end Lw
namespace Lw
open PySem PySem.Spec PyProof PyProof.Rows L2 Gd Fr
open scoped Rat
theorem sz_val {b : Nat} (h2 : 2 ≤ b) (c e : Int) : ((szP b c e).1 : Rat) = (c : Rat) * pw b e * ((szP b c e).2 : Rat) := by
  unfold szP
  dsimp only
  have ep : pw b e * ((b ^ (-e).toNat : Nat) : Rat) = ((b ^ e.toNat : Nat) : Rat) := by
    rw [← pw_nat, ← pw_add h2, ← pw_nat]; congr 1; omega
  rw [Rat.intCast_mul, Rat.intCast_natCast, Rat.intCast_natCast, Rat.mul_assoc, ep]
theorem sz_pos {b : Nat} (h2 : 2 ≤ b) (c e : Int) : 0 < (szP b c e).2 := Int.natCast_pos.mpr (Nat.pow_pos (by omega))
theorem upn_val {b p : Nat} (h2 : 2 ≤ b) (hp : 2 ≤ p) {c e : Int} : (((upN b p c e).1 : Int) : Rat) * pw b (upN b p c e).2 = ((c : Rat) + 1) * pw b e := by
  unfold upN
  split
  · next h =>
    have e1 : ((b ^ (p - 1) : Nat) : Rat) * pw b (e + 1) = ((b ^ p : Nat) : Rat) * pw b e := by
      rw [← pw_nat, ← pw_nat, ← pw_add h2, ← pw_add h2]; congr 1; omega
    show (((b ^ (p - 1) : Nat) : Int) : Rat) * pw b (e + 1) = _
    rw [Rat.intCast_natCast, e1, ← cast_s, h, Rat.intCast_natCast]
  · show ((c + 1 : Int) : Rat) * pw b e = _
    rw [cast_s]
theorem upn_par {b p : Nat} (hp : 2 ≤ p) {c e : Int} : (upN b p c e).1 % 2 = 0 ↔ c % 2 = 1 := by
  unfold upN
  split
  · next h =>
    show ((b ^ (p - 1) : Nat) : Int) % 2 = 0 ↔ _
    have e1 : b ^ p = b ^ (p - 1) * b := by rw [← Nat.pow_succ]; congr 1; omega
    have e2 : b ^ (p - 1) = b ^ (p - 2) * b := by rw [← Nat.pow_succ]; congr 1; omega
    have m1 : b ^ p % 2 = (b ^ (p - 1) % 2) * (b % 2) % 2 := by rw [e1, Nat.mul_mod]
    have m2 : b ^ (p - 1) % 2 = (b ^ (p - 2) % 2) * (b % 2) % 2 := by rw [e2, Nat.mul_mod]
    have hb : b % 2 = 0 ∨ b % 2 = 1 := by omega
    rcases hb with hb | hb
    · rw [hb, Nat.mul_zero] at m1 m2
      generalize b ^ p = x at *
      generalize b ^ (p - 1) = y at *
      omega
    · rw [hb, Nat.mul_one] at m1
      generalize b ^ p = x at *
      generalize b ^ (p - 1) = y at *
      omega
  · show (c + 1) % 2 = 0 ↔ c % 2 = 1
    omega
end Lw
namespace Lw
open PySem PySem.Spec PyProof PyProof.Rows L2 Gd Fr
open scoped Rat
section
variable {b p : Nat} (h2 : 2 ≤ b) (hp : 2 ≤ p) {n d : Int} (d0 : 0 < d) {q : Rat} (h : (n : Rat) = q * (d : Rat))
include h2 d0 h
include hp
end
end Lw
namespace Lw
open PySem PySem.Spec PyProof PyProof.Rows L2 Gd Fr
open scoped Rat
def clE (c e : Int) : Int := if 0 < e then min e 4000 else max e (0 - 4000 - (dl c.toNat : Int))
inductive R_dsize : Rel
  | mk (c e : Int) (B : Bag) (h0 : 0 ≤ c) (cb : Bd 5900 c) (he : Bd 60 e) : R_dsize [.da (.int c), .da (.int e)] B (ndD (szP 10 c (clE c e))) B
theorem dl_le59 {c : Int} (h0 : 0 ≤ c) (cb : Bd 5900 c) : dl c.toNat ≤ 1777 := by
  unfold dl
  refine (Nat.length_repr_le_iff (by decide)).mpr ?_
  unfold Bd at cb
  have t : 2 ^ 5900 < 10 ^ 1777 := by decide +kernel
  exact Nat.lt_trans (show c.toNat < 2 ^ 5900 by omega) t
theorem cl_rng {c e : Int} (h0 : 0 ≤ c) (cb : Bd 5900 c) : -5777 ≤ clE c e ∧ clE c e ≤ 4000 := by
  have := dl_le59 h0 cb
  unfold clE
  split <;> omega
theorem cl_ndr {c e : Int} (h0 : 0 ≤ c) (cb : Bd 5900 c) : NdR (szP 10 c (clE c e)).1 (szP 10 c (clE c e)).2 := by
  obtain ⟨r1, r2⟩ := cl_rng h0 cb (e := e)
  generalize clE c e = k at *
  have p1 : ∀ m : Nat, m ≤ 4000 → Bd 13289 ((10 ^ m : Nat) : Int) := fun m hm => Bd.nat (Nat.lt_of_le_of_lt (Nat.pow_le_pow_right (by decide) hm) (by decide +kernel))
  have p2 : ∀ m : Nat, m ≤ 5777 → Bd 19192 ((10 ^ m : Nat) : Int) := fun m hm => Bd.nat (Nat.lt_of_le_of_lt (Nat.pow_le_pow_right (by decide) hm) (by decide +kernel))
  refine ⟨Int.mul_nonneg h0 (Int.natCast_nonneg _), sz_pos (by decide) _ _, (cb.mul (p1 _ (by omega))).le (by decide), (p2 _ (by omega)).le (by decide), ?_⟩
  by_cases h : (-k).toNat ≤ 2287
  · left
    exact Bd.nat (Nat.lt_of_le_of_lt (Nat.pow_le_pow_right (by decide) h) (by decide +kernel))
  · right
    show c * ((10 ^ k.toNat : Nat) : Int) * ((2 ^ 400 : Nat) : Int) < ((10 ^ (-k).toNat : Nat) : Int)
    rw [show k.toNat = 0 by omega, Nat.pow_zero, show ((1 : Nat) : Int) = 1 from rfl, Int.mul_one]
    unfold Bd at cb
    have e1 : c * ((2 ^ 400 : Nat) : Int) ≤ ((2 ^ 5900 : Nat) : Int) * ((2 ^ 400 : Nat) : Int) := Int.mul_le_mul_of_nonneg_right (by omega) (Int.natCast_nonneg _)
    refine Int.lt_of_le_of_lt e1 ?_
    rw [← Int.natCast_mul]
    exact Int.ofNat_lt.mpr (Nat.lt_of_lt_of_le (show 2 ^ 5900 * 2 ^ 400 < 10 ^ 2288 by decide +kernel) (Nat.pow_le_pow_right (by decide) (by omega)))
end Lw
set_option exponentiation.threshold 200000
namespace Lw
open PySem PySem.Spec PyProof PyProof.Rows L2 Gd Fr
open scoped Rat
section
variable {b p : Nat} {low high : Int} (F : FmD b p low high)
include F
end
theorem bool_nd (x : Bool) : Nd 1 0 (.bool x) := by cases x <;> exact ⟨by decide, by decide, by decide⟩
end Lw
namespace Gd
open PySem PySem.Spec PyProof.Rows L2
section
variable {X : Cx} {Γ : List VD} {B B1 B2 : Bag} {a b c e : Expr} {pos p pos' : Pos} {rest s1 : List Stmt} {E : En}
end
end Gd
set_option exponentiation.threshold 200000
namespace Lw
open PySem PySem.Spec PyProof PyProof.Rows L2 Gd Fr
open scoped Rat
theorem two_timesX : ∀ Γ B r B', R_two (· * ·) Γ B r B' → R_timesX Γ B r B' := by
  rintro _ _ _ _ ⟨n, d, m, c, x, y, B, hx, hy, h1, h2, h3⟩
  exact R_timesX.mk n d m c x y _ hx hy h1 h2 (by omega) (by omega) (.inr (hy.de.le (by omega))) (.inr (hx.de.le (by omega)))
theorem red_redW : ∀ Γ B r B', R_reduced Γ B r B' → R_redW Γ B r B' := by
  rintro _ _ _ _ ⟨n, d, B, h, hn⟩
  exact R_redW.mk n d _ h (.inr hn)
noncomputable def stLo (b p : Nat) (low c e : Int) : Rat := (c : Rat) * pw b e - (if low < e ∧ c = ((b ^ (p - 1) : Nat) : Int) then pw b e * (1 / 2) * ((b : Rat))⁻¹ else pw b e * (1 / 2))
noncomputable def stHi (b : Nat) (c e : Int) : Rat := (c : Rat) * pw b e + pw b e * (1 / 2)
structure NumC (b p : Nat) (low high s c e : Int) : Prop where
  D : NumD b p low high s c e
  c0 : 0 < c
  ca : e = low ∨ ((b ^ (p - 1) : Nat) : Int) ≤ c
def inSt (lo hi : Rat) (k : Bool) (q : Rat) : Bool := decide ((lo < q ∧ q < hi) ∨ (k = true ∧ lo ≤ q ∧ q ≤ hi))
inductive R_stretch : Rel
  | mk (b p : Nat) (low high s c e : Int) (B : Bag) (F : FmR b p low high) (N : NumC b p low high s c e) :
      R_stretch [.da (fmP b p low high), .da (Va.num s c e).d] B (.tuple [fq (stLo b p low c e), fq (stHi b c e), .bool (decide (c % 2 = 0))]) B
inductive R_lgcd : Rel
  | mk (a c : Nat) (B : Bag) : R_lgcd [.da (.int a), .da (.int c)] B (.int (Nat.gcd a c : Nat)) B
inductive R_lfrac : Rel
  | mk (n d : Int) (q : Rat) (B : Bag) (n0 : 0 ≤ n) (d0 : 0 < d) (h : (n : Rat) = q * (d : Rat)) (hb : Bd 8900 d) : R_lfrac [.da (.int n), .da (.int d)] B (fq q) B
inductive R_inst : Rel
  | mk (x y : Int × Int) (k : Bool) (n d : Int) (lo hi q : Rat) (B : Bag) (x0 : 0 < x.2) (y0 : 0 < y.2) (d0 : 0 < d) (hx : (x.1 : Rat) = lo * (x.2 : Rat)) (hy : (y.1 : Rat) = hi * (y.2 : Rat)) (h : (n : Rat) = q * (d : Rat))
      (b1 : Bd 90000 x.1) (b2 : Bd 90000 x.2) (b3 : Bd 90000 y.1) (b4 : Bd 90000 y.2) (b5 : Bd 90000 n) (b6 : Bd 90000 d) :
      R_inst [.da (.tuple [ndD x, ndD y, .bool k]), .da (.int n), .da (.int d)] B (.bool (inSt lo hi k q)) B
def Post_tnC (Γ : List VD) (_ : Bag) (r : PyData) (B' : Bag) : Prop := Bok B' ∧ ∀ (b p : Nat) (low high : Int), Γ = [.bag, .da (fmP b p low high)] → ∃ s c e : Int, r = (Va.num s c e).d ∧ NumC b p low high s c e
def Post_tcC (Γ : List VD) (_ : Bag) (r : PyData) (B' : Bag) : Prop := Bok B' ∧ ∀ (b p : Nat) (low high e : Int), Γ = [.bag, .da (fmP b p low high), .da (.int e)] → ∃ c : Int, r = .int c ∧ 1 ≤ c ∧ c < ((b ^ p : Nat) : Int) ∧ (e = low ∨ ((b ^ (p - 1) : Nat) : Int) ≤ c)
theorem mul_canR {x y z : Rat} (hz : z ≠ 0) (h : x * z = y * z) : x = y := by
  have := congrArg (· / z) h
  simp only [Rat.mul_div_cancel hz] at this
  exact this
theorem cmp_sgn {x d n v : Int} {u q : Rat} (d0 : 0 < d) (v0 : 0 < v) (hx : (x : Rat) = u * (v : Rat)) (h : (n : Rat) = q * (d : Rat)) : (0 < n * v - x * d ↔ u < q) ∧ (0 ≤ n * v - x * d ↔ u ≤ q) ∧ (0 < x * d - n * v ↔ q < u) ∧ (0 ≤ x * d - n * v ↔ q ≤ u) := by
  have K0 : (0 : Rat) < (d : Rat) * (v : Rat) := Rat.mul_pos (by exact_mod_cast d0) (by exact_mod_cast v0)
  have a : ((n * v : Int) : Rat) = q * ((d : Rat) * (v : Rat)) := by rw [Rat.intCast_mul, h]; grind
  have c : ((x * d : Int) : Rat) = u * ((d : Rat) * (v : Rat)) := by rw [Rat.intCast_mul, hx]; grind
  generalize n * v = N at *
  generalize x * d = X at *
  have l1 : X < N ↔ u < q := by rw [← cast_lt, a, c, Rat.mul_lt_mul_right K0]
  have l2 : N < X ↔ q < u := by rw [← cast_lt, a, c, Rat.mul_lt_mul_right K0]
  refine ⟨?_, ?_, ?_, ?_⟩
  · rw [← l1]; omega
  · rw [← Rat.not_lt, ← l2]; omega
  · rw [← l2]; omega
  · rw [← Rat.not_lt, ← l1]; omega
section
variable {b p : Nat} {low : Int} (h2 : 2 ≤ b) (hp : 2 ≤ p)
include h2
theorem mid_val {x y : Int × Int} {u v : Rat} (hx : (x.1 : Rat) = u * (x.2 : Rat)) (hy : (y.1 : Rat) = v * (y.2 : Rat)) : ((midP x y).1 : Rat) = ((u + v) * (1 / 2)) * ((midP x y).2 : Rat) := by
  unfold midP
  dsimp only
  rw [Rat.intCast_add, Rat.intCast_mul, Rat.intCast_mul, Rat.intCast_mul, Rat.intCast_mul, hx, hy]
  have : ((2 : Int) : Rat) = 2 := rfl
  rw [this]
  grind
include hp
theorem hi_val (c e : Int) : ((upP b p c e).1 : Rat) = stHi b c e * ((upP b p c e).2 : Rat) := by
  unfold upP
  have hy := sz_val h2 (upN b p c e).1 (upN b p c e).2
  rw [upn_val h2 hp] at hy
  rw [mid_val h2 (sz_val h2 c e) hy]
  congr 1
  unfold stHi
  grind
theorem prv_val {c e : Int} : (((prvP b p low c e).1 : Int) : Rat) * pw b (prvP b p low c e).2 = if ((b ^ (p - 1) : Nat) : Int) < c ∨ e = low then ((c : Rat) - 1) * pw b e else (((b ^ (p - 1) : Nat) : Int) : Rat) * pw b e - pw b (e - 1) := by
  unfold prvP
  by_cases h : ((b ^ (p - 1) : Nat) : Int) < c ∨ e = low
  · rw [if_pos h, if_pos h]
    dsimp only
    rw [Rat.intCast_sub]; rfl
  · rw [if_neg h, if_neg h]
    dsimp only
    have e1 : ((b ^ p : Nat) : Rat) * pw b (e - 1) = ((b ^ (p - 1) : Nat) : Rat) * pw b e := by
      rw [← pw_nat, ← pw_nat, ← pw_add h2, ← pw_add h2]; congr 1; omega
    rw [Rat.intCast_sub, Rat.intCast_natCast, Rat.intCast_natCast]
    have : ((1 : Int) : Rat) = 1 := rfl
    rw [this, ← e1]
    grind
theorem lo_val {c e : Int} (hl : low ≤ e) (ca : e = low ∨ ((b ^ (p - 1) : Nat) : Int) ≤ c) : ((loP b p low c e).1 : Rat) = stLo b p low c e * ((loP b p low c e).2 : Rat) := by
  unfold loP
  have hy := sz_val h2 (prvP b p low c e).1 (prvP b p low c e).2
  rw [prv_val h2 hp] at hy
  rw [mid_val h2 (sz_val h2 c e) hy]
  congr 1
  unfold stLo
  by_cases h : ((b ^ (p - 1) : Nat) : Int) < c ∨ e = low
  · rw [if_pos h, if_neg (by rintro ⟨h3, h4⟩; omega)]
    grind
  · have hc : c = ((b ^ (p - 1) : Nat) : Int) := by omega
    rw [if_neg h, if_pos ⟨by omega, hc⟩, ← hc]
    have e1 : pw b (e - 1) = pw b e * (b : Rat)⁻¹ := by
      have b0 : (b : Rat) ≠ 0 := fun z => by have := Rat.natCast_eq_zero_iff.mp z; omega
      have : pw b (e - 1) * (b : Rat) = pw b e := by
        have e2 : (b : Rat) = pw b ((1 : Nat) : Int) := by rw [pw_nat, Nat.pow_one]
        rw [e2, ← pw_add h2]; congr 1; omega
      rw [← this, Rat.mul_assoc, Rat.mul_inv_cancel _ b0, Rat.mul_one]
    rw [e1]
    grind
end
end Lw
namespace Lw
open PySem PySem.Spec PyProof PyProof.Rows L2 Gd Fr
open scoped Rat
section
variable {b p : Nat} {low : Int} (h2 : 2 ≤ b) (hp : 2 ≤ p)
include h2 hp
theorem spot_iff {c e : Int} {q : Rat} (q0 : 0 ≤ q) (hC : Can b p low c e) : (cQ b (eQ b p low q) q = c ∧ eQ b p low q = e) ↔ ((c : Rat) * pw b e ≤ q ∧ q < ((c : Rat) + 1) * pw b e) := by
  obtain ⟨a1, a2, a3, a4⟩ := hC
  have pe := pw_pos h2 e
  constructor
  · rintro ⟨rfl, rfl⟩
    exact ⟨c_le h2 _ _, c_up h2 _ _⟩
  · rintro ⟨k1, k2⟩
    have he : eQ b p low q = e := by
      refine eQ_of h2 ⟨a3, ?_, a4.imp id fun z => ?_⟩
      · refine ltle k2 ?_
        rw [pw_p h2, ← cast_s]
        exact Rat.mul_le_mul_of_nonneg_right (cast_le.mpr (by omega)) (Rat.le_of_lt pe)
      · rw [show (p : Int) + e - 1 = ((p - 1 : Nat) : Int) + e by omega, pw_p h2]
        exact Rat.le_trans (Rat.mul_le_mul_of_nonneg_right (cast_le.mpr z) (Rat.le_of_lt pe)) k1
    refine ⟨?_, he⟩
    rw [he]
    have hne : pw b e ≠ 0 := fun z => by rw [z] at pe; exact absurd pe (by decide)
    have e1 : q / pw b e * pw b e = q := Rat.div_mul_cancel hne
    refine (c_uniq h2 (s := q / pw b e - c) ?_ ?_ ?_).1
    · rw [show (c : Rat) + (q / pw b e - c) = q / pw b e by grind]; exact e1.symm
    · have : (c : Rat) ≤ q / pw b e := by
        refine Rat.le_of_mul_le_mul_right (a := (c : Rat)) (b := q / pw b e) (c := pw b e) ?_ pe
        rw [e1]; exact k1
      grind
    · have : q / pw b e < (c : Rat) + 1 := by
        rw [← Rat.mul_lt_mul_right pe, e1]; exact k2
      grind
theorem prv_can {c e : Int} (hC : Can b p low c e) (c0 : 0 < c) : Can b p low (prvP b p low c e).1 (prvP b p low c e).2 := by
  obtain ⟨a1, a2, a3, a4⟩ := hC
  have l1 : (2 : Int) ≤ ((b ^ (p - 1) : Nat) : Int) := by
    have : 2 ≤ b ^ (p - 1) := Nat.le_trans h2 (Nat.le_self_pow (by omega) b)
    omega
  have l2 : ((b ^ (p - 1) : Nat) : Int) * 2 ≤ ((b ^ p : Nat) : Int) := by
    have : b ^ p = b ^ (p - 1) * b := by rw [← Nat.pow_succ]; congr 1; omega
    have := Nat.mul_le_mul_left (b ^ (p - 1)) h2
    omega
  unfold prvP
  split
  · next h => exact ⟨by show 0 ≤ c - 1; omega, by show c - 1 < _; omega, a3, by show e = low ∨ _ ≤ c - 1; omega⟩
  · next h => exact ⟨by show 0 ≤ _ - (1 : Int); omega, by show _ - (1 : Int) < _; omega, by show low ≤ e - 1; omega, by show e - 1 = low ∨ _ ≤ _ - (1 : Int); omega⟩
theorem upn_prv {c e : Int} (hC : Can b p low c e) (c0 : 0 < c) : upN b p (prvP b p low c e).1 (prvP b p low c e).2 = (c, e) := by
  obtain ⟨a1, a2, a3, a4⟩ := hC
  unfold prvP upN
  by_cases h : ((b ^ (p - 1) : Nat) : Int) < c ∨ e = low
  · rw [if_pos h]
    dsimp only
    rw [if_neg (by omega)]
    exact Prod.ext (by show c - 1 + 1 = c; omega) rfl
  · rw [if_neg h]
    dsimp only
    rw [if_pos (by omega)]
    exact Prod.ext (by show ((b ^ (p - 1) : Nat) : Int) = c; omega) (by show e - 1 + 1 = e; omega)
theorem up_prv {c e c' e' : Int} (hC : Can b p low c e) (hC' : Can b p low c' e') (h : upN b p c' e' = (c, e)) : prvP b p low c e = (c', e') := by
  obtain ⟨a1, a2, a3, a4⟩ := hC
  obtain ⟨b1, b2, b3, b4⟩ := hC'
  unfold upN at h
  by_cases z : c' + 1 = ((b ^ p : Nat) : Int)
  · rw [if_pos z] at h
    have hc : ((b ^ (p - 1) : Nat) : Int) = c := congrArg Prod.fst h
    have he : e' + 1 = e := congrArg Prod.snd h
    unfold prvP
    rw [if_neg (by omega)]
    exact Prod.ext (by show _ - (1 : Int) = c'; omega) (by show e - 1 = e'; omega)
  · rw [if_neg z] at h
    have hc : c' + 1 = c := congrArg Prod.fst h
    have he : e' = e := congrArg Prod.snd h
    unfold prvP
    rw [if_pos (by omega)]
    exact Prod.ext (by show c - 1 = c'; omega) (by show e = e'; omega)
theorem round_iff {s c e : Int} {q : Rat} (q0 : 0 ≤ q) (hC : Can b p low c e) (c0 : 0 < c) : unN b p low "even" s q = (c, e) ↔ inSt (stLo b p low c e) (stHi b c e) (decide (c % 2 = 0)) q = true := by
  have pe := pw_pos h2 e
  have hP := prv_can h2 hp hC c0
  have uP := upn_prv h2 hp hC c0
  have sc := spot_iff h2 hp q0 hC
  have sp := spot_iff h2 hp q0 hP
  have lo' := lo_val h2 hp (c := c) (e := e) hC.2.2.1 hC.2.2.2
  have vP := upn_val h2 hp (c := (prvP b p low c e).1) (e := (prvP b p low c e).2)
  rw [uP] at vP
  dsimp only at vP
  have hlo : stLo b p low c e = ((c : Rat) * pw b e + ((prvP b p low c e).1 : Rat) * pw b (prvP b p low c e).2) * (1 / 2) := by
    have hy := sz_val h2 (prvP b p low c e).1 (prvP b p low c e).2
    have m := mid_val h2 (sz_val h2 c e) hy
    have d0 : ((midP (szP b c e) (szP b (prvP b p low c e).1 (prvP b p low c e).2)).2 : Rat) ≠ 0 := by
      have : (0 : Int) < (midP (szP b c e) (szP b (prvP b p low c e).1 (prvP b p low c e).2)).2 := Int.mul_pos (Int.mul_pos (by decide) (sz_pos h2 _ _)) (sz_pos h2 _ _)
      exact fun z => by
        have := Rat.intCast_eq_zero_iff.mp z
        omega
    unfold loP at lo'
    rw [m] at lo'
    exact (mul_canR d0 lo').symm
  have pp := pw_pos h2 (prvP b p low c e).2
  -- the two spots
  have spotOf : Can b p low (cQ b (eQ b p low q) q) (eQ b p low q) := spot_can h2 (by omega) q0 (eQ_is h2 low q)
  have qv := q_val h2 (eQ b p low q) q
  have t0 := t_ge h2 (eQ b p low q) q
  have t1 := t_lt1 h2 (eQ b p low q) q
  have hpt := pt_byT h2 (eQ b p low q) q
  unfold inSt
  rw [decide_eq_true_iff]
  have un : unN b p low "even" s q = nb b p (outw "even" s (cQ b (eQ b p low q) q) (ptT (tQ b (eQ b p low q) q))) (cQ b (eQ b p low q) q) (eQ b p low q) := by unfold unN; rw [hpt]
  rw [un]
  have par := upn_par hp (b := b) (c := (prvP b p low c e).1) (e := (prvP b p low c e).2)
  rw [uP] at par
  dsimp only at par
  have hev : (decide (c % 2 = 0) = true) ↔ c % 2 = 0 := decide_eq_true_iff
  rw [hev]
  unfold stHi
  rw [hlo]
  clear hpt un hlo lo' hev
  generalize tQ b (eQ b p low q) q = t at *
  generalize cQ b (eQ b p low q) q = C at *
  generalize eQ b p low q = E at *
  by_cases h1 : (c : Rat) * pw b e ≤ q ∧ q < ((c : Rat) + 1) * pw b e
  · -- it stands at (c, e)
    obtain ⟨ec, ee⟩ := sc.mpr h1
    have ec := ec.symm
    have ee := ee.symm
    subst ec
    subst ee
    have low1 : ((c : Rat) * pw b e + ((prvP b p low c e).1 : Rat) * pw b (prvP b p low c e).2) * (1 / 2) < q := by grind
    have k0 : nb b p (outw "even" s c (ptT t)) c e = (c, e) ↔ outw "even" s c (ptT t) = false := by
      cases outw "even" s c (ptT t) with
      | false => exact ⟨fun _ => rfl, fun _ => rfl⟩
      | true =>
        refine ⟨fun z => ?_, fun z => Bool.noConfusion z⟩
        have hv := upn_val h2 hp (c := c) (e := e)
        have z' : upN b p c e = (c, e) := z
        rw [z'] at hv
        dsimp only at hv
        exfalso; grind
    rw [k0]
    have ow : outw "even" s c (ptT t) = false ↔ (2 * t < 1 ∨ (2 * t = 1 ∧ c % 2 = 0)) := by
      by_cases hz : t = 0
      · subst hz
        have : ptT 0 = 0 := if_pos rfl
        rw [this]
        exact ⟨fun _ => .inl (by decide +kernel), fun _ => by unfold outw; rw [if_pos (.inl rfl)]⟩
      · have hk : ptT t ≠ 0 := by unfold ptT; rw [if_neg hz]; split; decide; split <;> decide
        rw [outw_even hk]
        unfold ptT
        rw [if_neg hz]
        by_cases a : 2 * t < 1
        · rw [if_pos a, if_neg (by decide)]
          exact ⟨fun _ => .inl a, fun _ => by decide⟩
        · rw [if_neg a]
          by_cases m : 2 * t = 1
          · rw [if_pos m, if_pos rfl, decide_eq_false_iff_not]
            constructor
            · intro z; exact .inr ⟨m, by omega⟩
            · rintro (z | z)
              · exact absurd z a
              · omega
          · rw [if_neg m, if_neg (by decide)]
            constructor
            · intro z; exact absurd z (by decide)
            · rintro (z | z)
              · exact absurd z a
              · exact absurd z.1 m
    rw [ow]
    have qe : q = ((c : Rat) + t) * pw b e := qv
    have m1 : 2 * t < 1 ↔ q < (c : Rat) * pw b e + pw b e * (1 / 2) := by
      have := Rat.mul_lt_mul_right (a := 2 * t) (b := 1) pe
      rw [← this]
      constructor <;> intro z <;> grind
    have m2 : 2 * t = 1 ↔ q = (c : Rat) * pw b e + pw b e * (1 / 2) := by
      constructor
      · intro z; have : t = 1 / 2 := by grind
        rw [qe, this]; grind
      · intro z
        have hh : (2 * t) * pw b e = 1 * pw b e := by grind
        have hne : pw b e ≠ 0 := fun z => by rw [z] at pe; exact absurd pe (by decide)
        exact mul_canR hne hh
    rw [m1, m2]
    generalize (c : Rat) * pw b e + pw b e * (1 / 2) = hi at *
    generalize ((c : Rat) * pw b e + ((prvP b p low c e).1 : Rat) * pw b (prvP b p low c e).2) * (1 / 2) = lo at *
    constructor
    · rintro (z | ⟨z, z'⟩)
      · exact .inl ⟨low1, z⟩
      · exact .inr ⟨z', Rat.le_of_lt low1, by rw [z]; exact Rat.le_refl⟩
    · rintro (⟨_, z⟩ | ⟨z', _, z⟩)
      · exact .inl z
      · by_cases w : q < hi
        · exact .inl w
        · exact .inr ⟨Rat.le_antisymm z (Rat.not_lt.mp w), z'⟩
  · by_cases h3 : ((prvP b p low c e).1 : Rat) * pw b (prvP b p low c e).2 ≤ q ∧ q < (((prvP b p low c e).1 : Rat) + 1) * pw b (prvP b p low c e).2
    · -- it stands just below
      obtain ⟨ec, ee⟩ := sp.mpr h3
      have ne : ¬ (C = c ∧ E = e) := fun z => h1 (sc.mp z)
      have ec := ec.symm
      have ee := ee.symm
      clear sc sp
      generalize hpv : prvP b p low c e = pv at *
      obtain ⟨c', e'⟩ := pv
      dsimp only at *
      subst ec
      subst ee
      have k0 : nb b p (outw "even" s c' (ptT t)) c' e' = (c, e) ↔ outw "even" s c' (ptT t) = true := by
        cases outw "even" s c' (ptT t) with
        | true => exact ⟨fun _ => rfl, fun _ => uP⟩
        | false =>
          refine ⟨fun z => ?_, fun z => Bool.noConfusion z⟩
          have z : (c', e') = (c, e) := z
          exact absurd ⟨congrArg Prod.fst z, congrArg Prod.snd z⟩ ne
      rw [k0]
      have ow : outw "even" s c' (ptT t) = true ↔ (1 < 2 * t ∨ (2 * t = 1 ∧ c % 2 = 0)) := by
        by_cases hz : t = 0
        · subst hz
          have : ptT 0 = 0 := if_pos rfl
          rw [this]
          refine ⟨fun z => ?_, fun z => ?_⟩
          · unfold outw at z; rw [if_pos (.inl rfl)] at z; exact Bool.noConfusion z
          · rcases z with z | z
            · exact absurd z (by decide +kernel)
            · exact absurd z.1 (by decide +kernel)
        · have hk : ptT t ≠ 0 := by unfold ptT; rw [if_neg hz]; split; decide; split <;> decide
          rw [outw_even hk]
          unfold ptT
          rw [if_neg hz]
          by_cases a : 2 * t < 1
          · rw [if_pos a, if_neg (by decide)]
            refine ⟨fun z => absurd z (by decide), ?_⟩
            rintro (z | z)
            · exfalso; grind
            · exfalso; grind
          · rw [if_neg a]
            by_cases m : 2 * t = 1
            · rw [if_pos m, if_pos rfl, decide_eq_true_iff, ← par]
              constructor
              · intro z; exact .inr ⟨m, z⟩
              · rintro (z | z)
                · exfalso; grind
                · exact z.2
            · rw [if_neg m, if_neg (by decide)]
              refine ⟨fun _ => .inl (by grind), fun _ => by decide⟩
      rw [ow]
      have qe : q = ((c' : Rat) + t) * pw b e' := qv
      have wv : (c : Rat) * pw b e = ((c' : Rat) + 1) * pw b e' := vP
      have up1 : q < (c : Rat) * pw b e + pw b e * (1 / 2) := by rw [wv]; grind
      have lv : ((c : Rat) * pw b e + (c' : Rat) * pw b e') * (1 / 2) = (c' : Rat) * pw b e' + pw b e' * (1 / 2) := by rw [wv]; grind
      rw [lv]
      have m1 : 1 < 2 * t ↔ (c' : Rat) * pw b e' + pw b e' * (1 / 2) < q := by
        have := Rat.mul_lt_mul_right (a := 1) (b := 2 * t) pp
        rw [← this]
        constructor <;> intro z <;> grind
      have m2 : 2 * t = 1 ↔ q = (c' : Rat) * pw b e' + pw b e' * (1 / 2) := by
        constructor
        · intro z; have : t = 1 / 2 := by grind
          rw [qe, this]; grind
        · intro z
          have hh : (2 * t) * pw b e' = 1 * pw b e' := by grind
          have hne : pw b e' ≠ 0 := fun z => by rw [z] at pp; exact absurd pp (by decide)
          exact mul_canR hne hh
      rw [m1, m2]
      generalize (c : Rat) * pw b e + pw b e * (1 / 2) = hi at *
      generalize (c' : Rat) * pw b e' + pw b e' * (1 / 2) = lo at *
      constructor
      · rintro (z | ⟨z, z'⟩)
        · exact .inl ⟨z, up1⟩
        · exact .inr ⟨z', by rw [z]; exact Rat.le_refl, Rat.le_of_lt up1⟩
      · rintro (⟨z, _⟩ | ⟨z', z, _⟩)
        · exact .inl z
        · by_cases w : lo < q
          · exact .inl w
          · exact .inr ⟨Rat.le_antisymm (Rat.not_lt.mp w) z, z'⟩
    · -- it stands elsewhere
      have wv : (c : Rat) * pw b e = (((prvP b p low c e).1 : Rat) + 1) * pw b (prvP b p low c e).2 := vP
      rw [← wv] at h3
      have n1 : ¬ nb b p (outw "even" s C (ptT t)) C E = (c, e) := by
        intro z
        generalize outw "even" s C (ptT t) = o at *
        cases o with
        | false =>
          have z : (C, E) = (c, e) := z
          exact h1 (sc.mp ⟨congrArg Prod.fst z, congrArg Prod.snd z⟩)
        | true =>
          have z : upN b p C E = (c, e) := z
          have := up_prv h2 hp hC spotOf z
          have k := sp.mp ⟨(congrArg Prod.fst this).symm, (congrArg Prod.snd this).symm⟩
          rw [← wv] at k
          exact h3 k
      refine ⟨fun z => absurd z n1, fun z => ?_⟩
      exfalso
      have pvlt : ((prvP b p low c e).1 : Rat) * pw b (prvP b p low c e).2 < (c : Rat) * pw b e := by rw [wv]; grind
      generalize ((prvP b p low c e).1 : Rat) * pw b (prvP b p low c e).2 = x at *
      have bnd : x < q ∧ q < ((c : Rat) + 1) * pw b e := by
        rcases z with ⟨k1, k2⟩ | ⟨_, k1, k2⟩
        · constructor <;> grind
        · constructor <;> grind
      by_cases hw : (c : Rat) * pw b e ≤ q
      · exact h1 ⟨hw, bnd.2⟩
      · exact h3 ⟨Rat.le_of_lt bnd.1, Rat.not_le.mp hw⟩
end
end Lw
namespace Lw
open PySem PySem.Spec PyProof PyProof.Rows L2 Gd Fr
open scoped Rat
theorem unN_rdV (b p : Nat) (low high : Int) (way : Str) (x : Rat) (s : Int) : rdV b p low high way x s = if high < (unN b p low way (if x = 0 then s else sgn x) (absQ x)).2 then (if isInf way (if x = 0 then s else sgn x) = true then .inf (if x = 0 then s else sgn x) else .num (if x = 0 then s else sgn x) (((b ^ p : Nat) : Int) - 1) high)
    else .num (if x = 0 then s else sgn x) (unN b p low way (if x = 0 then s else sgn x) (absQ x)).1 (unN b p low way (if x = 0 then s else sgn x) (absQ x)).2 := rfl
theorem back_iff {b p : Nat} {low high : Int} (F : FmR b p low high) {s c e cd ed : Int} (N : NumC b p low high s c e) (h0 : 0 ≤ cd) :
    decide (rdV b p low high "even" (dqQ s cd ed) s = .num s c e) = (decide (0 < cd) && inSt (stLo b p low c e) (stHi b c e) (decide (c % 2 = 0)) ((cd : Rat) * pw 10 ed)) := by
  have b2 := F.D.b2; have p2 := F.D.p2
  have hC : Can b p low c e := ⟨N.D.2.1, N.D.2.2.1, N.D.2.2.2.1, N.ca⟩
  have eh := N.D.2.2.2.2
  have s01 := N.D.1
  have c0 := N.c0
  by_cases hc : cd = 0
  · subst hc
    rw [decide_eq_false (show ¬ (0 : Int) < 0 by decide), Bool.false_and, decide_eq_false_iff_not]
    intro z
    have hz : rdV b p low high "even" (dqQ s 0 ed) s = .num s 0 low := by
      rw [dq_zero, unN_rdV, if_pos rfl, show absQ 0 = 0 by decide +kernel]
      have h1 : unN b p low "even" s 0 = (0, low) := by
        unfold unN
        rw [eQ_of b2 (isE_zero b2 low), (cQ_zero b low).1]
        have hp : pt (rQ b low 0) (Dq b low 0) = 0 := pt_zero.mpr (cQ_zero b low).2
        rw [hp, show outw "even" s 0 0 = false by unfold outw; rw [if_pos (.inl rfl)]]
        rfl
      rw [h1, if_neg (show ¬ high < low by have := F.D.lh; omega)]
    rw [hz] at z
    injection z with _ z _
    omega
  · have cp : 0 < cd := by omega
    rw [decide_eq_true cp, Bool.true_and]
    have q0 : 0 ≤ (cd : Rat) * pw 10 ed := Rat.mul_nonneg (by exact_mod_cast h0) (Rat.le_of_lt (pw_pos (by decide) ed))
    have ri := round_iff b2 p2 (s := s) q0 hC c0
    have hx : rdV b p low high "even" (dqQ s cd ed) s = .num s c e ↔ unN b p low "even" s ((cd : Rat) * pw 10 ed) = (c, e) := by
      rw [unN_rdV, if_neg (dq_ne s01 cp), dq_sgn s01 cp, dq_abs s01 cp]
      generalize unN b p low "even" s ((cd : Rat) * pw 10 ed) = u
      constructor
      · intro z
        by_cases h : high < u.2
        · rw [if_pos h, if_pos (show isInf "even" s = true by unfold isInf; rfl)] at z
          cases z
        · rw [if_neg h] at z
          injection z with _ z1 z2
          exact Prod.ext z1 z2
      · rintro rfl
        rw [if_neg (by show ¬ high < e; omega)]
    rw [decide_eq_decide.mpr hx]
    cases hh : inSt (stLo b p low c e) (stHi b c e) (decide (c % 2 = 0)) ((cd : Rat) * pw 10 ed) with
    | true => exact decide_eq_true (ri.mpr hh)
    | false => exact decide_eq_false fun z => by rw [ri.mp z] at hh; cases hh
section
variable {b p : Nat} {low high : Int} (F : FmR b p low high)
include F
theorem pnR {e : Int} (h1 : low ≤ e) (h2 : e ≤ high) : Qz 1330 4320 (pw b e) := by
  have e1 := pw_num b F.D.b2 e
  have s := (sz_ok F (c := 1) (by decide) h1 (.inl ⟨by have : 0 < b ^ p := Nat.pow_pos (by have := F.D.b2; omega); omega, h2⟩)).bd
  unfold szP at s
  dsimp only at s
  rw [Int.one_mul] at s
  exact ⟨by rw [e1.1]; exact s.1, by rw [e1.2]; exact s.2⟩
theorem sthalf_qz {e : Int} (h1 : low ≤ e) (h2 : e ≤ high) : Qz 1331 4322 (pw b e * (1 / 2)) ∧ Qz 1332 4329 (pw b e * (1 / 2) * (b : Rat)⁻¹) := by
  have hh : Qz 1 2 (1 / 2 : Rat) := ⟨by unfold Bd; decide +kernel, by unfold Bd; decide +kernel⟩
  have b6 := F.D.b6; have b2 := F.D.b2
  have hb : Qz 1 7 ((b : Rat)⁻¹) := by
    have e := fq_inv (show 0 < b by omega)
    unfold fq at e
    injection e with e
    injection e with e1 e
    injection e with e2 e
    injection e1 with e1
    injection e2 with e2
    exact ⟨by rw [e1]; unfold Bd; decide, by rw [e2]; unfold Bd; omega⟩
  have a := (pnR F h1 h2).mul hh
  exact ⟨a.le (by decide) (by decide), (a.mul hb).le (by decide) (by decide)⟩
theorem num_qz {c e : Int} (h0 : 0 ≤ c) (hc : c < ((b ^ p : Nat) : Int)) (h1 : low ≤ e) (h2 : e ≤ high) : Qz 1740 4321 ((c : Rat) * pw b e) := by
  have hx : Qz 400 1 (c : Rat) := by
    refine ⟨?_, by rw [Rat.den_intCast]; unfold Bd; decide⟩
    rw [Rat.num_intCast]; unfold Bd; have := F.D.bp; omega
  exact (hx.mul (pnR F h1 h2)).le (by decide) (by decide)
end
end Lw
namespace Lw
open PySem PySem.Spec PyProof PyProof.Rows L2 Gd Fr
open scoped Rat
inductive R_alikeX : Rel
  | mk (d : PyData) (B : Bag) (h : OkB d) (hb : boxed d = true ∨ (∃ b, d = .bool b)) : R_alikeX [.da d, .da d] B (.bool true) B
end Lw
set_option exponentiation.threshold 200000
namespace Lw
open PySem PySem.Spec PyProof PyProof.Rows L2 Gd Fr
open scoped Rat
theorem timesW_X : ∀ Γ B r B', R_timesW Γ B r B' → R_timesX Γ B r B' := by
  rintro _ _ _ _ ⟨n, d, m, c, x, y, B, hx, hy, h1, h2, h3, h4⟩
  exact R_timesX.mk n d m c x y _ hx hy h1 h2 (by omega) (by omega) (.inr (hy.de.le h4)) (.inr (hx.de.le h3))
theorem pb_W : ∀ Γ B r B', R_pbelow Γ B r B' → R_pbelowW Γ B r B' := by
  rintro _ _ _ _ ⟨b, q, k, n, d, B, h2, h0, hq, hn, hd, h1, h3⟩
  have n0 : 0 < q.num := by
    have : 0 ≤ q.num := Rat.num_nonneg.mpr (Rat.le_of_lt h0)
    have : q.num ≠ 0 := fun z => absurd h0 (by rw [Rat.num_eq_zero.mp z]; decide)
    omega
  have a := hq.nu.le hn
  have c := hq.de.le hd
  have ln : q.num.toNat < 2 ^ 8999 := by
    unfold Bd at a
    exact Nat.lt_of_lt_of_le (show q.num.toNat < 2 ^ 8900 by omega) (Nat.pow_le_pow_right (by decide) (by decide))
  have ld : q.den < 2 ^ 8999 := by
    unfold Bd at c
    rw [Int.natAbs_natCast] at c
    exact Nat.lt_of_lt_of_le c (Nat.pow_le_pow_right (by decide) (by decide))
  refine R_pbelowW.mk b q k _ h2 h0 (.inl (a.le (by decide))) (wh_small (Nat.lt_of_le_of_lt (Nat.div_le_self _ _) ln)) (wh_small (Nat.lt_of_le_of_lt (Nat.div_le_self _ _) (Nat.lt_of_le_of_lt (Nat.sub_le _ _) ld))) h1 h3
theorem strip_eq {q : Nat} (hq : 2 ≤ q) : ∀ (f d : Nat), 0 < d → d ≤ f → d = (stripN q f d).1 * q ^ (stripN q f d).2 ∧ ¬ (stripN q f d).1 % q = 0
  | 0, d, h, hf => by omega
  | f + 1, d, h, hf => by
    unfold stripN
    by_cases z : d % q = 0
    · rw [if_pos z]
      have dq : d = d / q * q := (Nat.div_mul_cancel (Nat.dvd_of_mod_eq_zero z)).symm
      have p0 : 0 < d / q := Nat.div_pos (Nat.le_of_dvd h (Nat.dvd_of_mod_eq_zero z)) (by omega)
      have lt : d / q < d := Nat.div_lt_self h (by omega)
      obtain ⟨e1, e2⟩ := strip_eq hq f (d / q) p0 (by omega)
      refine ⟨?_, e2⟩
      dsimp only
      rw [Nat.pow_succ, ← Nat.mul_assoc, ← e1]; exact dq
    · rw [if_neg z]
      exact ⟨by rw [Nat.pow_zero, Nat.mul_one], z⟩
theorem strip_one {m n j k : Nat} (h : m * 10 ^ j = n * 10 ^ k) (hm : ¬ m % 10 = 0) (hn : ¬ n % 10 = 0) : m = n ∧ j = k := by
  have key : ∀ {m n j k : Nat}, m * 10 ^ j = n * 10 ^ k → ¬ m % 10 = 0 → ¬ j < k := fun {m n j k} h hm z => by
    have e : n * 10 ^ k = (n * 10 ^ (k - j)) * 10 ^ j := by rw [Nat.mul_assoc, ← Nat.pow_add]; congr 2; omega
    rw [e] at h
    have h2 := Nat.eq_of_mul_eq_mul_right (Nat.pow_pos (by decide)) h
    apply hm
    rw [h2, show k - j = (k - j - 1) + 1 by omega, Nat.pow_succ, ← Nat.mul_assoc]
    exact Nat.mul_mod_left _ _
  have a := key h hm
  have c := key h.symm hn
  have e : j = k := by omega
  subst e
  exact ⟨Nat.eq_of_mul_eq_mul_right (Nat.pow_pos (by decide)) h, rfl⟩
def trP (s : Int) (c : Nat) (e : Int) : PyData := dcD s (stripN 10 c c).1 (e + (stripN 10 c c).2)
theorem trP_eq {s : Int} {c c' : Nat} {e e' : Int} (h0 : 0 < c) (h0' : 0 < c') (h : (c : Rat) * pw 10 e = (c' : Rat) * pw 10 e') : trP s c e = trP s c' e' := by
  obtain ⟨a1, a2⟩ := strip_eq (q := 10) (by decide) c c h0 (Nat.le_refl _)
  obtain ⟨b1, b2⟩ := strip_eq (q := 10) (by decide) c' c' h0' (Nat.le_refl _)
  unfold trP
  generalize stripN 10 c c = x at *
  generalize stripN 10 c' c' = y at *
  obtain ⟨m, j⟩ := x
  obtain ⟨n, k⟩ := y
  dsimp only at *
  have wl : ∀ (m j : Nat) (e z : Int), z ≤ e → ((m * 10 ^ j : Nat) : Rat) * pw 10 e = ((m * 10 ^ (j + (e - z).toNat) : Nat) : Rat) * pw 10 z := fun m j e z hz => by
    rw [Rat.natCast_mul, Rat.natCast_mul, ← pw_nat, ← pw_nat, Rat.mul_assoc, Rat.mul_assoc, ← pw_add (by decide), ← pw_add (by decide)]
    congr 2; omega
  have e1 : m * 10 ^ (j + (e - min e e').toNat) = n * 10 ^ (k + (e' - min e e').toNat) := by
    rw [a1, b1, wl m j e (min e e') (by omega), wl n k e' (min e e') (by omega)] at h
    have pz := pw_pos (b := 10) (by decide) (min e e')
    have := mul_canR (fun z => by rw [z] at pz; exact absurd pz (by decide)) h
    exact Rat.natCast_inj.mp this
  obtain ⟨r1, r2⟩ := strip_one e1 a2 b2
  subst r1
  have : e + (j : Int) = e' + (k : Int) := by omega
  rw [this]
inductive R_ltrim : Rel
  | mk (s : Int) (c : Nat) (e : Int) (B : Bag) (h : 0 < c) : R_ltrim [.da (dcD s c e)] B (trP s c e) B
end Lw
namespace Lw
open PySem PySem.Spec PyProof PyProof.Rows L2 Gd Fr
open scoped Rat
theorem mul_lt_one {x y z : Rat} (hz : 0 < z) (h : x * z < y * z) : x < y := (Rat.mul_lt_mul_right hz).mp h
section
variable {b p : Nat} {low high : Int} (F : FmR b p low high)
include F
end
end Lw
namespace Lw
open PySem PySem.Spec PyProof PyProof.Rows L2 Gd Fr
open scoped Rat
section
variable {b p : Nat} {low high : Int} (F : FmR b p low high)
include F
end
end Lw
set_option exponentiation.threshold 200000
namespace Lw
open PySem PySem.Spec PyProof PyProof.Rows L2 Gd Fr
open scoped Rat
def flQ (x : Rat) : Int := x.num / (x.den : Int)
def ceQ (x : Rat) : Int := -((-x.num) / (x.den : Int))
theorem le_fl {z : Int} {x : Rat} : z ≤ flQ x ↔ (z : Rat) ≤ x := by
  have dp := den_pos x
  have dq : (0 : Rat) < ((x.den : Int) : Rat) := by exact_mod_cast dp
  have hn := num_den x
  unfold flQ
  rw [Int.le_ediv_iff_mul_le dp, ← cast_le, Rat.intCast_mul, ← hn]
  exact ⟨fun h => Rat.le_of_mul_le_mul_right h dq, fun h => Rat.mul_le_mul_of_nonneg_right h (Rat.le_of_lt dq)⟩
theorem ce_le {z : Int} {x : Rat} : ceQ x ≤ z ↔ x ≤ (z : Rat) := by
  have h := le_fl (z := -z) (x := -x)
  unfold flQ at h
  rw [Rat.neg_num, Rat.neg_den] at h
  unfold ceQ
  have e : ((-z : Int) : Rat) = -(z : Rat) := Rat.intCast_neg z
  rw [e] at h
  constructor
  · intro k
    have := h.mp (by omega)
    grind
  · intro k
    have := h.mpr (by grind)
    omega
def fsQ (lo : Rat) (k : Bool) (e : Int) : Int := if k = true then ceQ (lo / pw 10 e) else flQ (lo / pw 10 e) + 1
def lsQ (hi : Rat) (k : Bool) (e : Int) : Int := if k = true then flQ (hi / pw 10 e) else ceQ (hi / pw 10 e) - 1
theorem div_ten {x y : Rat} (e : Int) : (x / pw 10 e ≤ y ↔ x ≤ y * pw 10 e) ∧ (y ≤ x / pw 10 e ↔ y * pw 10 e ≤ x) := by
  have pe := pw_pos (b := 10) (by decide) e
  have h : x / pw 10 e * pw 10 e = x := Rat.div_mul_cancel (ten_ne e)
  constructor
  · constructor
    · intro z; have := Rat.mul_le_mul_of_nonneg_right z (Rat.le_of_lt pe); rwa [h] at this
    · intro z; exact Rat.le_of_mul_le_mul_right (by rw [h]; exact z) pe
  · constructor
    · intro z; have := Rat.mul_le_mul_of_nonneg_right z (Rat.le_of_lt pe); rwa [h] at this
    · intro z; exact Rat.le_of_mul_le_mul_right (by rw [h]; exact z) pe
theorem mem_ms {lo hi : Rat} {k : Bool} {e q : Int} (lh : lo < hi) : (fsQ lo k e ≤ q ∧ q ≤ lsQ hi k e) ↔ inSt lo hi k ((q : Rat) * pw 10 e) = true := by
  unfold fsQ lsQ inSt
  rw [decide_eq_true_iff]
  cases k with
  | true =>
    rw [if_pos rfl, if_pos rfl, ce_le, le_fl, (div_ten e).1, (div_ten e).2]
    generalize (q : Rat) * pw 10 e = v
    constructor
    · rintro ⟨a, b⟩; exact .inr ⟨rfl, a, b⟩
    · rintro (⟨a, b⟩ | ⟨_, a, b⟩)
      · exact ⟨Rat.le_of_lt a, Rat.le_of_lt b⟩
      · exact ⟨a, b⟩
  | false =>
    rw [if_neg (by decide), if_neg (by decide)]
    have h1 : flQ (lo / pw 10 e) + 1 ≤ q ↔ lo < (q : Rat) * pw 10 e := by
      have : flQ (lo / pw 10 e) + 1 ≤ q ↔ ¬ q ≤ flQ (lo / pw 10 e) := by omega
      rw [this, le_fl, (div_ten e).2, Rat.not_le]
    have h2 : q ≤ ceQ (hi / pw 10 e) - 1 ↔ (q : Rat) * pw 10 e < hi := by
      have : q ≤ ceQ (hi / pw 10 e) - 1 ↔ ¬ ceQ (hi / pw 10 e) ≤ q := by omega
      rw [this, ce_le, (div_ten e).1, Rat.not_le]
    rw [h1, h2]
    exact ⟨fun h => .inl h, fun h => h.resolve_right fun z => Bool.noConfusion z.1⟩
theorem st_conv {lo hi x y z : Rat} {k : Bool} (hx : inSt lo hi k x = true) (hz : inSt lo hi k z = true) (h1 : x ≤ y) (h2 : y ≤ z) : inSt lo hi k y = true := by
  unfold inSt at *
  rw [decide_eq_true_iff] at *
  rcases hx with ⟨a1, a2⟩ | ⟨a0, a1, a2⟩
  · rcases hz with ⟨b1, b2⟩ | ⟨b0, b1, b2⟩
    · left; constructor <;> grind
    · right; exact ⟨b0, by grind, by grind⟩
  · right; refine ⟨a0, by grind, ?_⟩
    rcases hz with ⟨b1, b2⟩ | ⟨b0, b1, b2⟩ <;> grind
def hasM (lo hi : Rat) (k : Bool) (e : Int) : Prop := ∃ q : Int, inSt lo hi k ((q : Rat) * pw 10 e) = true
theorem hasM_iff {lo hi : Rat} {k : Bool} {e : Int} (lh : lo < hi) : hasM lo hi k e ↔ fsQ lo k e ≤ lsQ hi k e := by
  constructor
  · rintro ⟨q, hq⟩; have := (mem_ms lh).mpr hq; omega
  · intro h; exact ⟨fsQ lo k e, (mem_ms lh).mp ⟨Int.le_refl _, h⟩⟩
theorem has_down {lo hi : Rat} {k : Bool} {e e' : Int} (h : hasM lo hi k e) (he : e' ≤ e) : hasM lo hi k e' := by
  obtain ⟨q, hq⟩ := h
  refine ⟨q * ((10 ^ (e - e').toNat : Nat) : Int), ?_⟩
  have : ((q * ((10 ^ (e - e').toNat : Nat) : Int) : Int) : Rat) * pw 10 e' = (q : Rat) * pw 10 e := by
    rw [Rat.intCast_mul, Rat.intCast_natCast, ← pw_nat, Rat.mul_assoc, ← pw_add (by decide)]
    congr 2; omega
  rw [this]; exact hq
theorem has_width {lo hi : Rat} {k : Bool} {e : Int} (h : pw 10 e < hi - lo) : hasM lo hi k e := by
  refine ⟨flQ (lo / pw 10 e) + 1, ?_⟩
  unfold inSt
  refine decide_eq_true (.inl ⟨?_, ?_⟩)
  · have : ¬ (flQ (lo / pw 10 e) + 1 ≤ flQ (lo / pw 10 e)) := by omega
    rw [le_fl, (div_ten e).2, Rat.not_le] at this
    exact this
  · have : (flQ (lo / pw 10 e) : Rat) ≤ lo / pw 10 e := le_fl.mp (Int.le_refl _)
    rw [(div_ten e).2] at this
    rw [cast_s]
    generalize (flQ (lo / pw 10 e) : Rat) = f at *
    grind
theorem has_top {lo hi : Rat} {k : Bool} {e : Int} (l0 : 0 < lo) (h : hi < pw 10 e) : ¬ hasM lo hi k e := by
  rintro ⟨q, hq⟩
  unfold inSt at hq
  rw [decide_eq_true_iff] at hq
  have pe := pw_pos (b := 10) (by decide) e
  have bnd : lo ≤ (q : Rat) * pw 10 e ∧ (q : Rat) * pw 10 e ≤ hi := by
    rcases hq with ⟨a, b⟩ | ⟨_, a, b⟩
    · exact ⟨Rat.le_of_lt a, Rat.le_of_lt b⟩
    · exact ⟨a, b⟩
  have q1 : 1 ≤ q := by
    refine Int.not_lt.mp fun z => ?_
    have : (q : Rat) * pw 10 e ≤ ((0 : Int) : Rat) * pw 10 e := Rat.mul_le_mul_of_nonneg_right (cast_le.mpr (by omega)) (Rat.le_of_lt pe)
    rw [Rat.intCast_zero, Rat.zero_mul] at this
    grind
  have : ((1 : Int) : Rat) * pw 10 e ≤ (q : Rat) * pw 10 e := Rat.mul_le_mul_of_nonneg_right (cast_le.mpr q1) (Rat.le_of_lt pe)
  rw [show ((1 : Int) : Rat) = 1 from rfl, Rat.one_mul] at this
  grind
theorem has_great {lo hi : Rat} {k : Bool} {e0 : Int} (l0 : 0 < lo) (h0 : hasM lo hi k e0) : ∃ G, e0 ≤ G ∧ hasM lo hi k G ∧ ¬ hasM lo hi k (G + 1) := by
  have step : ∀ n : Nat, (∃ G, e0 ≤ G ∧ hasM lo hi k G ∧ ¬ hasM lo hi k (G + 1)) ∨ hasM lo hi k (e0 + n) := by
    intro n
    induction n with
    | zero => right; rw [show e0 + ((0 : Nat) : Int) = e0 by omega]; exact h0
    | succ n ih =>
      rcases ih with ih | ih
      · exact .inl ih
      · by_cases h : hasM lo hi k (e0 + n + 1)
        · right; rw [show e0 + ((n + 1 : Nat) : Int) = e0 + n + 1 by omega]; exact h
        · exact .inl ⟨e0 + n, by omega, ih, h⟩
  by_cases hp : 0 < hi
  · obtain ⟨t, t1, t2⟩ := log_ex (b := 10) (by decide) hp
    rcases step (t + 1 - e0).toNat with h | h
    · exact h
    · exact absurd (has_down h (show t + 1 ≤ e0 + ((t + 1 - e0).toNat : Int) by omega) |> fun z => z) (has_top l0 t2)
  · exfalso
    obtain ⟨q, hq⟩ := h0
    unfold inSt at hq
    rw [decide_eq_true_iff] at hq
    rcases hq with ⟨a, b⟩ | ⟨_, a, b⟩ <;> grind
def shE (w : Rat) (G : Int) : Int := if w < pw 10 G then G - 1 else G
def shX (lo hi w : Rat) (k : Bool) (E : Int) : Int := min (max (ceQ (w / pw 10 E - 1 / 2)) (fsQ lo k E)) (lsQ hi k E)
theorem dl_iff {n m : Nat} (hm : 0 < m) : dl n ≤ m ↔ n < 10 ^ m := Nat.length_repr_le_iff hm
theorem strip_dl {X m : Nat} (h0 : 0 < X) (hm : 0 < m) (h : X ≤ 10 ^ m) : dl (stripN 10 X X).1 ≤ m := by
  by_cases hx : X = 10 ^ m
  · obtain ⟨e1, e2⟩ := strip_eq (q := 10) (by decide) X X h0 (Nat.le_refl _)
    have : (stripN 10 X X).1 = 1 ∧ (stripN 10 X X).2 = m := by
      refine strip_one (n := 1) (k := m) ?_ e2 (by decide)
      rw [← e1, hx, Nat.one_mul]
    rw [this.1]
    exact Nat.le_trans (show dl 1 ≤ 1 by decide +kernel) hm
  · rw [dl_iff hm]
    exact Nat.lt_of_le_of_lt (strip_le (by decide) X X) (by omega)
section
variable {lo hi w : Rat} {k : Bool} {G : Int} (l0 : 0 < lo) (lw : lo < w) (wh : w < hi) (hG : hasM lo hi k G) (hG1 : ¬ hasM lo hi k (G + 1))
include l0 lw wh hG
theorem sh_in : 0 < shX lo hi w k (shE w G) ∧ inSt lo hi k ((shX lo hi w k (shE w G) : Rat) * pw 10 (shE w G)) = true := by
  have lh : lo < hi := ltle lw (Rat.le_of_lt wh)
  have hE : hasM lo hi k (shE w G) := has_down hG (by unfold shE; split <;> omega)
  have hf := (hasM_iff lh).mp hE
  have m : inSt lo hi k ((shX lo hi w k (shE w G) : Rat) * pw 10 (shE w G)) = true := (mem_ms lh).mp (by unfold shX; omega)
  refine ⟨?_, m⟩
  generalize shX lo hi w k (shE w G) = X at *
  refine Int.not_le.mp fun z => ?_
  have pe := pw_pos (b := 10) (by decide) (shE w G)
  have : (X : Rat) * pw 10 (shE w G) ≤ ((0 : Int) : Rat) * pw 10 (shE w G) := Rat.mul_le_mul_of_nonneg_right (cast_le.mpr z) (Rat.le_of_lt pe)
  rw [Rat.intCast_zero, Rat.zero_mul] at this
  unfold inSt at m
  rw [decide_eq_true_iff] at m
  rcases m with ⟨a, b⟩ | ⟨_, a, b⟩ <;> grind
theorem w_in : inSt lo hi k w = true := by unfold inSt; exact decide_eq_true (.inl ⟨lw, wh⟩)
theorem sh_le {E : Int} {N : Int} (hN : w ≤ (N : Rat) * pw 10 E) (hE : hasM lo hi k E) : shX lo hi w k E ≤ N := by
  have lh : lo < hi := ltle lw (Rat.le_of_lt wh)
  have wi := w_in l0 lw wh hG
  have near : ceQ (w / pw 10 E - 1 / 2) ≤ N := by
    rw [ce_le]
    have := (div_ten (x := w) (y := (N : Rat)) E).1.mpr hN
    grind
  have fs : fsQ lo k E ≤ N := by
    refine Int.not_lt.mp fun z => ?_
    have hf := (hasM_iff lh).mp hE
    have m := (mem_ms (q := fsQ lo k E) lh).mp ⟨Int.le_refl _, hf⟩
    have le : (N : Rat) * pw 10 E ≤ (fsQ lo k E : Rat) * pw 10 E := Rat.mul_le_mul_of_nonneg_right (cast_le.mpr (by omega)) (Rat.le_of_lt (pw_pos (by decide) E))
    have := (mem_ms lh).mpr (st_conv wi m hN le)
    omega
  unfold shX
  omega
include hG1
theorem sh_few {q : Nat} {j : Int} (q0 : 0 < q) (hq : inSt lo hi k ((q : Rat) * pw 10 j) = true) : dl (stripN 10 (shX lo hi w k (shE w G)).toNat (shX lo hi w k (shE w G)).toNat).1 ≤ dl q := by
  have w0 : 0 < w := ltle l0 (Rat.le_of_lt lw)
  obtain ⟨x0, _⟩ := sh_in l0 lw wh hG
  have wi := w_in l0 lw wh hG
  obtain ⟨t, t1, t2⟩ := log_ex (b := 10) (by decide) w0
  have m1 := dl_pos q
  have qlt := lt_dl q
  -- a multiple of a great power of ten is in the stretch
  have hm : hasM lo hi k (t + 1 - dl q) := by
    by_cases hj : t + 1 - (dl q : Int) ≤ j
    · refine ⟨((q * 10 ^ (j - (t + 1 - dl q)).toNat : Nat) : Int), ?_⟩
      have : (((q * 10 ^ (j - (t + 1 - dl q)).toNat : Nat) : Int) : Rat) * pw 10 (t + 1 - dl q) = (q : Rat) * pw 10 j := by
        rw [Rat.intCast_natCast, Rat.natCast_mul, ← pw_nat, Rat.mul_assoc, ← pw_add (by decide)]
        congr 2; omega
      rw [this]; exact hq
    · refine ⟨((10 ^ (dl q - 1) : Nat) : Int), ?_⟩
      have e1 : (((10 ^ (dl q - 1) : Nat) : Int) : Rat) * pw 10 (t + 1 - dl q) = pw 10 t := by
        rw [Rat.intCast_natCast, ← pw_nat, ← pw_add (by decide)]; congr 1; omega
      rw [e1]
      refine st_conv hq wi ?_ t1
      have : (q : Rat) * pw 10 j ≤ ((10 ^ dl q : Nat) : Rat) * pw 10 j := Rat.mul_le_mul_of_nonneg_right (Rat.natCast_le_natCast.mpr (Nat.le_of_lt qlt)) (Rat.le_of_lt (pw_pos (by decide) j))
      rw [← pw_nat, ← pw_add (by decide)] at this
      exact Rat.le_trans this (pw_mono (by decide) (by omega))
  have gm : t + 1 - dl q ≤ G := Int.not_lt.mp fun z => hG1 (has_down hm (by omega))
  generalize hX : shX lo hi w k (shE w G) = X at *
  by_cases hw : w < pw 10 G
  · have hE : shE w G = G - 1 := by unfold shE; rw [if_pos hw]
    rw [hE] at hX
    have up : X ≤ 10 := by
      rw [← hX]
      refine sh_le l0 lw wh hG (N := 10) ?_ (has_down hG (by omega))
      have : ((10 : Int) : Rat) * pw 10 (G - 1) = pw 10 G := by
        have e : ((10 : Int) : Rat) = pw 10 ((1 : Nat) : Int) := by rw [pw_nat]; rfl
        rw [e, ← pw_add (by decide)]; congr 1; omega
      rw [this]; exact Rat.le_of_lt hw
    exact Nat.le_trans (strip_dl (m := 1) (by omega) (by decide) (by omega)) m1
  · have hE : shE w G = G := by unfold shE; rw [if_neg hw]
    rw [hE] at hX
    have gt : G ≤ t := Int.not_lt.mp fun z => hw (ltle t2 (pw_mono (by decide) (by omega)))
    have up : X ≤ ((10 ^ (t + 1 - G).toNat : Nat) : Int) := by
      rw [← hX]
      refine sh_le l0 lw wh hG ?_ hG
      rw [Rat.intCast_natCast, ← pw_nat, ← pw_add (by decide), show ((t + 1 - G).toNat : Int) + G = t + 1 by omega]
      exact Rat.le_of_lt t2
    refine Nat.le_trans (strip_dl (m := (t + 1 - G).toNat) (by omega) (by omega) (by omega)) (by omega)
end
end Lw
namespace Lw
open PySem PySem.Spec PyProof PyProof.Rows L2 Gd Fr
open scoped Rat
section
variable {b p : Nat} {low high s c e : Int} (F : FmR b p low high) (N : NumC b p low high s c e)
include F N
theorem st_bds : Qz 1750 4332 (stLo b p low c e) ∧ Qz 1750 4332 (stHi b c e) := by
  have b2 := F.D.b2; have b6 := F.D.b6
  have el := N.D.2.2.2.1; have eh := N.D.2.2.2.2
  have cb := N.D.2.2.1; have c0 := N.c0; have bp := F.D.bp
  obtain ⟨hq, hbq⟩ := sthalf_qz F el eh
  have b0 : (b : Rat) ≠ 0 := fun z => by have := Rat.natCast_eq_zero_iff.mp z; omega
  have iq : ∀ {n : Nat} {i : Int}, Bd n i → Qz n 1 (i : Rat) := fun {n i} h => ⟨by rw [Rat.num_intCast]; exact h, by rw [Rat.den_intCast]; unfold Bd; decide⟩
  have h1 : stHi b c e = ((2 * c + 1 : Int) : Rat) * (pw b e * (1 / 2)) := by
    unfold stHi
    rw [Rat.intCast_add, Rat.intCast_mul]
    have : ((2 : Int) : Rat) = 2 := rfl
    have o : ((1 : Int) : Rat) = 1 := rfl
    rw [this, o]; grind
  have h2 : stLo b p low c e = ((2 * c - 1 : Int) : Rat) * (pw b e * (1 / 2)) ∨ stLo b p low c e = ((2 * c * b - 1 : Int) : Rat) * (pw b e * (1 / 2) * (b : Rat)⁻¹) := by
    unfold stLo
    have two : ((2 : Int) : Rat) = 2 := rfl
    have o : ((1 : Int) : Rat) = 1 := rfl
    split
    · right
      rw [Rat.intCast_sub, Rat.intCast_mul, Rat.intCast_mul, two, o, Rat.intCast_natCast]
      have e1 : (b : Rat) * (b : Rat)⁻¹ = 1 := Rat.mul_inv_cancel _ b0
      have e2 : (2 * (c : Rat) * (b : Rat) - 1) * (pw b e * (1 / 2) * (b : Rat)⁻¹) = (c : Rat) * pw b e * ((b : Rat) * (b : Rat)⁻¹) - pw b e * (1 / 2) * (b : Rat)⁻¹ := by grind
      rw [e2, e1, Rat.mul_one]
    · left
      rw [Rat.intCast_sub, Rat.intCast_mul, two, o]; grind
  have d1 : Bd 402 (2 * c + 1) := by
    unfold Bd
    have : (2 ^ 402 : Nat) = 4 * 2 ^ 400 := by rw [show (402 : Nat) = 2 + 400 from rfl, Nat.pow_add]
    omega
  have d2 : Bd 402 (2 * c - 1) := by
    unfold Bd
    have : (2 ^ 402 : Nat) = 4 * 2 ^ 400 := by rw [show (402 : Nat) = 2 + 400 from rfl, Nat.pow_add]
    omega
  have d3 : Bd 409 (2 * c * b - 1) := by
    have t1 : Bd 402 (2 * c) := by
      unfold Bd
      have : (2 ^ 402 : Nat) = 4 * 2 ^ 400 := by rw [show (402 : Nat) = 2 + 400 from rfl, Nat.pow_add]
      omega
    have t2 : Bd 6 (b : Int) := Bd.nat b6
    have := t1.mul t2
    unfold Bd at this ⊢
    have : (2 ^ 409 : Nat) = 2 * 2 ^ (402 + 6) := by rw [← Nat.pow_succ']
    omega
  constructor
  · rcases h2 with h | h
    · rw [h]; exact ((iq d2).mul hq).le (by decide) (by decide)
    · rw [h]; exact ((iq d3).mul hbq).le (by decide) (by decide)
  · rw [h1]; exact ((iq d1).mul hq).le (by decide) (by decide)
theorem st_ord : 0 < stLo b p low c e ∧ stLo b p low c e < (c : Rat) * pw b e ∧ (c : Rat) * pw b e < stHi b c e ∧ pw b e * (1 / 2) < stHi b c e - stLo b p low c e ∧ stHi b c e ≤ ((b ^ p : Nat) : Rat) * pw b e := by
  have b2 := F.D.b2
  have pe := pw_pos b2 e
  have c0 := N.c0
  have c1 : (1 : Rat) ≤ (c : Rat) := by exact_mod_cast c0
  have cc : (c : Rat) + 1 ≤ ((b ^ p : Nat) : Rat) := by
    have : ((c + 1 : Int) : Rat) ≤ (((b ^ p : Nat) : Int) : Rat) := cast_le.mpr (by have := N.D.2.2.1; omega)
    rwa [cast_s, Rat.intCast_natCast] at this
  have w1 := Rat.mul_le_mul_of_nonneg_right c1 (Rat.le_of_lt pe)
  have w2 := Rat.mul_le_mul_of_nonneg_right cc (Rat.le_of_lt pe)
  have hb : ∃ h : Rat, stLo b p low c e = (c : Rat) * pw b e - h ∧ 0 < h ∧ h ≤ pw b e * (1 / 2) := by
    unfold stLo
    have b0 : (0 : Rat) < (b : Rat) := Rat.natCast_pos.mpr (by omega)
    have bi := Rat.inv_pos.mpr b0
    have bi1 : (b : Rat)⁻¹ ≤ 1 := by
      refine Rat.le_of_mul_le_mul_right (c := (b : Rat)) ?_ b0
      rw [Rat.inv_mul_cancel _ (fun z => by rw [z] at b0; exact absurd b0 (by decide)), Rat.one_mul]
      have : (1 : Rat) ≤ (b : Rat) := by
        have := Rat.natCast_le_natCast.mpr (show 1 ≤ b by omega)
        exact this
      exact this
    have ph : 0 < pw b e * (1 / 2) := by grind
    split
    · refine ⟨_, rfl, Rat.mul_pos ph bi, ?_⟩
      have := Rat.mul_le_mul_of_nonneg_left bi1 (Rat.le_of_lt ph)
      rwa [Rat.mul_one] at this
    · exact ⟨_, rfl, ph, Rat.le_refl⟩
  obtain ⟨h, hl, h0, h1⟩ := hb
  rw [hl]
  unfold stHi
  rw [Rat.add_mul, Rat.one_mul] at w2
  generalize (c : Rat) * pw b e = v at *
  generalize ((b ^ p : Nat) : Rat) * pw b e = B at *
  generalize pw b e = u at *
  refine ⟨?_, ?_, ?_, ?_, ?_⟩ <;> grind
end
def stD (lo hi : Rat) (k : Bool) : PyData := .tuple [fq lo, fq hi, .bool k]
inductive R_floorP : Rel
  | mk (x : Rat) (B : Bag) (h : CDivP x.num (x.den : Int)) : R_floorP [.da (fq x)] B (.int (flQ x)) B
inductive R_ceilP : Rel
  | mk (x : Rat) (B : Bag) (h : CDivP (-x.num) (x.den : Int)) : R_ceilP [.da (fq x)] B (.int (ceQ x)) B
structure StOk (lo hi : Rat) (e : Int) : Prop where
  l0 : 0 < lo
  lh : lo < hi
  ql : Qz 1750 4332 lo
  qh : Qz 1750 4332 hi
  e1 : -2000 ≤ e
  e2 : e ≤ 2000
  q : hi < pw 10 e * ((2 ^ 3000 : Nat) : Rat)
inductive R_mults : Rel
  | mk (lo hi : Rat) (k : Bool) (e : Int) (B : Bag) (h : StOk lo hi e) : R_mults [.da (stD lo hi k), .da (.int e)] B (.tuple [.int (fsQ lo k e), .int (lsQ hi k e)]) B
inductive R_hasm : Rel
  | mk (lo hi : Rat) (k : Bool) (e : Int) (B : Bag) (h : StOk lo hi e) : R_hasm [.da (stD lo hi k), .da (.int e)] B (.bool (decide (fsQ lo k e ≤ lsQ hi k e))) B
inductive R_gpl : Rel
  | mk (lo hi : Rat) (k : Bool) (G kd : Int) (B : Bag) (l0 : 0 < lo) (ql : Qz 1750 4332 lo) (qh : Qz 1750 4332 hi) (k1 : pw 10 kd ≤ hi - lo) (k2 : hi - lo < pw 10 (kd + 1)) (hk : -1900 ≤ kd) (hG : hasM lo hi k G) (hG1 : ¬ hasM lo hi k (G + 1)) (g2 : G ≤ 1900)
      (q : hi < pw 10 (kd - 1) * ((2 ^ 3000 : Nat) : Rat)) : R_gpl [.da (stD lo hi k)] B (.int G) B
inductive R_short : Rel
  | mk (b p : Nat) (low high s c e G : Int) (B : Bag) (F : FmR b p low high) (N : NumC b p low high s c e) (hG : hasM (stLo b p low c e) (stHi b c e) (decide (c % 2 = 0)) G) (hG1 : ¬ hasM (stLo b p low c e) (stHi b c e) (decide (c % 2 = 0)) (G + 1)) :
      R_short [.da (fmP b p low high), .da (Va.num s c e).d] B (trP s (shX (stLo b p low c e) (stHi b c e) ((c : Rat) * pw b e) (decide (c % 2 = 0)) (shE ((c : Rat) * pw b e) G)).toNat (shE ((c : Rat) * pw b e) G)) B
theorem divpA {i j : Int} (hj : 0 < j) (h : i.natAbs < j.natAbs * 2 ^ 3990) : CDivP i j := by
  by_cases hl : j.natAbs.log2 < 9000
  · exact ⟨hj, PyProof.noPylong_of_log2 hl⟩
  · refine divp_ok hj ?_
    have e2 : Builtin.Int.intBits j = j.natAbs.log2 + 1 := by
      unfold Builtin.Int.intBits
      rw [if_neg (show ¬ (j == 0) = true by simpa using (show j ≠ 0 by omega))]
    have l2 : j.natAbs < 2 ^ (j.natAbs.log2 + 1) := Nat.lt_log2_self
    have l3 : Bd (j.natAbs.log2 + 1 + 3990) i := by
      unfold Bd; rw [Nat.pow_add]
      exact Nat.lt_trans h (Nat.mul_lt_mul_of_pos_right l2 (Nat.pow_pos (by decide)))
    have := intBits_le l3
    omega
theorem div_small {x : Rat} (x0 : 0 ≤ x) (h : x < ((2 ^ 3001 : Nat) : Rat)) : CDivP x.num (x.den : Int) ∧ CDivP (-x.num) (x.den : Int) := by
  have dp := den_pos x
  have dq : (0 : Rat) < ((x.den : Int) : Rat) := by exact_mod_cast dp
  have n0 : 0 ≤ x.num := Rat.num_nonneg.mpr x0
  have lt : x.num < (x.den : Int) * ((2 ^ 3990 : Nat) : Int) := by
    have h1 : x * ((x.den : Int) : Rat) < ((2 ^ 3001 : Nat) : Rat) * ((x.den : Int) : Rat) := Rat.mul_lt_mul_of_pos_right h dq
    rw [num_den] at h1
    have h2 : ((2 ^ 3001 : Nat) : Rat) * ((x.den : Int) : Rat) ≤ (((x.den : Int) * ((2 ^ 3990 : Nat) : Int) : Int) : Rat) := by
      rw [Rat.intCast_mul, Rat.intCast_natCast, Rat.mul_comm]
      exact Rat.mul_le_mul_of_nonneg_left (Rat.natCast_le_natCast.mpr (Nat.pow_le_pow_right (by decide) (by decide))) (Rat.le_of_lt dq)
    exact cast_lt.mp (ltle h1 h2)
  have lt2 : x.num.natAbs < (x.den : Int).natAbs * 2 ^ 3990 := by
    refine Int.ofNat_lt.mp ?_
    rw [Int.natCast_mul, show ((x.num.natAbs : Nat) : Int) = x.num by omega, show (((x.den : Int).natAbs : Nat) : Int) = (x.den : Int) by omega]
    exact lt
  exact ⟨divpA dp lt2, divpA dp (by rw [Int.natAbs_neg]; exact lt2)⟩
theorem st_div {lo hi : Rat} {e : Int} (h : StOk lo hi e) : (CDivP (-(lo / pw 10 e).num) ((lo / pw 10 e).den : Int) ∧ CDivP (lo / pw 10 e).num ((lo / pw 10 e).den : Int)) ∧ (CDivP (-(hi / pw 10 e).num) ((hi / pw 10 e).den : Int) ∧ CDivP (hi / pw 10 e).num ((hi / pw 10 e).den : Int)) := by
  have pe := pw_pos (b := 10) (by decide) e
  have key : ∀ x : Rat, 0 < x → x ≤ hi → 0 ≤ x / pw 10 e ∧ x / pw 10 e < ((2 ^ 3001 : Nat) : Rat) := fun x x0 xh => by
    refine ⟨by rw [Rat.div_def]; exact Rat.mul_nonneg (Rat.le_of_lt x0) (Rat.le_of_lt (Rat.inv_pos.mpr pe)), ?_⟩
    have h1 : x / pw 10 e ≤ ((2 ^ 3000 : Nat) : Rat) := by
      rw [(div_ten e).1, Rat.mul_comm]
      exact Rat.le_trans xh (Rat.le_of_lt h.q)
    exact lelt h1 (Rat.natCast_lt_natCast.mpr (Nat.pow_lt_pow_right (by decide) (by decide)))
  have a := key lo h.l0 (Rat.le_of_lt h.lh)
  have c := key hi (ltle h.l0 (Rat.le_of_lt h.lh)) Rat.le_refl
  have a2 := div_small a.1 a.2
  have c2 := div_small c.1 c.2
  exact ⟨⟨a2.2, a2.1⟩, ⟨c2.2, c2.1⟩⟩
theorem stripN_pos {c : Nat} (h : 0 < c) : 0 < (stripN 10 c c).1 := strip_pos (by decide) c c h
end Lw
set_option exponentiation.threshold 200000
namespace Lw
open PySem PySem.Spec PyProof PyProof.Rows L2 Gd Fr
open scoped Rat
section
variable {b p : Nat} {low high s c e : Int} (F : FmR b p low high) (N : NumC b p low high s c e)
include F N
theorem u_ge : pw 10 (-1300) ≤ pw b e := by
  have b2 := F.D.b2
  have g1 : pw b low ≤ pw b e := pw_mono b2 N.D.2.2.2.1
  have t1 : pw b (-low) ≤ pw 10 1300 := by
    refine Rat.le_trans (pw_mono b2 (show -low ≤ ((-low).toNat : Int) by omega)) ?_
    rw [pw_nat, show (1300 : Int) = ((1300 : Nat) : Int) from rfl, pw_nat]
    exact Rat.natCast_le_natCast.mpr F.bl2
  have t2 : pw b low * pw b (-low) = 1 := by rw [← pw_add b2, Int.add_right_neg, pw_zero]
  have t3 : pw 10 (-1300) * pw 10 1300 = 1 := by rw [← pw_add (by decide), show (-1300 : Int) + 1300 = 0 by decide, pw_zero]
  have t4 : pw 10 (-1300) * pw b low * pw b (-low) ≤ pw 10 (-1300) * pw b low * pw 10 1300 := Rat.mul_le_mul_of_nonneg_left t1 (Rat.le_of_lt (Rat.mul_pos (pw_pos (by decide) _) (pw_pos b2 _)))
  have t5 : pw 10 (-1300) * pw b low * pw b (-low) = pw 10 (-1300) := by rw [Rat.mul_assoc, t2, Rat.mul_one]
  have t6 : pw 10 (-1300) * pw b low * pw 10 1300 = pw b low := by
    calc pw 10 (-1300) * pw b low * pw 10 1300 = (pw 10 (-1300) * pw 10 1300) * pw b low := by grind
      _ = _ := by rw [t3, Rat.one_mul]
  rw [t5, t6] at t4
  exact Rat.le_trans t4 g1
theorem stHi_le : stHi b c e ≤ pw 10 400 := by
  have b2 := F.D.b2
  refine Rat.le_trans (st_ord F N).2.2.2.2 ?_
  have e1 : pw b e ≤ ((b ^ high.toNat : Nat) : Rat) := by rw [← pw_nat]; exact pw_mono b2 (by have := N.D.2.2.2.2; omega)
  have e3 : ((b ^ p : Nat) : Rat) * pw b e ≤ ((b ^ p : Nat) : Rat) * ((b ^ high.toNat : Nat) : Rat) := Rat.mul_le_mul_of_nonneg_left e1 Rat.natCast_nonneg
  have e4 : ((b ^ p : Nat) : Rat) * ((b ^ high.toNat : Nat) : Rat) ≤ pw 10 400 := by
    rw [show (400 : Int) = ((400 : Nat) : Int) from rfl, pw_nat, ← Rat.natCast_mul]; exact Rat.natCast_le_natCast.mpr F.D.bh
  exact Rat.le_trans e3 e4
theorem st_kd {k : Bool} {G : Int} (hG : hasM (stLo b p low c e) (stHi b c e) k G) : ∃ kd : Int, pw 10 kd ≤ stHi b c e - stLo b p low c e ∧ stHi b c e - stLo b p low c e < pw 10 (kd + 1) ∧ -1303 ≤ kd ∧ G ≤ 400 ∧ stHi b c e < pw 10 (kd - 1) * ((2 ^ 2990 : Nat) : Rat) := by
  have b2 := F.D.b2
  obtain ⟨o1, o2, o3, o4, o5⟩ := st_ord F N
  have pe := pw_pos b2 e
  have ug := u_ge F N
  have hl := stHi_le F N
  have wd : 0 < stHi b c e - stLo b p low c e := by grind
  obtain ⟨kd, k1, k2⟩ := log_ex (b := 10) (by decide) wd
  refine ⟨kd, k1, k2, ?_, ?_, ?_⟩
  · refine Int.not_lt.mp fun z => ?_
    have a := ltle k2 (pw_mono (b := 10) (by decide) (show kd + 1 ≤ -1302 by omega))
    have t : pw 10 (-1300) = pw 10 (-1302) * 100 := by
      have : (100 : Rat) = pw 10 ((2 : Nat) : Int) := by rw [pw_nat]; rfl
      rw [this, ← pw_add (by decide)]; congr 1
    have p0 := pw_pos (b := 10) (by decide) (-1302)
    generalize pw 10 (-1302) = g at *
    grind
  · refine Int.not_lt.mp fun z => ?_
    exact has_top o1 (lelt hl (pw_lt (by decide) z)) hG
  · have t : pw 10 (kd + 1) = pw 10 (kd - 1) * 100 := by
      have : (100 : Rat) = pw 10 ((2 : Nat) : Int) := by rw [pw_nat]; rfl
      rw [this, ← pw_add (by decide)]; congr 1; omega
    rw [t] at k2
    have g0 := pw_pos (b := 10) (by decide) (kd - 1)
    have u1 : pw b e < pw 10 (kd - 1) * 200 := by
      generalize pw 10 (kd - 1) = g at *
      grind
    have bp : ((b ^ p : Nat) : Rat) ≤ ((2 ^ 400 : Nat) : Rat) := Rat.natCast_le_natCast.mpr (Nat.le_of_lt F.D.bp)
    have h1 : ((b ^ p : Nat) : Rat) * pw b e ≤ ((2 ^ 400 : Nat) : Rat) * pw b e := Rat.mul_le_mul_of_nonneg_right bp (Rat.le_of_lt pe)
    have h2 : ((2 ^ 400 : Nat) : Rat) * pw b e < ((2 ^ 400 : Nat) : Rat) * (pw 10 (kd - 1) * 200) := Rat.mul_lt_mul_of_pos_left u1 (Rat.natCast_pos.mpr (Nat.pow_pos (by decide)))
    have h3 : ((2 ^ 400 : Nat) : Rat) * (pw 10 (kd - 1) * 200) ≤ pw 10 (kd - 1) * ((2 ^ 2990 : Nat) : Rat) := by
      have e : ((2 ^ 400 : Nat) : Rat) * (pw 10 (kd - 1) * 200) = pw 10 (kd - 1) * (((2 ^ 400 : Nat) : Rat) * 200) := by grind
      rw [e]
      refine Rat.mul_le_mul_of_nonneg_left ?_ (Rat.le_of_lt g0)
      have : ((2 ^ 400 * 200 : Nat) : Rat) ≤ ((2 ^ 2990 : Nat) : Rat) := Rat.natCast_le_natCast.mpr (by decide +kernel)
      rw [Rat.natCast_mul] at this
      exact this
    exact lelt o5 (lelt h1 (ltle h2 h3))
theorem st_great (k : Bool) : ∃ G, hasM (stLo b p low c e) (stHi b c e) k G ∧ ¬ hasM (stLo b p low c e) (stHi b c e) k (G + 1) ∧ -1304 ≤ G ∧ G ≤ 400 := by
  obtain ⟨o1, o2, o3, o4, o5⟩ := st_ord F N
  have wd : 0 < stHi b c e - stLo b p low c e := by grind
  obtain ⟨kd, k1, k2⟩ := log_ex (b := 10) (by decide) wd
  have h0 : hasM (stLo b p low c e) (stHi b c e) k (kd - 1) := has_width (ltle (pw_lt (b := 10) (by decide) (show kd - 1 < kd by omega)) k1)
  obtain ⟨G, g1, g2, g3⟩ := has_great o1 h0
  obtain ⟨kd', a1, a2, a3, a4, a5⟩ := st_kd F N g2
  refine ⟨G, g2, g3, ?_, a4⟩
  have : ¬ G < kd' - 1 := fun z => g3 (has_down (has_width (ltle (pw_lt (b := 10) (by decide) (show kd' - 1 < kd' by omega)) a1)) (by omega))
  omega
end
structure ShSpec (b p : Nat) (low c e : Int) (X : Nat) (E : Int) : Prop where
  x0 : 0 < X
  sx : inSt (stLo b p low c e) (stHi b c e) (decide (c % 2 = 0)) ((X : Rat) * pw 10 E) = true
  few : ∀ (q : Nat) (j : Int), 0 < q → inSt (stLo b p low c e) (stHi b c e) (decide (c % 2 = 0)) ((q : Rat) * pw 10 j) = true → dl (stripN 10 X X).1 ≤ dl q
  xb : Bd 5900 (X : Int)
  e1 : -1400 ≤ E
  e2 : E ≤ 400
theorem sh_spec {b p : Nat} {low high s c e G : Int} (F : FmR b p low high) (N : NumC b p low high s c e) (hG : hasM (stLo b p low c e) (stHi b c e) (decide (c % 2 = 0)) G) (hG1 : ¬ hasM (stLo b p low c e) (stHi b c e) (decide (c % 2 = 0)) (G + 1)) :
    ShSpec b p low c e (shX (stLo b p low c e) (stHi b c e) ((c : Rat) * pw b e) (decide (c % 2 = 0)) (shE ((c : Rat) * pw b e) G)).toNat (shE ((c : Rat) * pw b e) G) := by
  obtain ⟨o1, o2, o3, o4, o5⟩ := st_ord F N
  obtain ⟨x0, xi⟩ := sh_in o1 o2 o3 hG
  have few := fun (q : Nat) (j : Int) h1 h2 => sh_few o1 o2 o3 hG hG1 (q := q) (j := j) h1 h2
  obtain ⟨kd, k1, k2, k3, k4, k5⟩ := st_kd F N hG
  have gl : kd - 1 ≤ G := Int.not_lt.mp fun z => hG1 (has_down (has_width (e := kd - 1) (ltle (pw_lt (b := 10) (by decide) (show kd - 1 < kd by omega)) k1)) (by omega))
  have se : G - 1 ≤ shE ((c : Rat) * pw b e) G ∧ shE ((c : Rat) * pw b e) G ≤ G := by unfold shE; split <;> omega
  generalize shE ((c : Rat) * pw b e) G = E at *
  generalize shX (stLo b p low c e) (stHi b c e) ((c : Rat) * pw b e) (decide (c % 2 = 0)) E = X at *
  have ex : ((X.toNat : Nat) : Int) = X := Int.toNat_of_nonneg (by omega)
  refine ⟨by omega, by rw [← Rat.intCast_natCast, ex]; exact xi, few, ?_, by omega, by omega⟩
  rw [ex]
  -- a bound of it
  have pE := pw_pos (b := 10) (by decide) E
  have xh : (X : Rat) * pw 10 E ≤ stHi b c e := by
    unfold inSt at xi
    rw [decide_eq_true_iff] at xi
    rcases xi with ⟨_, z⟩ | ⟨_, _, z⟩
    · exact Rat.le_of_lt z
    · exact z
  have h1 : (X : Rat) * pw 10 E < ((2 ^ 3010 : Nat) : Rat) * pw 10 E := by
    refine lelt xh (ltle k5 ?_)
    have a1 : pw 10 (kd - 1) ≤ pw 10 (E + 1) := pw_mono (by decide) (by omega)
    have a2 : pw 10 (E + 1) = pw 10 E * 10 := by
      have : (10 : Rat) = pw 10 ((1 : Nat) : Int) := by rw [pw_nat]; rfl
      rw [this, ← pw_add (by decide)]; congr 1
    rw [a2] at a1
    have a3 : pw 10 (kd - 1) * ((2 ^ 2990 : Nat) : Rat) ≤ pw 10 E * 10 * ((2 ^ 2990 : Nat) : Rat) := Rat.mul_le_mul_of_nonneg_right a1 Rat.natCast_nonneg
    refine Rat.le_trans a3 ?_
    have a4 : ((2 ^ 2990 * 10 : Nat) : Rat) ≤ ((2 ^ 3010 : Nat) : Rat) := Rat.natCast_le_natCast.mpr (by decide +kernel)
    rw [Rat.natCast_mul] at a4
    have a5 := Rat.mul_le_mul_of_nonneg_right a4 (Rat.le_of_lt pE)
    have a6 : pw 10 E * 10 * ((2 ^ 2990 : Nat) : Rat) = ((2 ^ 2990 : Nat) : Rat) * 10 * pw 10 E := by grind
    rw [a6]
    exact a5
  have h2 := mul_lt_one pE h1
  rw [← Rat.intCast_natCast] at h2
  exact (bd_of (by omega) (cast_lt.mp h2)).le (by decide)
end Lw
namespace Lw
open PySem PySem.Spec PyProof PyProof.Rows L2 Gd Fr
open scoped Rat
theorem div_small2 {x : Rat} (x0 : -1 ≤ x) (h : x < ((2 ^ 3002 : Nat) : Rat)) : CDivP (-x.num) (x.den : Int) := by
  have dp := den_pos x
  have dq : (0 : Rat) < ((x.den : Int) : Rat) := by exact_mod_cast dp
  have u : x.num < (x.den : Int) * ((2 ^ 3002 : Nat) : Int) := by
    have h1 : x * ((x.den : Int) : Rat) < ((2 ^ 3002 : Nat) : Rat) * ((x.den : Int) : Rat) := Rat.mul_lt_mul_of_pos_right h dq
    rw [num_den, Rat.mul_comm, ← Rat.intCast_natCast, ← Rat.intCast_mul] at h1
    exact cast_lt.mp h1
  have l : -(x.den : Int) ≤ x.num := by
    have h1 : (-1 : Rat) * ((x.den : Int) : Rat) ≤ x * ((x.den : Int) : Rat) := Rat.mul_le_mul_of_nonneg_right x0 (Rat.le_of_lt dq)
    rw [num_den] at h1
    refine cast_le.mp ?_
    rw [Rat.intCast_neg]
    grind
  refine divpA dp ?_
  rw [Int.natAbs_neg]
  refine Int.ofNat_lt.mp ?_
  rw [Int.natCast_mul, show (((x.den : Int).natAbs : Nat) : Int) = (x.den : Int) by omega]
  have e : ((2 ^ 3990 : Nat) : Int) = ((2 ^ 3002 : Nat) : Int) * ((2 ^ 988 : Nat) : Int) := by rw [← Int.natCast_mul, ← Nat.pow_add]
  have m1 : (x.den : Int) * ((2 ^ 3002 : Nat) : Int) * 2 ≤ (x.den : Int) * ((2 ^ 3990 : Nat) : Int) := by
    rw [e, ← Int.mul_assoc]
    refine Int.mul_le_mul_of_nonneg_left ?_ (Int.mul_nonneg (by omega) (Int.natCast_nonneg _))
    have : 2 ≤ 2 ^ 988 := Nat.le_self_pow (by decide) 2
    exact Int.ofNat_le.mpr this
  have m2 : (x.den : Int) * 1 ≤ (x.den : Int) * ((2 ^ 3002 : Nat) : Int) := Int.mul_le_mul_of_nonneg_left (by have : 0 < 2 ^ 3002 := Nat.pow_pos (by decide); omega) (by omega)
  generalize (x.den : Int) * ((2 ^ 3002 : Nat) : Int) = A at *
  generalize (x.den : Int) * ((2 ^ 3990 : Nat) : Int) = C at *
  omega
theorem ten_qz4 {e : Int} (h1 : -2000 ≤ e) (h2 : e ≤ 402) : Qz 1340 6650 (pw 10 e) := by
  have e1 := pw_num 10 (by decide) e
  refine ⟨?_, (ten_qz h1 (by omega)).2.2.de⟩
  rw [e1.1]
  exact Bd.nat (Nat.lt_of_le_of_lt (Nat.pow_le_pow_right (by decide) (show e.toNat ≤ 402 by omega)) (by decide +kernel))
theorem two_lt {a c : Rat} {n m : Nat} (ha : 0 ≤ a) (h : c < a * ((2 ^ n : Nat) : Rat)) (hm : n ≤ m) : c < a * ((2 ^ m : Nat) : Rat) :=
  ltle h (Rat.mul_le_mul_of_nonneg_left (Rat.natCast_le_natCast.mpr (Nat.pow_le_pow_right (by decide) hm)) ha)
theorem ten_two {e : Int} {c : Rat} (h : c < pw 10 (e + 1) * ((2 ^ 2990 : Nat) : Rat)) : c < pw 10 e * ((2 ^ 3000 : Nat) : Rat) := by
  have p0 := pw_pos (b := 10) (by decide) e
  have a2 : pw 10 (e + 1) = pw 10 e * 10 := by
    have : (10 : Rat) = pw 10 ((1 : Nat) : Int) := by rw [pw_nat]; rfl
    rw [this, ← pw_add (by decide)]; congr 1
  rw [a2] at h
  refine ltle h ?_
  have e1 : pw 10 e * 10 * ((2 ^ 2990 : Nat) : Rat) = pw 10 e * (10 * ((2 ^ 2990 : Nat) : Rat)) := by grind
  rw [e1]
  refine Rat.mul_le_mul_of_nonneg_left ?_ (Rat.le_of_lt p0)
  have : ((10 * 2 ^ 2990 : Nat) : Rat) ≤ ((2 ^ 3000 : Nat) : Rat) := Rat.natCast_le_natCast.mpr (by decide +kernel)
  rw [Rat.natCast_mul] at this
  exact this
end Lw
set_option exponentiation.threshold 200000
namespace Lw
open PySem PySem.Spec PyProof PyProof.Rows L2 Gd Fr
open scoped Rat
def Post_tft (_ : List VD) (_ : Bag) (r : PyData) (B' : Bag) : Prop := Bok B' ∧ ∃ t : F4, r = t.d ∧ t ∈ toldF ++ toldF2
structure AsW (b p' : Nat) (low' c e : Int) (j : Nat) : Prop where
  h1 : ∀ i, i < j → c * ((b ^ i : Nat) : Int) < ((b ^ (p' - 1) : Nat) : Int) ∧ low' < e - i
  h2 : ¬ (c * ((b ^ j : Nat) : Int) < ((b ^ (p' - 1) : Nat) : Int) ∧ low' < e - j)
section
variable {b p : Nat} {low high : Int} {p' : Nat} {low' s c e : Int} {j : Nat} (F : FmR b p low high) (W : FmR b p' low' high) (N : NumC b p low high s c e) (hp : p < p') (hl : low' ≤ low) (h : AsW b p' low' c e j)
include F W N hp hl h
end
end Lw
namespace Lw
open PySem PySem.Spec PyProof PyProof.Rows L2 Gd Fr
open scoped Rat
theorem tr_val {s : Int} {X : Nat} {E : Int} (x0 : 0 < X) (xb : Bd 5900 (X : Int)) (e1 : -1400 ≤ E) (e2 : E ≤ 400) :
    ∃ (m : Nat) (E' : Int), trP s X E = dcD s m E' ∧ 0 < m ∧ (m : Rat) * pw 10 E' = (X : Rat) * pw 10 E ∧ Bd 5900 (m : Int) ∧ Bd 60 E' ∧ m = (stripN 10 X X).1 ∧ (stripN 10 m m).1 = m := by
  obtain ⟨h1, h2⟩ := strip_eq (q := 10) (by decide) X X x0 (Nat.le_refl _)
  have le := strip_le (q := 10) (by decide) X X
  have p0 := stripN_pos x0
  refine ⟨(stripN 10 X X).1, E + (stripN 10 X X).2, rfl, p0, ?_, ?_, ?_, rfl, by rw [strip_stop h2]⟩
  · rw [pw_add (by decide), pw_nat]
    have : (X : Rat) = (((stripN 10 X X).1 * 10 ^ (stripN 10 X X).2 : Nat) : Rat) := by rw [← h1]
    rw [this, Rat.natCast_mul]
    grind
  · unfold Bd at xb ⊢; omega
  · have : (stripN 10 X X).2 < 5900 := by
      have h3 : 2 ^ (stripN 10 X X).2 ≤ X := by
        refine Nat.le_trans (Nat.pow_le_pow_left (by decide : 2 ≤ 10) _) ?_
        have h4 : 1 * 10 ^ (stripN 10 X X).2 ≤ (stripN 10 X X).1 * 10 ^ (stripN 10 X X).2 := Nat.mul_le_mul_right _ p0
        rw [← h1, Nat.one_mul] at h4
        exact h4
      unfold Bd at xb
      rw [Int.natAbs_natCast] at xb
      exact (Nat.pow_lt_pow_iff_right (by decide : 1 < 2)).mp (Nat.lt_of_le_of_lt h3 xb)
    exact Bd.le (n := 20) (by unfold Bd; omega) (by decide)
end Lw
namespace Gd
open PySem PySem.Spec PyProof.Rows L2
section
variable {X : Cx} {i : Nat} {Γ : List VD} {B B1 B2 B3 B' : Bag} {acc ds : List PyData} {e e2 a b c : Expr} {d da db : VD} {y y1 y2 y3 : PyData} {pos p p1 p2 p3 pos' px : Pos} {rest ss s1 s2 : List Stmt} {E : EnO}
theorem ow_whileO (P : List VD → Bag → List PyData → Prop) (μ : List VD → Bag → List PyData → Nat) (h0 : P Γ B acc)
    (hs : ∀ Γ B acc, P Γ B acc → ∃ x, TJ X (Γ.set i (.da (.list acc))) B c x B ∧
      (x = true → OwJ X i Γ B acc s1 { nx := fun Γ' B' acc' => P Γ' B' acc' ∧ μ Γ' B' acc' < μ Γ B acc, fx := fun _ _ => False, ct := fun Γ' B' acc' => P Γ' B' acc' ∧ μ Γ' B' acc' < μ Γ B acc, rt := E.rt }) ∧
      (x = false → OwJ X i Γ B acc rest E))
    (hp : PassesOwn (model X.prog X.w) X.A X.env X.xe := by exact PassesOwn.never) : OwJ X i Γ B acc (.While c s1 [] pos :: rest) E := fun g σ A0 A1 a H0 H w D G =>
  ⟨_, pss_cons (ps_while hp (wt c) (ws s1)) (ws rest), by
    refine ⟨fun m σ' H' => ∃ Γ' B' acc' H1, P Γ' B' acc' ∧ μ Γ' B' acc' = m ∧ Own X.K i g A0 A1 a B' Γ' acc' σ' H1 H' ∧ Same H0 H1, ⟨_, Γ, B, acc, H0, h0, rfl, w, Same.refl _⟩, ?_⟩
    rintro m σ' H' ⟨Γ', B', acc', H1, hP, rfl, w1, sm⟩
    obtain ⟨x, ht, hb, hd⟩ := hs Γ' B' acc' hP
    obtain ⟨zs, hz, rz⟩ := w1.ls
    obtain ⟨ev, on⟩ := w1.frozen hz rz
    refine ht g σ' _ H' ev on _ fun H2 H'' t2 o2 => ?_
    obtain ⟨w2, s3, h3⟩ := w1.thaw hz rz t2 o2
    cases x with
    | true =>
      refine iteT ⟨fun σ2 H3' => ∃ m', m' < μ Γ' B' acc' ∧ ∃ Γ2 B2 acc2 H3, P Γ2 B2 acc2 ∧ μ Γ2 B2 acc2 = m' ∧ Own X.K i g A0 A1 a B2 Γ2 acc2 σ2 H3 H3' ∧ Same H0 H3, fun _ _ z => z, ?_⟩
      refine hb rfl g σ' A0 A1 a _ H'' w2 _ ⟨?_, ?_, ?_, ?_, ?_, ?_, ?_⟩
      · rintro Γ3 B3 acc3 σ3 H3 H3' ⟨q1, q2⟩ w3 m3
        exact ⟨_, q2, Γ3, B3, acc3, H3, q1, rfl, w3, (sm.trans s3).trans m3⟩
      · intro _ _ _ _ _ q; exact q.elim
      · intro r B3 v H3 H3' q t3 o3 rv
        exact G.rt r B3 v H3 H3' q t3 o3 rv
      · intro _ _ _ _ _ _ q; exact q.elim
      · rintro Γ3 B3 acc3 σ3 H3 H3' ⟨q1, q2⟩ w3 m3
        exact ⟨_, q2, Γ3, B3, acc3, H3, q1, rfl, w3, (sm.trans s3).trans m3⟩
      · intro _ _ _ _ _ _ q; exact q.elim
      · intro _ _ _ _ _ q; exact q.elim
    | false => exact iteF (hd rfl g σ' A0 A1 a _ H'' w2 D (G.on (sm.trans s3)))⟩
theorem sj_own3 {x y z : Str} {py pz pt : Pos} {kt k2 pt2} {Es : En} (i j l : Nat) (nd : X.N.Nodup) (hc : X.calm = true) (h1 : EJ X Γ B a (.da y1) B1) (h2 : FJ X Γ B1 b ds B2) (h3 : EJ X Γ B2 c (.da y3) B3) (hΓ : j < Γ.length)
    (k : OwJ X j (((Γ.set i (.da y1)).set j .no).set l (.da y3)) B3 ds rest { nx := fun Γ' B' acc => Es.nx (Γ'.set j (.da (.list acc))) B', fx := Es.nx, rt := Es.rt, bk := fun Γ' B' acc => Es.bk (Γ'.set j (.da (.list acc))) B', ct := fun Γ' B' acc => Es.ct (Γ'.set j (.da (.list acc))) B' })
    (hij : i ≠ j) (hil : i ≠ l) (hjl : j ≠ l) (hw : swappedStores [.Tuple [.Name x px, .Name y py, .Name z pz] kt pt] (.Tuple [a, b, c] k2 pt2) X.env = pure (some [x, y, z])) (hi : X.N[i]? = some x := by rfl) (hj : X.N[j]? = some y := by rfl) (hl : X.N[l]? = some z := by rfl)
    (hx : X.env.scope.names.lookup x = some .local := by rfl) (hy : X.env.scope.names.lookup y = some .local := by rfl) (hz : X.env.scope.names.lookup z = some .local := by rfl)
    (hsw : swapsWithSole [.Tuple [.Name x px, .Name y py, .Name z pz] kt pt] (.Tuple [a, b, c] k2 pt2) pos.line X.env = pure false := by rfl)
    (s1 : starEach (a :: [b, c]) X.env = (false, eval a X.env) :: starEach [b, c] X.env := by rfl) (s2 : starEach (b :: [c]) X.env = (false, eval b X.env) :: starEach [c] X.env := by rfl) (s3 : starEach (c :: []) X.env = (false, eval c X.env) :: starEach [] X.env := by rfl) :
    SJ X Γ B (.Assign [.Tuple [.Name x px, .Name y py, .Name z pz] kt pt] (.Tuple [a, b, c] k2 pt2) pos :: rest) Es := fun g σ H0 H Ev O D G =>
  ⟨_, pss_cons (ps_par3 hc nd hi hj hl hij hil hjl hx hy hz (pa_cons (we a) (pa_cons (we b) (pa_cons (we c) pa_nil s3) s2) s1) hw hsw) (ws rest), h1 g σ H0 H Ev O _ fun v1 H1 H1' t o r1 => h2 g σ H1 H1' (Ev.mono t.ex) o _ fun ad zs H2 H2' t2 o2 rz n => by
    have n1 : H2 ad = none := o2.ex.free n
    have off := off_none o2 n
    have on : On X.K g B2 H2 (upd H2' ad (.lst zs)) := ⟨fun b u q => by
      rw [upd_ne (ne_of_none q n1)]; exact o2.ex b u q, fun b l q => by
      obtain ⟨p1, p2, p3⟩ := o2.bag b l q
      exact ⟨p1, by rw [upd_ne (ne_of_none p2 n)]; exact p2, p3⟩⟩
    refine h3 g σ H2 _ ((Ev.mono t.ex).mono t2.ex) on _ fun v3 H3 H3' t3 o3 r3 => ?_
    obtain ⟨n3, l3⟩ := t3.un ad _ off n1 upd_same
    have hj' : j < σ.length := by rw [Ev.len]; exact hΓ
    have r1' : Rp X.K H3 v1 y1 := Rp.mono (t2.ex.trans t3.ex) r1
    have ev : EnvD X.K g H3 (((σ.set i (some v1)).set j (some (.ref ad))).set l (some v3)) (((Γ.set i (.da y1)).set j .no).set l (.da y3)) :=
      (((((Ev.mono t.ex).mono t2.ex).mono t3.ex).set i (d := .da y1) r1').set j (show Rv X.K g H3 (.ref ad) .no from trivial)).set l (d := .da y3) r3
    refine ⟨v1, .ref ad, v3, rfl, k g _ H2 H2' ad H3 H3' ⟨⟨t3.ex, fun b u f q1 q2 => t3.un b u f q1 (by rw [upd_ne (ne_of_none q2 n)]; exact q2)⟩, n, off, ev, ?_, n3, ⟨zs, l3, rz.mono t3.ex⟩, o3⟩ D ⟨?_, ?_, ?_, ?_, ?_, ?_, ?_⟩⟩
    · rw [List.getElem?_set_ne (fun z => hjl z.symm), List.getElem?_set_self (by rw [List.length_set]; exact hj')]
    · intro Γ' B' acc σ' H4 H4' q w _
      obtain ⟨H5, t5, e5, o5⟩ := w.freeze
      exact G.nx _ _ _ _ _ q ((t.trans t2).trans t5) e5 o5
    · intro Γ' B' σ' H4 H4' q t4 e4 o4
      exact G.nx _ _ _ _ _ q ((t.trans t2).trans t4) e4 o4
    · intro r B' v H4 H4' q t4 o4 rv
      exact G.rt _ _ _ _ _ q ((t.trans t2).trans t4) o4 rv
    · intro Γ' B' acc σ' H4 H4' q w _
      obtain ⟨H5, t5, e5, o5⟩ := w.freeze
      exact G.bk _ _ _ _ _ q ((t.trans t2).trans t5) e5 o5
    · intro Γ' B' acc σ' H4 H4' q w _
      obtain ⟨H5, t5, e5, o5⟩ := w.freeze
      exact G.ct _ _ _ _ _ q ((t.trans t2).trans t5) e5 o5
    · intro _ _ _ _ _ _ q; exact q.elim
    · intro _ _ _ _ _ q; exact q.elim⟩
theorem sj_unpackN {x : Str} {Es : En} (i : Nat) (is : List Nat) {ts : List Expr} {k k2} {pt pt2 : Pos} {dd : List PyData} (nd : X.N.Nodup) (hc : X.calm = true) (h : EJ X Γ B e (.da (.tuple [y1, .tuple dd])) B1) (hg : PGs X ts (gNames is)) (hl : is.length = dd.length)
    (q : SJ X (setAll (Γ.set i (.da y1)) is dd) B1 rest Es) (hi : X.N[i]? = some x := by rfl) (hx : Loc X.env.scope x := by first | exact Or.inl rfl | exact Or.inr rfl) (hf : X.fn x = true ∨ X.env.scope.names.lookup x = some .local := by first | exact Or.inl rfl | exact Or.inr rfl)
    (hn : (assignEach ts X.env).length = dd.length := by rfl) (hst : (assignEach ts X.env).findIdx? (·.1) = none := by rfl)
    (hn2 : (assignEach [.Name x px, .Tuple ts k pt] X.env).length = 2 := by rfl) (hst2 : (assignEach [.Name x px, .Tuple ts k pt] X.env).findIdx? (·.1) = none := by rfl)
    (g1 : swapsWithSole [.Tuple [.Name x px, .Tuple ts k pt] k2 pt2] e pos.line X.env = pure false := by rfl) (g2 : swappedStores [.Tuple [.Name x px, .Tuple ts k pt] k2 pt2] e X.env = pure none := by rfl)
    (g3 : (assignEach [.Tuple [.Name x px, .Tuple ts k pt] k2 pt2] X.env).map (·.2) = [assign (.Tuple [.Name x px, .Tuple ts k pt] k2 pt2) X.env] := by rfl)
    (c1 : (assignEach (.Name x px :: [.Tuple ts k pt]) X.env).map (·.2) = assign (.Name x px) X.env :: (assignEach [.Tuple ts k pt] X.env).map (·.2) := by rfl)
    (c2 : (assignEach (.Tuple ts k pt :: []) X.env).map (·.2) = assign (.Tuple ts k pt) X.env :: (assignEach [] X.env).map (·.2) := by rfl) :
    SJ X Γ B (.Assign [.Tuple [.Name x px, .Tuple ts k pt] k2 pt2] e pos :: rest) Es := fun g σ H0 H Ev O D G =>
  ⟨_, pss_cons (ps_asg (we e) (pg_tup hc (pgs_cons (pg_name nd hi hx hf) (pgs_cons (pg_tup hc hg hn hst) pgs_nil c2) c1) hn2 hst2) g1 g2 g3) (ws rest), h g σ H0 H Ev O _ fun v H1 H' t o r => by
    obtain ⟨p, xs, rfl, hxs, rs⟩ := rvT r
    cases rs with
    | cons r1 rs =>
      cases rs with
      | cons r2 rs =>
        cases rs
        obtain ⟨p2, xs2, rfl, hxs2, rs2⟩ := rvT (g := g) r2
        exact ⟨p, _, rfl, seqT o.ex hxs, rfl, _, _, rfl, _, _, rfl, p2, xs2, rfl, seqT o.ex hxs2, rs2.length, gNames_run is xs2 dd _ _ rs2 hl ((Ev.mono t.ex).set i (d := .da y1) r1) fun σ' e' => ⟨rfl, q g σ' H1 H' e' o D (G.on t)⟩⟩⟩
end
end Gd
set_option exponentiation.threshold 200000
namespace Lw
open PySem PySem.Spec PyProof PyProof.Rows L2 Gd Fr
open scoped Rat
theorem abs_cases (x : Rat) : (0 ≤ x ∧ absQ x = x) ∨ (x ≤ 0 ∧ absQ x = -x) := by
  unfold absQ; split <;> grind
def lexle (d1 v1 d2 v2 : Rat) : Prop := d1 < d2 ∨ (d1 = d2 ∧ v1 ≤ v2)
theorem lexle_refl (d v : Rat) : lexle d v d v := .inr ⟨rfl, Rat.le_refl⟩
theorem near_lex {y : Rat} {fs ls z : Int} (h : fs ≤ ls) (h1 : fs ≤ z) (h2 : z ≤ ls) :
    lexle (absQ ((min (max (ceQ (y - 1 / 2)) fs) ls : Int) - y)) ((min (max (ceQ (y - 1 / 2)) fs) ls : Int) : Rat) (absQ (z - y)) z := by
  have n1 : y - 1 / 2 ≤ (ceQ (y - 1 / 2) : Rat) := ce_le.mp (Int.le_refl _)
  have n2 : (ceQ (y - 1 / 2) : Rat) - 1 < y - 1 / 2 := by
    have h : ¬ (ceQ (y - 1 / 2) ≤ ceQ (y - 1 / 2) - 1) := by omega
    rw [ce_le, Rat.not_le] at h
    have : ((ceQ (y - 1 / 2) - 1 : Int) : Rat) = (ceQ (y - 1 / 2) : Rat) - 1 := by rw [Rat.intCast_sub]; rfl
    rwa [this] at h
  generalize ceQ (y - 1 / 2) = n at *
  have up : ∀ {a b : Int}, a < b → (a : Rat) + 1 ≤ (b : Rat) := fun {a b} h => by
    have := cast_le.mpr (show a + 1 ≤ b by omega)
    rwa [cast_s] at this
  unfold lexle
  by_cases a : n < fs
  · rw [show min (max n fs) ls = fs by omega]
    have := up a
    rcases Int.lt_or_eq_of_le h1 with k | k
    · have := up k
      rcases abs_cases ((fs : Rat) - y) with ⟨p, e⟩ | ⟨p, e⟩ <;> rcases abs_cases ((z : Rat) - y) with ⟨p', e'⟩ | ⟨p', e'⟩ <;> rw [e, e'] <;> left <;> grind
    · subst k; exact .inr ⟨rfl, Rat.le_refl⟩
  · by_cases c : ls < n
    · rw [show min (max n fs) ls = ls by omega]
      have := up c
      rcases Int.lt_or_eq_of_le h2 with k | k
      · have := up k
        rcases abs_cases ((ls : Rat) - y) with ⟨p, e⟩ | ⟨p, e⟩ <;> rcases abs_cases ((z : Rat) - y) with ⟨p', e'⟩ | ⟨p', e'⟩ <;> rw [e, e'] <;> left <;> grind
      · subst k; exact .inr ⟨rfl, Rat.le_refl⟩
    · rw [show min (max n fs) ls = n by omega]
      rcases Int.lt_trichotomy n z with k | k | k
      · have := up k
        by_cases t : absQ ((n : Rat) - y) < absQ ((z : Rat) - y)
        · exact .inl t
        · refine .inr ⟨?_, by grind⟩
          rcases abs_cases ((n : Rat) - y) with ⟨p, e⟩ | ⟨p, e⟩ <;> rcases abs_cases ((z : Rat) - y) with ⟨p', e'⟩ | ⟨p', e'⟩ <;> rw [e, e'] at t ⊢ <;> grind
      · subst k; exact .inr ⟨rfl, Rat.le_refl⟩
      · have := up k
        left
        rcases abs_cases ((n : Rat) - y) with ⟨p, e⟩ | ⟨p, e⟩ <;> rcases abs_cases ((z : Rat) - y) with ⟨p', e'⟩ | ⟨p', e'⟩ <;> rw [e, e'] <;> grind
theorem abs_mul {x g : Rat} (hg : 0 < g) : absQ (x * g) = absQ x * g := by
  have hx : x ≤ 0 → x * g ≤ 0 := fun h => by
    have := Rat.mul_le_mul_of_nonneg_right h (Rat.le_of_lt hg); rwa [Rat.zero_mul] at this
  have hx2 : 0 ≤ x → 0 ≤ x * g := fun h => Rat.mul_nonneg h (Rat.le_of_lt hg)
  rcases abs_cases x with ⟨p, e⟩ | ⟨p, e⟩ <;> rcases abs_cases (x * g) with ⟨p', e'⟩ | ⟨p', e'⟩ <;> rw [e, e']
  · have := hx2 p; grind
  · have := hx p; grind
  · grind
theorem lex_scale {X z : Int} {y g : Rat} (hg : 0 < g) (h : lexle (absQ (X - y)) X (absQ (z - y)) z) : lexle (absQ (X * g - y * g)) (X * g) (absQ (z * g - y * g)) (z * g) := by
  have e1 : (X : Rat) * g - y * g = (X - y) * g := by grind
  have e2 : (z : Rat) * g - y * g = (z - y) * g := by grind
  rw [e1, e2, abs_mul hg, abs_mul hg]
  rcases h with h | ⟨h, h'⟩
  · exact .inl (Rat.mul_lt_mul_of_pos_right h hg)
  · exact .inr ⟨by rw [h], Rat.mul_le_mul_of_nonneg_right h' (Rat.le_of_lt hg)⟩
section
variable {lo hi w : Rat} {k : Bool} {G t : Int} (l0 : 0 < lo) (lw : lo < w) (wh : w < hi) (hG : hasM lo hi k G) (hG1 : ¬ hasM lo hi k (G + 1)) (t1 : pw 10 t ≤ w) (t2 : w < pw 10 (t + 1))
include l0 lw wh hG
theorem sh_lex {E z : Int} (hE : hasM lo hi k E) (hz : inSt lo hi k ((z : Rat) * pw 10 E) = true) :
    lexle (absQ ((shX lo hi w k E : Rat) * pw 10 E - w)) ((shX lo hi w k E : Rat) * pw 10 E) (absQ ((z : Rat) * pw 10 E - w)) ((z : Rat) * pw 10 E) := by
  have lh : lo < hi := ltle lw (Rat.le_of_lt wh)
  have hf := (hasM_iff lh).mp hE
  have hz' := (mem_ms lh).mpr hz
  have h := lex_scale (pw_pos (b := 10) (by decide) E) (near_lex (y := w / pw 10 E) hf hz'.1 hz'.2)
  rw [Rat.div_mul_cancel (ten_ne E)] at h
  exact h
theorem sh_fl {E : Int} (hE : hasM lo hi k E) : shX lo hi w k E = flQ (w / pw 10 E) ∨ shX lo hi w k E = flQ (w / pw 10 E) + 1 := by
  have lh : lo < hi := ltle lw (Rat.le_of_lt wh)
  have hf := (hasM_iff lh).mp hE
  have wi := w_in l0 lw wh hG
  have f1 : (flQ (w / pw 10 E) : Rat) * pw 10 E ≤ w := (div_ten E).2.mp (le_fl.mp (Int.le_refl _))
  have f2 : w ≤ ((flQ (w / pw 10 E) + 1 : Int) : Rat) * pw 10 E := by
    have : ¬ (flQ (w / pw 10 E) + 1 ≤ flQ (w / pw 10 E)) := by omega
    rw [le_fl, (div_ten E).2, Rat.not_le] at this
    exact Rat.le_of_lt this
  have up := sh_le l0 lw wh hG f2 hE
  have n1 : flQ (w / pw 10 E) ≤ ceQ (w / pw 10 E - 1 / 2) := by
    refine Int.not_lt.mp fun z => ?_
    have a : w / pw 10 E - 1 / 2 ≤ (ceQ (w / pw 10 E - 1 / 2) : Rat) := ce_le.mp (Int.le_refl _)
    have b := cast_le.mpr (show ceQ (w / pw 10 E - 1 / 2) + 1 ≤ flQ (w / pw 10 E) by omega)
    rw [cast_s] at b
    have c : (flQ (w / pw 10 E) : Rat) ≤ w / pw 10 E := le_fl.mp (Int.le_refl _)
    grind
  have n2 : flQ (w / pw 10 E) ≤ lsQ hi k E := by
    refine Int.not_lt.mp fun z => ?_
    have m := (mem_ms (q := lsQ hi k E) lh).mp ⟨hf, Int.le_refl _⟩
    have le : (lsQ hi k E : Rat) * pw 10 E ≤ (flQ (w / pw 10 E) : Rat) * pw 10 E := Rat.mul_le_mul_of_nonneg_right (cast_le.mpr (by omega)) (Rat.le_of_lt (pw_pos (by decide) E))
    have := (mem_ms lh).mpr (st_conv m wi le f1)
    omega
  have dn : flQ (w / pw 10 E) ≤ shX lo hi w k E := by unfold shX; omega
  omega
include hG1 t1 t2
theorem great_le {e : Int} (h : hasM lo hi k e) : e ≤ G := Int.not_lt.mp fun z => hG1 (has_down h (by omega))
theorem sh_end (h2 : hi ≤ w * 2) : shE w G ≤ t ∧ ∀ M : Nat, 1 ≤ M → hasM lo hi k (t + 1 - M) → t + 1 - M ≤ shE w G := by
  unfold shE
  by_cases hw : w < pw 10 G
  · rw [if_pos hw]
    have g1 : t < G := Int.not_le.mp fun z => absurd (ltle hw (pw_mono (by decide) z)) (Rat.not_lt.mpr t1)
    have g2 : G < t + 2 := by
      obtain ⟨q, hq⟩ := hG
      have pe := pw_pos (b := 10) (by decide) G
      have bnd : lo ≤ (q : Rat) * pw 10 G ∧ (q : Rat) * pw 10 G ≤ hi := by
        unfold inSt at hq
        rw [decide_eq_true_iff] at hq
        rcases hq with ⟨a, b⟩ | ⟨_, a, b⟩
        · exact ⟨Rat.le_of_lt a, Rat.le_of_lt b⟩
        · exact ⟨a, b⟩
      have q1 : 1 ≤ q := by
        refine Int.not_lt.mp fun z => ?_
        have : (q : Rat) * pw 10 G ≤ ((0 : Int) : Rat) * pw 10 G := Rat.mul_le_mul_of_nonneg_right (cast_le.mpr (by omega)) (Rat.le_of_lt pe)
        rw [Rat.intCast_zero, Rat.zero_mul] at this
        grind
      have : ((1 : Int) : Rat) * pw 10 G ≤ (q : Rat) * pw 10 G := Rat.mul_le_mul_of_nonneg_right (cast_le.mpr q1) (Rat.le_of_lt pe)
      rw [show ((1 : Int) : Rat) = 1 from rfl, Rat.one_mul] at this
      refine Int.not_le.mp fun z => ?_
      have m := pw_mono (b := 10) (by decide) z
      have e10 : pw 10 (t + 2) = pw 10 (t + 1) * 10 := by
        have : (10 : Rat) = pw 10 ((1 : Nat) : Int) := by rw [pw_nat]; rfl
        rw [this, ← pw_add (by decide)]; congr 1; omega
      rw [e10] at m
      have pt := pw_pos (b := 10) (by decide) (t + 1)
      grind
    exact ⟨by omega, fun M h1 _ => by omega⟩
  · rw [if_neg hw]
    have gt : G ≤ t := Int.not_lt.mp fun z => hw (ltle t2 (pw_mono (by decide) (by omega)))
    exact ⟨gt, fun M _ hM => great_le l0 lw wh hG hG1 t1 t2 hM⟩
omit hG hG1 in
theorem cand_mult {M : Nat} {at' q : Int} (hM : 1 ≤ M) (ha : at' = t + 1 - M - 1 ∨ at' = t + 1 - M ∨ at' = t + 1 - M + 1) (hq : q = flQ (w / pw 10 at') ∨ q = flQ (w / pw 10 at') + 1) (h1 : q ≤ ((10 ^ M : Nat) : Int)) :
    ∃ z : Int, (q : Rat) * pw 10 at' = (z : Rat) * pw 10 (t + 1 - M) := by
  rcases ha with rfl | rfl | rfl
  · have f : ((10 ^ M : Nat) : Int) ≤ flQ (w / pw 10 (t + 1 - M - 1)) := by
      rw [le_fl, (div_ten _).2, Rat.intCast_natCast, ← pw_nat, ← pw_add (by decide), show (M : Int) + (t + 1 - M - 1) = t by omega]
      exact t1
    have e : q = ((10 ^ M : Nat) : Int) := by omega
    refine ⟨((10 ^ (M - 1) : Nat) : Int), ?_⟩
    rw [e, Rat.intCast_natCast, Rat.intCast_natCast, ← pw_nat, ← pw_nat, ← pw_add (by decide), ← pw_add (by decide)]
    congr 1; omega
  · exact ⟨q, rfl⟩
  · refine ⟨q * 10, ?_⟩
    rw [Rat.intCast_mul, Rat.mul_assoc]
    have : ((10 : Int) : Rat) = pw 10 ((1 : Nat) : Int) := by rw [pw_nat]; rfl
    rw [this, ← pw_add (by decide)]
    congr 2; omega
end
end Lw
set_option exponentiation.threshold 200000
namespace Lw
open PySem PySem.Spec PyProof PyProof.Rows L2 Gd Fr
open scoped Rat
theorem fl_div {N D : Int} {y : Rat} (hD : 0 < D) (h : (N : Rat) = y * (D : Rat)) : N / D = flQ y := by
  obtain ⟨g, g0, r1, r2⟩ := rep hD h
  unfold flQ; rw [r1, r2]; exact Int.mul_ediv_mul_of_pos_left _ _ g0
theorem abs_int (z : Int) : (((if z < 0 then -z else z) : Int) : Rat) = absQ (z : Rat) := by
  by_cases h : z < 0
  · rw [if_pos h, Rat.intCast_neg]
    have := cast_le.mpr (show z ≤ 0 by omega)
    rw [Rat.intCast_zero] at this
    rcases abs_cases (z : Rat) with ⟨p, e⟩ | ⟨p, e⟩ <;> rw [e] <;> grind
  · rw [if_neg h]
    have := cast_le.mpr (show 0 ≤ z by omega)
    rw [Rat.intCast_zero] at this
    rcases abs_cases (z : Rat) with ⟨p, e⟩ | ⟨p, e⟩ <;> rw [e] <;> grind
theorem rep_bd {y : Rat} {N D : Int} (hD : 0 < D) (h : (N : Rat) = y * (D : Rat)) {n m : Nat} (b1 : Bd n N) (b2 : Bd m D) : Bd n y.num ∧ Bd m (y.den : Int) := by
  obtain ⟨g, g0, r1, r2⟩ := rep hD h
  unfold Bd at *
  have e1 : N.natAbs = y.num.natAbs * g.natAbs := by rw [r1, Int.natAbs_mul]
  have e2 : D.natAbs = (y.den : Int).natAbs * g.natAbs := by rw [r2, Int.natAbs_mul]
  have g1 : 1 ≤ g.natAbs := by omega
  have a1 : y.num.natAbs * 1 ≤ y.num.natAbs * g.natAbs := Nat.mul_le_mul_left _ g1
  have a2 : (y.den : Int).natAbs * 1 ≤ (y.den : Int).natAbs * g.natAbs := Nat.mul_le_mul_left _ g1
  omega
theorem cl_id {c e : Int} (h1 : -4000 ≤ e) (h2 : e ≤ 4000) : clE c e = e := by
  unfold clE; split <;> omega
theorem abs_bd {n : Nat} {z : Int} (h : Bd n z) : Bd n (if z < 0 then -z else z) := by
  unfold Bd at *; split <;> omega
def dsE (w : Rat) (x : Int × Int) : Rat := absQ ((x.1 : Rat) * pw 10 x.2 - w)
def vlE (x : Int × Int) : Rat := (x.1 : Rat) * pw 10 x.2
def entP (w : Rat) (x : Int × Int) : PyData := .tuple [fq (dsE w x), .int x.1, .int x.2]
theorem far_val {q a n d : Int} {w : Rat} (hq : (n : Rat) = w * (d : Rat)) :
    (((if q * ((10 ^ a.toNat : Nat) : Int) * d - n * ((10 ^ (-a).toNat : Nat) : Int) < 0 then -(q * ((10 ^ a.toNat : Nat) : Int) * d - n * ((10 ^ (-a).toNat : Nat) : Int)) else q * ((10 ^ a.toNat : Nat) : Int) * d - n * ((10 ^ (-a).toNat : Nat) : Int)) : Int) : Rat) = dsE w (q, a) * absQ ((d * ((10 ^ (-a).toNat : Nat) : Int) : Int) : Rat) := by
  have hs := sz_val (b := 10) (by decide) q a
  unfold szP at hs
  dsimp only at hs
  rw [abs_int, Rat.intCast_sub, Rat.intCast_mul (q * ((10 ^ a.toNat : Nat) : Int)), hs, Rat.intCast_mul n, hq, Rat.intCast_mul d]
  unfold dsE
  dsimp only
  generalize (((10 ^ (-a).toNat : Nat) : Int) : Rat) = v
  generalize (q : Rat) * pw 10 a = x
  have e : x * v * (d : Rat) - w * (d : Rat) * v = (x - w) * ((d : Rat) * v) := by grind
  rw [e]
  generalize (d : Rat) * v = y
  generalize x - w = z
  rcases abs_cases z with ⟨p1, e1⟩ | ⟨p1, e1⟩ <;> rcases abs_cases y with ⟨p2, e2⟩ | ⟨p2, e2⟩ <;> rw [e1, e2]
  · have := Rat.mul_nonneg p1 p2
    rcases abs_cases (z * y) with ⟨p, e⟩ | ⟨p, e⟩ <;> rw [e] <;> grind
  · have := Rat.mul_nonneg p1 (show 0 ≤ -y by grind)
    rcases abs_cases (z * y) with ⟨p, e⟩ | ⟨p, e⟩ <;> rw [e] <;> grind
  · have := Rat.mul_nonneg (show 0 ≤ -z by grind) p2
    rcases abs_cases (z * y) with ⟨p, e⟩ | ⟨p, e⟩ <;> rw [e] <;> grind
  · have := Rat.mul_nonneg (show 0 ≤ -z by grind) (show 0 ≤ -y by grind)
    rcases abs_cases (z * y) with ⟨p, e⟩ | ⟨p, e⟩ <;> rw [e] <;> grind
structure Cand (lo hi w : Rat) (k : Bool) (t : Int) (M : Nat) (x : Int × Int) : Prop where
  q0 : 0 < x.1
  qM : x.1 ≤ ((10 ^ M : Nat) : Int)
  ins : inSt lo hi k ((x.1 : Rat) * pw 10 x.2) = true
  mul : ∃ z : Int, (x.1 : Rat) * pw 10 x.2 = (z : Rat) * pw 10 (t + 1 - M)
  a1 : t - M ≤ x.2
  a2 : x.2 ≤ t + 2 - M
  b1 : Bd 20000 (dsE w x).num
  b2 : Bd 20000 ((dsE w x).den : Int)
structure ShC (lo hi w : Rat) (k : Bool) (G t : Int) (M0 : Nat) (X E : Int) : Prop where
  l0 : 0 < lo
  lw : lo < w
  wh : w < hi
  hG : hasM lo hi k G
  hG1 : ¬ hasM lo hi k (G + 1)
  t1 : pw 10 t ≤ w
  t2 : w < pw 10 (t + 1)
  h2 : hi ≤ w * 2
  hE : E = shE w G
  hX : X = shX lo hi w k E
  hM : (M0 : Int) = t + 1 - E
theorem shc_ex {lo hi w : Rat} {k : Bool} {G t : Int} (l0 : 0 < lo) (lw : lo < w) (wh : w < hi) (hG : hasM lo hi k G) (hG1 : ¬ hasM lo hi k (G + 1)) (t1 : pw 10 t ≤ w) (t2 : w < pw 10 (t + 1)) (h2 : hi ≤ w * 2) :
    ∃ M0 : Nat, ShC lo hi w k G t M0 (shX lo hi w k (shE w G)) (shE w G) := by
  have := (sh_end l0 lw wh hG hG1 t1 t2 h2).1
  exact ⟨(t + 1 - shE w G).toNat, ⟨l0, lw, wh, hG, hG1, t1, t2, h2, rfl, rfl, by omega⟩⟩
section
variable {lo hi w : Rat} {k : Bool} {G t : Int} {M0 : Nat} {X E : Int} (C : ShC lo hi w k G t M0 X E)
include C
theorem ShC.m1 : 1 ≤ M0 := by
  have := (sh_end C.l0 C.lw C.wh C.hG C.hG1 C.t1 C.t2 C.h2).1
  have h1 := C.hM; have h2 := C.hE
  omega
theorem ShC.he : hasM lo hi k E := by
  rw [C.hE]
  exact has_down C.hG (by unfold shE; split <;> omega)
theorem ShC.ge {m : Nat} {x : Int × Int} (h1 : 1 ≤ m) (h : Cand lo hi w k t m x) : M0 ≤ m := by
  obtain ⟨z, hz⟩ := h.mul
  have hm : hasM lo hi k (t + 1 - m) := ⟨z, by rw [← hz]; exact h.ins⟩
  have := (sh_end C.l0 C.lw C.wh C.hG C.hG1 C.t1 C.t2 C.h2).2 m h1 hm
  have h1 := C.hM; have h2 := C.hE
  omega
theorem ShC.xin : 0 < X ∧ inSt lo hi k ((X : Rat) * pw 10 E) = true ∧ X ≤ ((10 ^ M0 : Nat) : Int) := by
  have h := sh_in C.l0 C.lw C.wh C.hG
  rw [← C.hE, ← C.hX] at h
  refine ⟨h.1, h.2, ?_⟩
  rw [C.hX]
  refine sh_le C.l0 C.lw C.wh C.hG ?_ C.he
  rw [Rat.intCast_natCast, ← pw_nat, ← pw_add (by decide), show (M0 : Int) + E = t + 1 by have := C.hM; omega]
  exact Rat.le_of_lt C.t2
theorem ShC.fl : X = flQ (w / pw 10 E) ∨ X = flQ (w / pw 10 E) + 1 := by
  rw [C.hX]; exact sh_fl C.l0 C.lw C.wh C.hG C.he
theorem ShC.best {b : Int × Int} (hb : Cand lo hi w k t M0 b) (h : lexle (dsE w b) (vlE b) (dsE w (X, E)) (vlE (X, E))) : vlE b = vlE (X, E) := by
  obtain ⟨z, hz⟩ := hb.mul
  have e : t + 1 - (M0 : Int) = E := by have := C.hM; omega
  rw [e] at hz
  have h2 := sh_lex C.l0 C.lw C.wh C.hG C.he (z := z) (by rw [← hz]; exact hb.ins)
  rw [← hz, ← C.hX] at h2
  unfold lexle at h h2
  unfold dsE vlE at *
  dsimp only at *
  rcases h with h | ⟨h, h'⟩ <;> rcases h2 with h2 | ⟨h2, h2'⟩
  · exfalso; grind
  · exfalso; grind
  · exfalso; grind
  · exact Rat.le_antisymm h' h2'
end
theorem st_two {b : Nat} {c e : Int} (b2 : 2 ≤ b) (c0 : 0 < c) : stHi b c e ≤ (c : Rat) * pw b e * 2 := by
  unfold stHi
  have pe := pw_pos b2 e
  have : ((1 : Int) : Rat) * pw b e ≤ (c : Rat) * pw b e := Rat.mul_le_mul_of_nonneg_right (cast_le.mpr (by omega)) (Rat.le_of_lt pe)
  rw [show ((1 : Int) : Rat) = 1 from rfl, Rat.one_mul] at this
  grind
inductive R_lshort : Rel
  | zero (b p : Nat) (low high s : Int) (B : Bag) : R_lshort [.da (fmP b p low high), .da (Va.num s 0 low).d] B (dcD s 0 0) B
  | mk (b p : Nat) (low high s c e G : Int) (B : Bag) (F : FmR b p low high) (N : NumC b p low high s c e) (hG : hasM (stLo b p low c e) (stHi b c e) (decide (c % 2 = 0)) G) (hG1 : ¬ hasM (stLo b p low c e) (stHi b c e) (decide (c % 2 = 0)) (G + 1)) (g1 : -1304 ≤ G) (g2 : G ≤ 400) :
      R_lshort [.da (fmP b p low high), .da (Va.num s c e).d] B (trP s (shX (stLo b p low c e) (stHi b c e) ((c : Rat) * pw b e) (decide (c % 2 = 0)) (shE ((c : Rat) * pw b e) G)).toNat (shE ((c : Rat) * pw b e) G)) B
inductive R_shortZ : Rel
  | mk (b p : Nat) (low high s : Int) (B : Bag) : R_shortZ [.da (fmP b p low high), .da (Va.num s 0 low).d] B (dcD s 0 0) B
inductive R_isdec : Rel
  | mk (s : Int) (c : Nat) (e : Int) (B : Bag) (hs : s = 0 ∨ s = 1) : R_isdec [.da (dcD s c e)] B (.bool true) B
inductive R_isshort : Rel
  | mk (b p : Nat) (low high s : Int) (v : PyData) (c : Nat) (e : Int) (B : Bag) (hs : s = 0 ∨ s = 1) (h : R_short [.da (fmP b p low high), .da v] B (dcD s c e) B ∨ R_shortZ [.da (fmP b p low high), .da v] B (dcD s c e) B) :
      R_isshort [.da (fmP b p low high), .da v, .da (dcD s c e)] B (.bool true) B
theorem ent_sh (w : Rat) (x : Int × Int) : Sh 2 (entP w x) := by
  unfold entP fq
  refine Sh.tup fun d hd => ?_
  simp only [List.mem_cons, List.not_mem_nil, or_false] at hd
  rcases hd with rfl | rfl | rfl
  · refine Sh.tup fun d hd => ?_
    simp only [List.mem_cons, List.not_mem_nil, or_false] at hd
    rcases hd with rfl | rfl <;> exact Sh.int _
  · exact (Sh.int _).mono (by decide)
  · exact (Sh.int _).mono (by decide)
theorem ents_sh (w : Rat) (L : List (Int × Int)) : SeqAt.shaped (.list (L.map (entP w))) = true :=
  (Sh.lst (n := 2) fun d hd => by obtain ⟨x, _, rfl⟩ := List.mem_map.mp hd; exact ent_sh w x).shaped
theorem ents_nil (w : Rat) (L : List (Int × Int)) : PyData.eqv (.list (L.map (entP w))) (.list []) = L.isEmpty := by
  cases L <;> simp [PyData.eqv, PyData.eqvAll]
end Lw
namespace Lw
open PySem PySem.Spec PyProof PyProof.Rows L2 Gd Fr
open scoped Rat
theorem lexle_trans {d1 v1 d2 v2 d3 v3 : Rat} (h : lexle d1 v1 d2 v2) (g : lexle d2 v2 d3 v3) : lexle d1 v1 d3 v3 := by
  unfold lexle at *
  rcases h with h | ⟨h, h'⟩ <;> rcases g with g | ⟨g, g'⟩
  · left; grind
  · left; grind
  · left; grind
  · right; exact ⟨h.trans g, Rat.le_trans h' g'⟩
theorem lexle_of {d1 v1 d2 v2 : Rat} (h : d1 < d2 ∨ (d1 = d2 ∧ v1 < v2)) : lexle d1 v1 d2 v2 := by
  rcases h with h | ⟨h, h'⟩
  · exact .inl h
  · exact .inr ⟨h, Rat.le_of_lt h'⟩
theorem lexle_not {d1 v1 d2 v2 : Rat} (h : ¬ (d1 < d2 ∨ (d1 = d2 ∧ v1 < v2))) : lexle d2 v2 d1 v1 := by
  unfold lexle
  by_cases a : d2 < d1
  · exact .inl a
  · have h1 : ¬ d1 < d2 := fun z => h (.inl z)
    have e : d1 = d2 := Rat.le_antisymm (Rat.not_lt.mp a) (Rat.not_lt.mp h1)
    exact .inr ⟨e.symm, Rat.not_lt.mp fun z => h (.inr ⟨e, z⟩)⟩
theorem crs_lt {n d x v : Int} {u q : Rat} (d0 : 0 < d) (v0 : 0 < v) (hx : (x : Rat) = u * (v : Rat)) (h : (n : Rat) = q * (d : Rat)) : (n * v - x * d < 0 ↔ q < u) ∧ (n * v - x * d = 0 ↔ q = u) := by
  obtain ⟨k1, k2, k3, k4⟩ := cmp_sgn d0 v0 hx h
  constructor
  · rw [← Rat.not_le, ← k2]; omega
  · constructor
    · intro z
      exact Rat.le_antisymm (k4.mp (by omega)) (k2.mp (by omega))
    · intro z
      subst z
      have a := k2.mpr Rat.le_refl
      have b := k4.mpr Rat.le_refl
      omega
theorem pick_dec {a b : Int} {d1 v1 d2 v2 : Rat} (ha : (a < 0 ↔ d1 < d2) ∧ (a = 0 ↔ d1 = d2)) (hb : b < 0 ↔ v1 < v2) : (decide (a < 0) || (decide (a = 0) && decide (b < 0))) = decide (d1 < d2 ∨ (d1 = d2 ∧ v1 < v2)) := by
  rw [← Bool.decide_and, ← Bool.decide_or]
  exact decide_eq_decide.mpr (or_congr ha.1 (and_congr ha.2 hb))
end Lw
set_option exponentiation.threshold 20000
namespace K38
open PySem PySem.Spec PyProof.Rows L2 Gd Fr Lw
open scoped Rat

def topS (i : Nat) : Stmt := PySem.Challenge.pw_nearestheld_k38_shortest_decimals.main.body.getD i (.Pass ⟨0, 0, 0, 0⟩)
variable {P : Program} {w : World} {K : PySem.W.Frag} {mg : Str → Option Value} {base : Heap}

abbrev s_integer_power : Stmt := topS 2
theorem sc_integer_power : FnScope ["base", "e", "power"] ["base", "e"] (defScope s_integer_power) := ⟨rfl, rfl, rfl, by decide +kernel, rfl, by decide +kernel, by decide +kernel⟩

theorem c_of_integer_power (T : At K mg "integer_power" s_integer_power ["base", "e"]) : Cal P w K mg base "integer_power" 4 R_pow :=
  cal_at T sc_integer_power (by rintro _ _ _ _ ⟨⟩; rfl) fun f cd0 A out s H E G Γ B r B' hR => by
  obtain ⟨b, e, B, hb, he⟩ := hR
  refine sj_set 2 G.nd ej_int ?_
  refine sj_while G.nd (fun Γ' B' => ∃ k m j : Nat, Γ' = [.da (.int ((b ^ k : Nat) : Int)), .da (.int m), .da (.int ((b ^ j : Nat) : Int))] ∧ j + k * m = e ∧ B' = B) (fun Γ' _ => (intAt Γ' 1).toNat)
    ⟨1, e, 0, by rw [Nat.pow_one]; rfl, by omega, rfl⟩ ?_
  rintro Γ' B' ⟨k, m, j, rfl, hk, rfl⟩
  refine ⟨_, tj_gt (ej_dat 1) ej_int, fun h => ?_, fun h => ?_⟩
  · have hm : 0 < m := by have := of_decide_eq_true h; omega
    obtain ⟨k1, j1⟩ := k_le hk hm
    refine sj_ifM (fun Γ' B2 => ∃ j' : Nat, Γ' = [.da (.int ((b ^ k : Nat) : Int)), .da (.int m), .da (.int ((b ^ j' : Nat) : Int))] ∧ j' + (k + k) * (m / 2) = e ∧ B2 = B') (tj_eqI G.hu (ej_mod (ej_dat 1) ej_int (by decide)) ej_int) (fun h1 => ?_) (fun h1 => ?_) ?_
    · refine sj_set 2 G.nd (ej_mul (ej_dat 2) (ej_dat 0) (cm (bd_pow j hb) (bd_pow k hb) (by omega))) (sj_nil ?_)
      rw [pow_up]
      exact ⟨j + k, rfl, turn_odd hk (by have := of_decide_eq_true h1; omega), rfl⟩
    · exact sj_nil ⟨j, rfl, turn_even hk (by have := of_decide_eq_false h1; omega), rfl⟩
    · rintro Γ2 B2 ⟨j', rfl, hj', rfl⟩
      refine sj_set 0 G.nd (ej_mul (ej_dat 0) (ej_dat 0) (cm (bd_pow k hb) (bd_pow k hb) (by omega))) ?_
      refine sj_set 1 G.nd (ej_fdiv (ej_dat 1) ej_int (cdv (show Bd 2 2 from by unfold Bd; decide) (by decide))) (sj_nil ?_)
      rw [pow_sq, half]
      exact ⟨⟨k + k, m / 2, j', rfl, hj', rfl⟩, show ((m / 2 : Nat) : Int).toNat < (m : Int).toNat by omega⟩
  · have hm : ¬ 0 < m := by have := of_decide_eq_false h; omega
    have := j_end hk hm
    subst this
    exact sj_ret (ej_dat 2) ⟨rfl, rfl⟩

abbrev s_is_integer : Stmt := topS 3
theorem sc_is_integer : FnScope ["thing"] ["thing"] (defScope s_is_integer) := ⟨rfl, rfl, rfl, by decide +kernel, rfl, by decide +kernel, by decide +kernel⟩

theorem c_of_is_integer (m_isinstance : mg "isinstance" = none) (m_int : mg "int" = none) (m_bool : mg "bool" = none) (T : At K mg "is_integer" s_is_integer ["thing"]) : Cal P w K mg base "is_integer" 4 R_anyint :=
  cal_at T sc_is_integer (by rintro _ _ _ _ ⟨⟩; rfl) fun f cd0 A out s H E0 G Γ B r B' hR => by
  obtain ⟨d, B⟩ := hR
  cases d with
  | int i => exact sj_ret (ej_and (x := true) (y := true) (ej_isi (T := "int") (r := true) m_isinstance m_int (ej_dat (d := .int i) 0)) fun _ => ej_one (ej_not (x := false) (ej_isi (T := "bool") (r := false) m_isinstance m_bool (ej_dat (d := .int i) 0)))) ⟨rfl, rfl⟩
  | bool i => exact sj_ret (ej_and (x := true) (y := false) (ej_isi (T := "int") (r := true) m_isinstance m_int (ej_dat (d := .bool i) 0)) fun _ => ej_one (ej_not (x := true) (ej_isi (T := "bool") (r := true) m_isinstance m_bool (ej_dat (d := .bool i) 0)))) ⟨rfl, rfl⟩
  | none => exact sj_ret (ej_and (x := false) (y := true) (ej_isi (T := "int") (r := false) m_isinstance m_int (ej_dat (d := .none) 0)) fun h => Bool.noConfusion h) ⟨rfl, rfl⟩
  | str x => exact sj_ret (ej_and (x := false) (y := true) (ej_isi (T := "int") (r := false) m_isinstance m_int (ej_dat (d := .str x) 0)) fun h => Bool.noConfusion h) ⟨rfl, rfl⟩
  | list x => exact sj_ret (ej_and (x := false) (y := true) (ej_isi (T := "int") (r := false) m_isinstance m_int (ej_dat (d := .list x) 0)) fun h => Bool.noConfusion h) ⟨rfl, rfl⟩
  | tuple x => exact sj_ret (ej_and (x := false) (y := true) (ej_isi (T := "int") (r := false) m_isinstance m_int (ej_dat (d := .tuple x) 0)) fun h => Bool.noConfusion h) ⟨rfl, rfl⟩
  | dict x => exact sj_ret (ej_and (x := false) (y := true) (ej_isi (T := "int") (r := false) m_isinstance m_int (ej_dat (d := .dict x) 0)) fun h => Bool.noConfusion h) ⟨rfl, rfl⟩

abbrev s_reduced : Stmt := topS 5
theorem sc_reduced : FnScope ["n", "d", "ahead", "behind", "twos", "common"] ["n", "d"] (defScope s_reduced) := ⟨rfl, rfl, rfl, by decide +kernel, rfl, by decide +kernel, by decide +kernel⟩

theorem c_of_reduced (m_gcd : mg "gcd" = some (.builtin "math.gcd")) (m_min : mg "min" = none) (c_u_twos_in : Cal P w K mg base "_twos_in" 1 R_twos) (T : At K mg "reduced" s_reduced ["n", "d"]) : Cal P w K mg base "reduced" 3 R_redW :=
  cal_at T sc_reduced (by rintro _ _ _ _ ⟨⟩; rfl) fun f cd0 A out s H E G Γ B r B' hR => by
  obtain ⟨n, d, B, hd, hb⟩ := hR
  refine sj_when (tj_eqI G.hu (ej_dat 0) ej_int) (fun h => ?_) (fun h => ?_)
  · have h0 : n = 0 := of_decide_eq_true h
    subst h0
    exact sj_ret (ej_tupD (ad_cons ej_int (ad_cons ej_int ad_nil)) (Nat.le_of_ble_eq_true rfl)) ⟨by rw [Rat.zero_divInt]; rfl, rfl⟩
  · have hn : n ≠ 0 := of_decide_eq_false h
    obtain ⟨i, a, rfl⟩ := tw_ex hn
    obtain ⟨j, b, rfl⟩ := tw_ex hd
    refine sj_par 2 3 G.nd G.calm (aj_cons (ej_call c_u_twos_in (G.le (by decide)) (aj_cons (ej_dat 0) aj_nil) (R_twos.mk i a B)) (aj_cons (ej_call c_u_twos_in (G.le (by decide)) (aj_cons (ej_dat 1) aj_nil) (R_twos.mk j b B)) aj_nil)) ?_ (by decide) (by rfl)
    obtain ⟨t, hi, hj, ht, em⟩ : ∃ t : Nat, t ≤ i ∧ t ≤ j ∧ (t = i ∨ t = j) ∧ min (i : Int) (j : Int) = (t : Int) := ⟨min i j, by omega, by omega, by omega, by omega⟩
    refine sj_set 4 G.nd (ej_is (ej_min G.calm m_min (ej_dat 2) (ej_dat 3)) (congrArg PyData.int em)) ?_
    refine sj_par 0 1 G.nd G.calm (aj_cons (ej_is (ej_shr (ej_dat 0) (ej_dat 4)) (congrArg PyData.int (tw_shr hi a))) (aj_cons (ej_is (ej_shr (ej_dat 1) (ej_dat 4)) (congrArg PyData.int (tw_shr hj b))) aj_nil)) ?_ (by decide) (by rfl)
    have ek : (j : Int) - (t : Int) = ((j - t : Nat) : Int) := by omega
    have e0 : tw (j - t) b / 2 ^ (j - t) = tw 0 b := by rw [tw_shr (Nat.le_refl _), Nat.sub_self]
    refine sj_set 5 G.nd (ej_gcd m_gcd (ej_dat 0) (ej_is (ej_shr (ej_dat 1) (ej_is (ej_sub (ej_dat 3) (ej_dat 4)) (congrArg PyData.int ek))) (congrArg PyData.int e0))) ?_
    have hd' : tw (j - t) b ≠ 0 := tw_ne _ _
    have eg : Nat.gcd (tw (i - t) a).natAbs (tw 0 b).natAbs = Nat.gcd (tw (i - t) a).natAbs (tw (j - t) b).natAbs := by
      refine (gcd_odd _ b ?_).symm
      rcases ht with rfl | rfl
      · left; rw [Nat.sub_self]; exact tw_odd a
      · right; exact Nat.sub_self _
    rw [eg, divInt_tw hi hj a b]
    have cx : ∀ m, CDivX m (com (tw (i - t) a) (tw (j - t) b)) := fun m => by
      rcases hb with hb | hb
      · exact cdx (com_bdN (tw_ne _ _) (bd_tw hb (Nat.sub_le _ _))) (com_ne hd')
      · exact cdx (com_bd hd' (bd_tw hb (Nat.sub_le _ _))) (com_ne hd')
    refine sj_if (tj_lt (ej_dat 1) ej_int) (fun h => ?_) (fun h => ?_)
    · refine sj_set 5 G.nd (ej_neg (ej_dat 5)) (sj_nil ?_)
      have e : -((Nat.gcd (tw (i - t) a).natAbs (tw (j - t) b).natAbs : Nat) : Int) = com (tw (i - t) a) (tw (j - t) b) := (if_pos (of_decide_eq_true h)).symm
      rw [e]
      exact sj_ret (ej_tupD (ad_cons (ej_fdivX (ej_dat 0) (ej_dat 5) (cx _)) (ad_cons (ej_fdivX (ej_dat 1) (ej_dat 5) (cx _)) ad_nil)) (Nat.le_of_ble_eq_true rfl)) ⟨by rw [red_num hd', red_den hd']; rfl, rfl⟩
    · refine sj_nil ?_
      have e : ((Nat.gcd (tw (i - t) a).natAbs (tw (j - t) b).natAbs : Nat) : Int) = com (tw (i - t) a) (tw (j - t) b) := (if_neg (of_decide_eq_false h)).symm
      rw [e]
      exact sj_ret (ej_tupD (ad_cons (ej_fdivX (ej_dat 0) (ej_dat 5) (cx _)) (ad_cons (ej_fdivX (ej_dat 1) (ej_dat 5) (cx _)) ad_nil)) (Nat.le_of_ble_eq_true rfl)) ⟨by rw [red_num hd', red_den hd']; rfl, rfl⟩

abbrev s_added : Stmt := topS 6
theorem sc_added : FnScope ["one", "other", "common", "left", "right", "n", "rest"] ["one", "other"] (defScope s_added) := ⟨rfl, rfl, rfl, by decide +kernel, rfl, by decide +kernel, by decide +kernel⟩

theorem c_of_added (m_gcd : mg "gcd" = some (.builtin "math.gcd")) (c_reduced : Cal P w K mg base "reduced" 3 R_redW) (T : At K mg "added" s_added ["one", "other"]) : Cal P w K mg base "added" 4 (R_two (· + ·)) :=
  cal_at T sc_added (by rintro _ _ _ _ ⟨⟩; rfl) fun f cd0 A out s H E G Γ B r B' hR => by
  have c_reduced := c_reduced.imp red_redW
  obtain ⟨n, d, m, c, x, y, B, hx, hy, h1, h2, h3⟩ := hR
  obtain ⟨gp, bg, bl, br, el, er, fin⟩ := add_by x y hx hy
  refine sj_set 2 G.nd (ej_gcd m_gcd (ej_at (ej_dat (d := fq x) 0)) (ej_at (ej_dat (d := fq y) 1))) ?_
  refine sj_par 3 4 G.nd G.calm (aj_cons (ej_is (ej_fdiv (ej_at (ej_dat (d := fq x) 0)) (ej_dat 2) (cdv bg gp (by omega))) (congrArg PyData.int el)) (aj_cons (ej_is (ej_fdiv (ej_at (ej_dat (d := fq y) 1)) (ej_dat 2) (cdv bg gp (by omega))) (congrArg PyData.int er)) aj_nil)) ?_ (by decide) (by rfl)
  refine sj_unpack [5, 6] G.calm (ej_call c_reduced (G.le (by decide)) (aj_cons (ej_add (ej_mul (ej_at (ej_dat (d := fq x) 0)) (ej_dat 4) (cmz hx.nu br)) (ej_mul (ej_at (ej_dat (d := fq y) 1)) (ej_dat 3) (cmz hy.nu bl))) (aj_cons (ej_dat 2) aj_nil)) (R_reduced.mk _ _ _ (Int.ne_of_gt gp) (bg.le (by omega)))) (pgs_cons (pg_name (i := 5) G.nd rfl (Or.inl rfl)) (pgs_cons (pg_name (i := 6) G.nd rfl (Or.inl rfl)) pgs_nil)) rfl ?_
  have b3 := (divInt_bd (n := x.num * ((addR x y : Nat) : Int) + y.num * ((addL x y : Nat) : Int)) (Int.ne_of_gt gp) (Bd.add (hx.nu.mul br) (hy.nu.mul bl)) bg).2
  exact sj_ret (ej_tupD (ad_cons (ej_dat 5) (ad_cons (ej_mul (ej_mul (ej_dat 3) (ej_dat 4) (cmz bl br)) (ej_dat 6) (cmz (bl.mul br) b3)) ad_nil)) (Nat.le_of_ble_eq_true rfl)) ⟨fin, rfl⟩

abbrev s_lessened : Stmt := topS 7
theorem sc_lessened : FnScope ["one", "other"] ["one", "other"] (defScope s_lessened) := ⟨rfl, rfl, rfl, by decide +kernel, rfl, by decide +kernel, by decide +kernel⟩

theorem c_of_lessened (c_added : Cal P w K mg base "added" 4 (R_two (· + ·))) (T : At K mg "lessened" s_lessened ["one", "other"]) : Cal P w K mg base "lessened" 5 (R_two (· - ·)) :=
  cal_at T sc_lessened (by rintro _ _ _ _ ⟨⟩; rfl) fun f cd0 A out s H E G Γ B r B' hR => by
  obtain ⟨n, d, m, c, x, y, B, hx, hy, h1, h2, h3⟩ := hR
  have e : (.tuple [.int (-y.num), .int (y.den : Int)] : PyData) = fq (-y) := by unfold fq; rw [Rat.neg_num, Rat.neg_den]
  exact sj_ret (ej_call c_added (G.le (by decide)) (aj_cons (ej_dat 0) (aj_cons (ej_is (ej_tupD (ad_cons (ej_neg (ej_at (ej_dat (d := fq y) 1))) (ad_cons (ej_at (ej_dat (d := fq y) 1)) ad_nil)) (Nat.le_of_ble_eq_true rfl)) e) aj_nil)) (R_two.mk n d m c x (-y) B hx hy.neg h1 h2 h3)) ⟨by show fq _ = fq _; rw [Rat.sub_eq_add_neg], rfl⟩

abbrev s_times : Stmt := topS 8
theorem sc_times : FnScope ["one", "other", "first", "right", "second", "left"] ["one", "other"] (defScope s_times) := ⟨rfl, rfl, rfl, by decide +kernel, rfl, by decide +kernel, by decide +kernel⟩

theorem c_of_times (c_reduced : Cal P w K mg base "reduced" 3 R_redW) (T : At K mg "times" s_times ["one", "other"]) : Cal P w K mg base "times" 4 R_timesX :=
  cal_at T sc_times (by rintro _ _ _ _ ⟨⟩; rfl) fun f cd0 A out s H E G Γ B r B' hR => by
  obtain ⟨n, d, m, c, x, y, B, hx, hy, h1, h2, h3, h4, a1, a2⟩ := hR
  obtain ⟨b1, b2⟩ := divInt_bd (den_ne y) hx.nu hy.de
  obtain ⟨b3, b4⟩ := divInt_bd (den_ne x) hy.nu hx.de
  refine sj_unpack [2, 3] (ds := [.int (x.num /. (y.den : Int)).num, .int ((x.num /. (y.den : Int)).den : Int)]) G.calm (ej_call c_reduced (G.le (by decide)) (aj_cons (ej_at (ej_dat (d := fq x) 0)) (aj_cons (ej_at (ej_dat (d := fq y) 1)) aj_nil)) (R_redW.mk _ _ _ (den_ne y) a1)) (pgs_cons (pg_name (i := 2) G.nd rfl (Or.inl rfl)) (pgs_cons (pg_name (i := 3) G.nd rfl (Or.inl rfl)) pgs_nil)) rfl ?_
  refine sj_unpack [4, 5] (ds := [.int (y.num /. (x.den : Int)).num, .int ((y.num /. (x.den : Int)).den : Int)]) G.calm (ej_call c_reduced (G.le (by decide)) (aj_cons (ej_at (ej_dat (d := fq y) 1)) (aj_cons (ej_at (ej_dat (d := fq x) 0)) aj_nil)) (R_redW.mk _ _ _ (den_ne x) a2)) (pgs_cons (pg_name (i := 4) G.nd rfl (Or.inl rfl)) (pgs_cons (pg_name (i := 5) G.nd rfl (Or.inl rfl)) pgs_nil)) rfl ?_
  exact sj_ret (ej_tupD (ad_cons (ej_mul (ej_dat 2) (ej_dat 4) (cmz b1 b3)) (ad_cons (ej_mul (ej_dat 5) (ej_dat 3) (cmz b4 b2)) ad_nil)) (Nat.le_of_ble_eq_true rfl)) ⟨mul_by x y, rfl⟩

abbrev s_over : Stmt := topS 9
theorem sc_over : FnScope ["one", "other", "n", "d"] ["one", "other"] (defScope s_over) := ⟨rfl, rfl, rfl, by decide +kernel, rfl, by decide +kernel, by decide +kernel⟩

theorem c_of_over (c_times : Cal P w K mg base "times" 4 R_timesX) (T : At K mg "over" s_over ["one", "other"]) : Cal P w K mg base "over" 5 R_overW :=
  cal_at T sc_over (by rintro _ _ _ _ ⟨⟩; rfl) fun f cd0 A out s H E G Γ B r B' hR => by
  have c_timesW := c_times.imp timesW_X
  obtain ⟨n, d, m, c, x, y, B, hx, hy, h1, h2, h3, h4, h0⟩ := hR
  refine sj_unpack [2, 3] (ds := [.int y.num, .int (y.den : Int)]) G.calm (ej_dat (d := fq y) 1) (pgs_cons (pg_name (i := 2) G.nd rfl (Or.inl rfl)) (pgs_cons (pg_name (i := 3) G.nd rfl (Or.inl rfl)) pgs_nil)) rfl ?_
  refine sj_ret (ej_call c_timesW (G.le (by decide)) (aj_cons (ej_dat 0) (aj_cons (ej_if (d := .da (fq y⁻¹)) (tj_lt (ej_dat 2) ej_int) (fun h => ?_) (fun h => ?_)) aj_nil)) (R_timesW.mk n d c m x y⁻¹ B hx (qz_inv hy h0) h1 h2 h3 h4)) ⟨by show fq _ = fq _; rw [Rat.div_def], rfl⟩
  · exact ej_is (ej_tupD (ad_cons (ej_neg (ej_dat 3)) (ad_cons (ej_neg (ej_dat 2)) ad_nil)) (Nat.le_of_ble_eq_true rfl)) (fq_invN (of_decide_eq_true h))
  · exact ej_is (ej_tupD (ad_cons (ej_dat 3) (ad_cons (ej_dat 2) ad_nil)) (Nat.le_of_ble_eq_true rfl)) (fq_invP h0 (of_decide_eq_false h))

abbrev s_size_of : Stmt := topS 10
theorem sc_size_of : FnScope ["one"] ["one"] (defScope s_size_of) := ⟨rfl, rfl, rfl, by decide +kernel, rfl, by decide +kernel, by decide +kernel⟩

theorem c_of_size_of (m_abs : mg "abs" = none) (T : At K mg "size_of" s_size_of ["one"]) : Cal P w K mg base "size_of" 4 (R_one fun x => fq (absQ x)) :=
  cal_at T sc_size_of (by rintro _ _ _ _ ⟨⟩; rfl) fun f cd0 A out s H E G Γ B r B' hR => by
  obtain ⟨x, B⟩ := hR
  refine sj_ret (ej_tupD (ad_cons (ej_abs m_abs (ej_at (ej_dat 0))) (ad_cons (ej_at (ej_dat 0)) ad_nil)) (Nat.le_of_ble_eq_true rfl)) ⟨?_, rfl⟩
  unfold fq
  rw [(absQ_num x).1, (absQ_num x).2]

abbrev s_power_of : Stmt := topS 11
theorem sc_power_of : FnScope ["base", "e"] ["base", "e"] (defScope s_power_of) := ⟨rfl, rfl, rfl, by decide +kernel, rfl, by decide +kernel, by decide +kernel⟩

theorem c_of_power_of (c_integer_power : Cal P w K mg base "integer_power" 4 R_pow) (T : At K mg "power_of" s_power_of ["base", "e"]) : Cal P w K mg base "power_of" 5 R_power_of :=
  cal_at T sc_power_of (by rintro _ _ _ _ ⟨⟩; rfl) fun f cd0 A out s H E G Γ B r B' hR => by
  obtain ⟨b, e, B, h0, hb, h1, h2⟩ := hR
  refine sj_when (tj_lt (ej_dat 1) ej_int) (fun h => ?_) (fun h => ?_)
  · have he : e < 0 := of_decide_eq_true h
    have hn : -e = ((-e).toNat : Int) := by omega
    refine sj_ret (ej_tupD (ad_cons ej_int (ad_cons (ej_call c_integer_power (G.le (by decide)) (aj_cons (ej_dat 0) (aj_cons (ej_is (ej_neg (ej_dat 1)) (congrArg PyData.int hn)) aj_nil)) (R_pow.mk b (-e).toNat B hb (by omega))) ad_nil)) (Nat.le_of_ble_eq_true rfl)) ⟨?_, rfl⟩
    unfold pw
    rw [if_pos he, fq_inv (Nat.pow_pos h0)]
  · have he : ¬ e < 0 := of_decide_eq_false h
    have hn : e = (e.toNat : Int) := by omega
    refine sj_ret (ej_tupD (ad_cons (ej_call c_integer_power (G.le (by decide)) (aj_cons (ej_dat 0) (aj_cons (ej_is (ej_dat 1) (congrArg PyData.int hn)) aj_nil)) (R_pow.mk b e.toNat B hb (by omega))) (ad_cons ej_int ad_nil)) (Nat.le_of_ble_eq_true rfl)) ⟨?_, rfl⟩
    unfold pw
    rw [if_neg he, fq_nat]


abbrev s_compared : Stmt := topS 12
theorem sc_compared : FnScope ["one", "other", "left", "right"] ["one", "other"] (defScope s_compared) := ⟨rfl, rfl, rfl, by decide +kernel, rfl, by decide +kernel, by decide +kernel⟩

theorem c_of_compared (T : At K mg "compared" s_compared ["one", "other"]) : Cal P w K mg base "compared" 4 R_cmp :=
  cal_at T sc_compared (by rintro _ _ _ _ ⟨⟩; rfl) fun f cd0 A out s H E G Γ B r B' hR => by
  obtain ⟨n, d, m, c, x, y, B, hx, hy, h1, h2⟩ := hR
  refine sj_par 2 3 G.nd G.calm (aj_cons (ej_mul (ej_at (ej_dat 0)) (ej_at (ej_dat 1)) (cmz hx.nu hy.de)) (aj_cons (ej_mul (ej_at (ej_dat 1)) (ej_at (ej_dat 0)) (cmz hy.nu hx.de)) aj_nil)) ?_ (by decide) (by rfl)
  refine sj_when (tj_lt (ej_dat 2) (ej_dat 3)) (fun h => ?_) (fun h => ?_)
  · have h1 : x < y := (Rat.lt_iff x y).mpr (of_decide_eq_true h)
    exact sj_ret (ej_neg ej_int) ⟨by unfold cmp; rw [if_pos h1], rfl⟩
  · have h1 : ¬ x < y := fun z => of_decide_eq_false h ((Rat.lt_iff x y).mp z)
    refine sj_ret (ej_ifI (tj_gt (ej_dat 2) (ej_dat 3)) (fun _ => ej_int) fun _ => ej_int) ⟨?_, rfl⟩
    unfold cmp
    rw [if_neg h1]
    by_cases h2 : y < x
    · rw [if_pos h2, decide_eq_true ((Rat.lt_iff y x).mp h2)]; rfl
    · rw [if_neg h2, decide_eq_false fun z => h2 ((Rat.lt_iff y x).mpr z)]; rfl

abbrev s_floor_of : Stmt := topS 13
theorem sc_floor_of : FnScope ["one"] ["one"] (defScope s_floor_of) := ⟨rfl, rfl, rfl, by decide +kernel, rfl, by decide +kernel, by decide +kernel⟩

theorem c_of_floor_of (T : At K mg "floor_of" s_floor_of ["one"]) : Cal P w K mg base "floor_of" 4 R_floorP :=
  cal_at T sc_floor_of (by rintro _ _ _ _ ⟨⟩; rfl) fun f cd0 A out s H E G Γ B r B' hR => by
  obtain ⟨x, B, h⟩ := hR
  exact sj_ret (ej_fdivP (ej_at (ej_dat 0)) (ej_at (ej_dat 0)) h) ⟨rfl, rfl⟩

abbrev s_ceiling_of : Stmt := topS 14
theorem sc_ceiling_of : FnScope ["one"] ["one"] (defScope s_ceiling_of) := ⟨rfl, rfl, rfl, by decide +kernel, rfl, by decide +kernel, by decide +kernel⟩

theorem c_of_ceiling_of (T : At K mg "ceiling_of" s_ceiling_of ["one"]) : Cal P w K mg base "ceiling_of" 4 R_ceilP :=
  cal_at T sc_ceiling_of (by rintro _ _ _ _ ⟨⟩; rfl) fun f cd0 A out s H E G Γ B r B' hR => by
  obtain ⟨x, B, h⟩ := hR
  exact sj_ret (ej_neg (ej_fdivP (ej_neg (ej_at (ej_dat 0))) (ej_at (ej_dat 0)) h)) ⟨rfl, rfl⟩

abbrev s_sign_of_fraction : Stmt := topS 15
theorem sc_sign_of_fraction : FnScope ["one"] ["one"] (defScope s_sign_of_fraction) := ⟨rfl, rfl, rfl, by decide +kernel, rfl, by decide +kernel, by decide +kernel⟩

theorem c_of_sign_of_fraction (T : At K mg "sign_of_fraction" s_sign_of_fraction ["one"]) : Cal P w K mg base "sign_of_fraction" 4 (R_one fun x => .int (sgn x)) :=
  cal_at T sc_sign_of_fraction (by rintro _ _ _ _ ⟨⟩; rfl) fun f cd0 A out s H E G Γ B r B' hR => by
  obtain ⟨x, B⟩ := hR
  refine sj_ret (ej_ifI (tj_lt (ej_at (ej_dat 0)) ej_int) (fun _ => ej_int) fun _ => ej_int) ⟨?_, rfl⟩
  unfold sgn
  by_cases h : x.num < 0
  · rw [if_pos h, decide_eq_true h]; rfl
  · rw [if_neg h, decide_eq_false h]; rfl

abbrev s_part_of : Stmt := topS 16
theorem sc_part_of : FnScope ["left", "whole"] ["left", "whole"] (defScope s_part_of) := ⟨rfl, rfl, rfl, by decide +kernel, rfl, by decide +kernel, by decide +kernel⟩

theorem c_of_part_of (T : At K mg "part_of" s_part_of ["left", "whole"]) : Cal P w K mg base "part_of" 4 R_part :=
  cal_at T sc_part_of (by rintro _ _ _ _ ⟨⟩; rfl) fun f cd0 A out s H E G Γ B r B' hR => by
  obtain ⟨l, m, B, n, hl, hn⟩ := hR
  have cm2 : CMulW 2 l := cm (n := 2) (by unfold Bd; decide) hl (by omega)
  refine sj_when (tj_eqI G.hu (ej_dat 0) ej_int) (fun h => ?_) (fun h => ?_)
  · exact sj_ret ej_int ⟨by unfold pt; rw [if_pos (of_decide_eq_true h)], rfl⟩
  · refine sj_when (tj_lt (ej_mul ej_int (ej_dat 0) cm2) (ej_dat 1)) (fun h2 => ?_) (fun h2 => ?_)
    · exact sj_ret ej_int ⟨by unfold pt; rw [if_neg (of_decide_eq_false h), if_pos (of_decide_eq_true h2)], rfl⟩
    · refine sj_ret (ej_ifI (tj_eqI G.hu (ej_mul ej_int (ej_dat 0) cm2) (ej_dat 1)) (fun _ => ej_int) fun _ => ej_int) ⟨?_, rfl⟩
      unfold pt
      rw [if_neg (of_decide_eq_false h), if_neg (of_decide_eq_false h2)]
      by_cases h3 : 2 * l = m
      · rw [if_pos h3, decide_eq_true h3]; rfl
      · rw [if_neg h3, decide_eq_false h3]; rfl

abbrev s_is_taken_outward : Stmt := topS 17
theorem sc_is_taken_outward : FnScope ["way", "s", "c", "part"] ["way", "s", "c", "part"] (defScope s_is_taken_outward) := ⟨rfl, rfl, rfl, by decide +kernel, rfl, by decide +kernel, by decide +kernel⟩

theorem c_of_is_taken_outward (T : At K mg "is_taken_outward" s_is_taken_outward ["way", "s", "c", "part"]) : Cal P w K mg base "is_taken_outward" 4 R_outw :=
  cal_at T sc_is_taken_outward (by rintro _ _ _ _ ⟨⟩; rfl) fun f cd0 A out s H E G Γ B r B' hR => by
  obtain ⟨way, s, c, part, B⟩ := hR
  refine sj_when (tj_w (wj_or (tj_eqI G.hu (ej_dat 3) ej_int) fun _ => (wj_or1 (tj_eqS (ej_dat 0) ej_str)))) (fun h => ?_) (fun h => ?_)
  · have h : part = 0 ∨ way = "zero" := by simpa using h
    exact sj_ret ej_bl ⟨by unfold outw; rw [if_pos h], rfl⟩
  · have h : ¬ (part = 0 ∨ way = "zero") := by simpa using h
    unfold outw
    rw [if_neg h]
    refine sj_when (tj_eqS (ej_dat 0) ej_str) (fun h => ?_) (fun h => ?_)
    · exact sj_ret (ej_eqI G.hu (ej_dat 1) ej_int) ⟨by rw [if_pos (of_decide_eq_true h)], rfl⟩
    · rw [if_neg (of_decide_eq_false h)]
      refine sj_when (tj_eqS (ej_dat 0) ej_str) (fun h => ?_) (fun h => ?_)
      · exact sj_ret (ej_eqI G.hu (ej_dat 1) ej_int) ⟨by rw [if_pos (of_decide_eq_true h)], rfl⟩
      · rw [if_neg (of_decide_eq_false h)]
        refine sj_when (tj_eqI G.hu (ej_dat 3) ej_int) (fun h => ?_) (fun h => ?_)
        · exact sj_ret (ej_or (ej_eqS (ej_dat 0) ej_str) fun _ => (ej_one (ej_eqI G.hu (ej_mod (ej_dat 2) ej_int (by decide)) ej_int))) ⟨by rw [if_pos (of_decide_eq_true h)], rfl⟩
        · exact sj_ret (ej_eqI G.hu (ej_dat 3) ej_int) ⟨by rw [if_neg (of_decide_eq_false h)], rfl⟩

abbrev s_power_below : Stmt := topS 18
theorem sc_power_below : FnScope ["base", "one", "n", "d"] ["base", "one"] (defScope s_power_below) := ⟨rfl, rfl, rfl, by decide +kernel, rfl, by decide +kernel, by decide +kernel⟩

theorem c_of_power_below (c_u_power_within : Cal P w K mg base "_power_within" 4 R_withinW) (T : At K mg "power_below" s_power_below ["base", "one"]) : Cal P w K mg base "power_below" 5 R_pbelowW :=
  cal_at T sc_power_below (by rintro _ _ _ _ ⟨⟩; rfl) fun f cd0 A out s H E G Γ B r B' hR => by
  obtain ⟨b, q, k, B, h2, h0, hz, w1, w2, h1, h3⟩ := hR
  have hn0 : 0 < q.num := by
    have : 0 ≤ q.num := Rat.num_nonneg.mpr (Rat.le_of_lt h0)
    have : q.num ≠ 0 := fun z => absurd h0 (by rw [Rat.num_eq_zero.mp z]; decide)
    omega
  have hd0 := den_pos q
  have eN : q.num = (q.num.toNat : Int) := by omega
  refine sj_unpack [2, 3] G.calm (ej_dat (d := .tuple [.int q.num, .int (q.den : Int)]) 1) (pgs_cons (pg_name (i := 2) G.nd rfl (Or.inl rfl)) (pgs_cons (pg_name (i := 3) G.nd rfl (Or.inl rfl)) pgs_nil)) rfl ?_
  refine sj_when (tj_ge (ej_dat 2) (ej_dat 3)) (fun h => ?_) (fun h => ?_)
  · have hge : (q.den : Int) ≤ q.num := of_decide_eq_true h
    have hk : 0 ≤ k := by
      refine Decidable.byContradiction fun hk => ?_
      have h4 : pw b (k + 1) ≤ pw b 0 := pw_mono h2 (by omega)
      rw [show (0 : Int) = ((0 : Nat) : Int) - (0 : Nat) by omega] at h4
      have := (lt_pw_iff h2 q 0 0).mp (ltle h3 h4)
      rw [Nat.pow_zero] at this; omega
    have ek : k = (k.toNat : Int) := by omega
    have a1 := (pw_le_iff h2 q 0 k.toNat).mp (by rw [show ((k.toNat : Nat) : Int) - (0 : Nat) = k by omega]; exact h1)
    have a3 := (lt_pw_iff h2 q 0 (k.toNat + 1)).mp (by rw [show ((k.toNat + 1 : Nat) : Int) - (0 : Nat) = k + 1 by omega]; exact h3)
    rw [Nat.pow_zero, eN] at a1 a3
    have b1 : q.den * b ^ k.toNat ≤ q.num.toNat := by
      have : ((q.den * b ^ k.toNat : Nat) : Int) ≤ (q.num.toNat : Int) := by rw [Int.natCast_mul]; omega
      omega
    have b3 : q.num.toNat < q.den * b ^ (k.toNat + 1) := by
      have : (q.num.toNat : Int) < ((q.den * b ^ (k.toNat + 1) : Nat) : Int) := by rw [Int.natCast_mul]; omega
      omega
    have ew : q.num / (q.den : Int) = ((q.num.toNat / q.den : Nat) : Int) := by rw [Int.natCast_ediv, ← eN]
    rw [ek]
    refine sj_ret (ej_call c_u_power_within (G.le (by decide)) (aj_cons (ej_dat 0) (aj_cons (ej_is (ej_fdivP (ej_dat 2) (ej_dat 3) (divp2 hd0 hz.symm)) (congrArg PyData.int ew)) aj_nil)) (R_withinW.mk b _ k.toNat B h2 w1 ?_ ?_)) ⟨rfl, rfl⟩
    · exact (Nat.le_div_iff_mul_le q.den_pos).mpr (by rw [Nat.mul_comm]; exact b1)
    · exact (Nat.div_lt_iff_lt_mul q.den_pos).mpr (by rw [Nat.mul_comm]; exact b3)
  · have hlt : q.num < (q.den : Int) := by have := of_decide_eq_false h; omega
    have hk : k < 0 := by
      refine Decidable.byContradiction fun hk => ?_
      have h4 : pw b 0 ≤ pw b k := pw_mono h2 (by omega)
      rw [show (0 : Int) = ((0 : Nat) : Int) - (0 : Nat) by omega] at h4
      have := (pw_le_iff h2 q 0 0).mp (Rat.le_trans h4 h1)
      rw [Nat.pow_zero] at this; omega
    generalize hm : (-1 - k).toNat = m
    have ek : k = -1 - (m : Int) := by omega
    have a1 := (pw_le_iff h2 q (m + 1) 0).mp (by rw [show ((0 : Nat) : Int) - (m + 1 : Nat) = k by omega]; exact h1)
    have a3 := (lt_pw_iff h2 q m 0).mp (by rw [show ((0 : Nat) : Int) - (m : Nat) = k + 1 by omega]; exact h3)
    rw [Nat.pow_zero, eN] at a1 a3
    have b1 : q.den ≤ q.num.toNat * b ^ (m + 1) := by
      have : (q.den : Int) ≤ ((q.num.toNat * b ^ (m + 1) : Nat) : Int) := by rw [Int.natCast_mul]; omega
      omega
    have b3 : q.num.toNat * b ^ m < q.den := by
      have : ((q.num.toNat * b ^ m : Nat) : Int) < (q.den : Int) := by rw [Int.natCast_mul]; omega
      omega
    have hn1 : 0 < q.num.toNat := by omega
    have ew : ((q.den : Int) - 1) / q.num = (((q.den - 1) / q.num.toNat : Nat) : Int) := by
      rw [Int.natCast_ediv, ← eN]; congr 1; have := q.den_pos; omega
    rw [ek]
    refine sj_ret (ej_sub (ej_neg ej_int) (ej_call c_u_power_within (G.le (by decide)) (aj_cons (ej_dat 0) (aj_cons (ej_is (ej_fdivP (ej_sub (ej_dat 3) ej_int) (ej_dat 2) (divp2 hn0 (hz.imp id fun z => by unfold Bd at z ⊢; omega))) (congrArg PyData.int ew)) aj_nil)) (R_withinW.mk b _ m B h2 w2 ?_ ?_))) ⟨rfl, rfl⟩
    · exact (Nat.le_div_iff_mul_le hn1).mpr (by rw [Nat.mul_comm]; omega)
    · exact (Nat.div_lt_iff_lt_mul hn1).mpr (by rw [Nat.mul_comm]; omega)

abbrev s_u_power_within : Stmt := topS 19
theorem sc_u_power_within : FnScope ["base", "whole", "squares", "power", "k", "left", "square"] ["base", "whole"] (defScope s_u_power_within) := ⟨rfl, rfl, rfl, by decide +kernel, rfl, by decide +kernel, by decide +kernel⟩

theorem c_of_u_power_within (m_rev : mg "reversed" = none) (T : At K mg "_power_within" s_u_power_within ["base", "whole"]) : Cal P w K mg base "_power_within" 4 R_withinW :=
  cal_at T sc_u_power_within (by rintro _ _ _ _ ⟨⟩; rfl) fun f cd0 A out s H E G Γ B r B' hR => by
  obtain ⟨b, wh, k0, B, h2, hw, h1, h3⟩ := hR
  refine sj_own 2 G.nd (fj_lstD ad_nil (by decide)) (by exact Nat.le_of_ble_eq_true rfl) ?_
  refine ow_set 3 G.nd (by decide) (ej_dat 0) ?_
  refine ow_while (fun Γ' B' acc => ∃ j : Nat, Γ' = [.da (.int b), .da (.int wh), .no, .da (.int ((b ^ 2 ^ j : Nat) : Int)), .no, .no, .no] ∧ B' = B ∧ acc = sqs b j ∧ ∀ i, i < j → b ^ 2 ^ i ≤ wh) (fun Γ' _ _ => (wh + 1 : Nat) - (intAt Γ' 3).toNat)
    ⟨0, by rw [Nat.pow_zero, Nat.pow_one]; rfl, rfl, rfl, fun i hi => absurd hi (by omega)⟩ ?_
  rintro Γ' B' acc ⟨j, rfl, rfl, rfl, hj⟩
  have hj14 := few_sqW h2 hw.1 hj
  refine ⟨_, tj_le (ej_dat 3) (ej_dat 1), fun h => ?_, fun h => ?_⟩
  · have hle : b ^ 2 ^ j ≤ wh := by have := of_decide_eq_true h; omega
    have hbd : Bd 17000 ((b ^ 2 ^ j : Nat) : Int) := Bd.nat (Nat.lt_of_le_of_lt hle hw.1)
    refine ow_app G.nd (ej_dat 3) (by rw [sqs_len]; omega) ?_
    refine ow_set 3 G.nd (by decide) (ej_mul (ej_dat 3) (ej_dat 3) (cmz hbd hbd)) (ow_nil ⟨⟨j + 1, ?_, rfl, sqs_succ b j, fun i hi => ?_⟩, ?_⟩)
    · rw [sq_next]; rfl
    · by_cases e : i = j
      · subst e; exact hle
      · exact hj i (by omega)
    · show (wh + 1 : Nat) - (((b ^ 2 ^ j : Nat) : Int) * ((b ^ 2 ^ j : Nat) : Int)).toNat < (wh + 1 : Nat) - (((b ^ 2 ^ j : Nat) : Int)).toNat
      rw [sq_next, Int.toNat_natCast, Int.toNat_natCast]
      have : b ^ 2 ^ j < b ^ 2 ^ (j + 1) := Nat.pow_lt_pow_right (by omega) (Nat.pow_lt_pow_right (by decide) (by omega))
      omega
  · have hgt : wh < b ^ 2 ^ j := by have := of_decide_eq_false h; omega
    have w1 : 1 ≤ wh := Nat.le_trans (Nat.pow_pos (by omega)) h1
    refine ow_end ?_
    refine sj_par 4 5 G.nd G.calm (aj_cons ej_int (aj_cons (ej_dat 1) aj_nil)) ?_ (by decide) (by rfl)
    refine sj_forRev (ds := sqs b j) 6 G.nd G.calm m_rev (fun i Γ' B2 => ∃ (k l : Nat) (z : VD), Γ' = [.da (.int b), .da (.int wh), .da (.list (sqs b j)), .da (.int ((b ^ 2 ^ j : Nat) : Int)), .da (.int k), .da (.int l), z] ∧ B2 = B' ∧
      l = wh / b ^ (k * 2 ^ (j - i)) ∧ l < b ^ 2 ^ (j - i) ∧ 1 ≤ l) (ej_dat 2) ⟨0, wh, .no, rfl, rfl, by rw [Nat.zero_mul, Nat.pow_zero, Nat.div_one], hgt, w1⟩ (fun i y Γ' B2 hi hy hP => ?_) (fun Γ' B2 hP => ?_)
    · obtain ⟨k, l, z, rfl, rfl, e1, e2, e3⟩ := hP
      rw [sqs_len] at hi hy
      obtain rfl := sqs_at hy
      have em : j - i = (j - 1 - i) + 1 := by omega
      have em' : j - (i + 1) = j - 1 - i := by omega
      rw [em] at e1 e2
      have hbs : CDivP (l : Int) ((b ^ 2 ^ (j - 1 - i) : Nat) : Int) := divpW (Nat.pow_pos (by omega)) (by rw [e1]; exact Nat.div_le_self _ _) fun z => hw.2 _ (by omega) z (hj _ (by omega))
      have hps : 0 < b ^ 2 ^ (j - 1 - i) := Nat.pow_pos (by omega)
      refine sj_set 4 G.nd (ej_mulC ej_int (ej_dat 4) (.inl (by decide))) ?_
      refine sj_ifM (fun Γ3 B3 => ∃ (k l : Nat) (z : VD), Γ3 = [.da (.int b), .da (.int wh), .da (.list (sqs b j)), .da (.int ((b ^ 2 ^ j : Nat) : Int)), .da (.int k), .da (.int l), z] ∧ B3 = B2 ∧
        l = wh / b ^ (k * 2 ^ (j - (i + 1))) ∧ l < b ^ 2 ^ (j - (i + 1)) ∧ 1 ≤ l) (tj_le (ej_dat 6) (ej_dat 5)) (fun h => ?_) (fun h => ?_) (fun Γ3 B3 q => sj_nil q)
      · have hs : b ^ 2 ^ (j - 1 - i) ≤ l := by have := of_decide_eq_true h; omega
        obtain ⟨q1, q2, q3⟩ := step_yes h2 e1 e2 e3 hs
        refine sj_set 4 G.nd (ej_add (ej_dat 4) ej_int) ?_
        refine sj_set 5 G.nd (ej_fdivP (ej_dat 5) (ej_dat 6) hbs) (sj_nil ?_)
        rw [em']
        exact ⟨2 * k + 1, l / b ^ 2 ^ (j - 1 - i), _, by rw [← Int.natCast_ediv]; rfl, rfl, q1, q2, q3⟩
      · have hs : ¬ b ^ 2 ^ (j - 1 - i) ≤ l := by have := of_decide_eq_false h; omega
        obtain ⟨q1, q2⟩ := step_no (k := k) e1 hs
        refine sj_nil ?_
        rw [em']
        exact ⟨2 * k, l, _, rfl, rfl, q1, q2, e3⟩
    · obtain ⟨k, l, z, rfl, rfl, e1, e2, e3⟩ := hP
      rw [sqs_len, Nat.sub_self] at e1 e2
      obtain ⟨q1, q2⟩ := log_end h2 e1 e2 e3
      obtain rfl := pow_uniq h2 q1 q2 h1 h3
      exact sj_ret (ej_dat 4) ⟨rfl, rfl⟩

abbrev s_u_twos_in : Stmt := topS 20
theorem sc_u_twos_in : FnScope ["n"] ["n"] (defScope s_u_twos_in) := ⟨rfl, rfl, rfl, by decide +kernel, rfl, by decide +kernel, by decide +kernel⟩

theorem c_of_u_twos_in (T : At K mg "_twos_in" s_u_twos_in ["n"]) : Cal P w K mg base "_twos_in" 1 R_twos :=
  cal_at T sc_u_twos_in (by rintro _ _ _ _ ⟨⟩; rfl) fun f cd0 A out s H E G Γ B r B' hR => by
  obtain ⟨k, a, B⟩ := hR
  exact sj_ret (ej_sub (ej_bits (ej_band (ej_dat 0) (ej_neg (ej_dat 0)))) ej_int) ⟨by rw [tw_low, bits_two], rfl⟩

abbrev s_is_decimal : Stmt := topS 22
theorem sc_is_decimal : FnScope ["thing", "part"] ["thing"] (defScope s_is_decimal) := ⟨rfl, rfl, rfl, by decide +kernel, rfl, by decide +kernel, by decide +kernel⟩

theorem c_of_is_decimal /-H-/ (m_isinstance : mg "isinstance" = none) (m_tuple : mg "tuple" = none) (m_len : mg "len" = none) (m_all : mg "all" = none) (c_is_integer : Cal P w K mg base "is_integer" 4 R_anyint) /-E-/ (T : At K mg "is_decimal" s_is_decimal ["thing"]) : Cal P w K mg base "is_decimal" 6 R_isdec :=
  cal_at T sc_is_decimal (by rintro _ _ _ _ ⟨⟩; rfl) fun f cd0 A out s0 H E0 G Γ B r B' hR => by
  obtain ⟨s, c, e, B, hs⟩ := hR
  refine sj_when (x := false) (tj_w (wj_or (x := false) (y := false) (tj_not (x := true) (tj_val (ej_isi (T := "tuple") (r := true) m_isinstance m_tuple (ej_dat (d := dcD s c e) 0)))) fun _ => wj_or1 (tj_is (tj_neI G.hu (ej_lenT m_len (ej_dat (d := dcD s c e) 0)) ej_int) rfl))) (fun h => Bool.noConfusion h) (fun _ => ?_)
  refine sj_when (x := false) (tj_is (tj_not (tj_val (ej_all (bs := [true, true, true]) G.calm m_all (ej_lcT (j := 1) (x := "part") G.nd G.calm (blkOk_by (N := ["thing", "part"]) (sc := defScope s_is_decimal) (by decide +kernel)) (fun _ _ _ _ _ => pg_name (i := 1) G.nd rfl (Or.inl rfl))
      (rj_lcT (ds := [.int s, .int (c : Int), .int e]) (ys := [.bool true, .bool true, .bool true]) (fun _ => B) (ej_dat (d := dcD s c e) 0) rfl (Nat.le_of_ble_eq_true rfl) (fun i y' z' hi hz s0 H0 C cl fp => by
        obtain ⟨n, rfl, rfl⟩ : ∃ n : Int, y' = .int n ∧ z' = .bool true := by
          match i, hi, hz with
          | 0, hi, hz => cases hi; cases hz; exact ⟨_, rfl, rfl⟩
          | 1, hi, hz => cases hi; cases hz; exact ⟨_, rfl, rfl⟩
          | 2, hi, hz => cases hi; cases hz; exact ⟨_, rfl, rfl⟩
        exact ej_call c_is_integer ⟨G.gd, G.rm.mono (by decide), G.nd, G.calm⟩ (aj_cons (ej_dat (d := .int n) 1) aj_nil) (R_anyint.mk (.int n) B))))))) rfl) (fun h => Bool.noConfusion h) (fun _ => ?_)
  exact sj_ret (ej_and (x := true) (y := true) (ej_is (ej_inD G.hu (ej_at (y := .int s) (ej_dat (d := dcD s c e) 0)) (ej_tupD (ad_cons ej_int (ad_cons ej_int ad_nil)) (Nat.le_of_ble_eq_true rfl)) rfl (by decide +kernel) (Nat.zero_le _)) (by rcases hs with rfl | rfl <;> rfl)) fun _ => ej_one (ej_is (ej_ge (ej_at (y := .int (c : Int)) (ej_dat (d := dcD s c e) 0)) ej_int) (by rw [decide_eq_true (Int.natCast_nonneg c)]))) ⟨rfl, rfl⟩

abbrev s_decimal_worth : Stmt := topS 23
theorem sc_decimal_worth : FnScope ["decimal", "s", "c", "e"] ["decimal"] (defScope s_decimal_worth) := ⟨rfl, rfl, rfl, by decide +kernel, rfl, by decide +kernel, by decide +kernel⟩

theorem c_of_decimal_worth /-H-/ (c_times : Cal P w K mg base "times" 4 R_timesX) (c_power_of : Cal P w K mg base "power_of" 5 R_power_of) /-E-/ (T : At K mg "decimal_worth" s_decimal_worth ["decimal"]) : Cal P w K mg base "decimal_worth" 6 R_dworth :=
  cal_at T sc_decimal_worth (by rintro _ _ _ _ ⟨⟩; rfl) fun f cd0 A out s0 H E0 G Γ B r B' hR => by
  obtain ⟨s, c, e, B, hs, h0, hc, h1, h2⟩ := hR
  refine sj_unpack [1, 2, 3] (ds := [.int s, .int c, .int e]) G.calm (ej_dat (d := dcD s c e) 0) (pgs_cons (pgN 1 G.nd) (pgs_cons (pgN 2 G.nd) (pgs_cons (pgN 3 G.nd) pgs_nil))) rfl ?_
  have hx : Qz 8900 1 (((if s = 1 then -c else c : Int)) : Rat) := by
    refine ⟨?_, by rw [Rat.den_intCast]; unfold Bd; decide⟩
    rw [Rat.num_intCast]
    split
    · exact hc.neg
    · exact hc
  have e1 : fq ((if s = 1 then -c else c : Int) : Rat) = .tuple [.int (if s = 1 then -c else c), .int 1] := fq_int _
  refine sj_ret (ej_call c_times (G.le (by decide)) (aj_cons (ej_is (y := fq ((if s = 1 then -c else c : Int) : Rat)) (ej_tupD (ad_cons (ej_if (d := .da (.int (if s = 1 then -c else c))) (tj_eqI G.hu (ej_dat 1) ej_int) (fun h => ?_) (fun h => ?_)) (ad_cons ej_int ad_nil)) (Nat.le_of_ble_eq_true rfl)) e1.symm) (aj_cons (ej_call c_power_of (G.le (by decide)) (aj_cons ej_int (aj_cons (ej_dat 3) aj_nil)) (R_power_of.mk 10 e B (by decide) (by decide) (by omega) (by omega))) aj_nil)) (R_timesX.mk 8900 1 26600 26600 _ _ B hx (ten_qzW (by omega) (by omega)) (by decide) (by decide) (by decide) (by decide) (.inl hx.nu) (.inr (hx.de.le (by decide))))) ⟨rfl, rfl⟩
  · rw [if_pos (of_decide_eq_true h)]; exact ej_neg (ej_dat 2)
  · rw [if_neg (of_decide_eq_false h)]; exact (ej_dat 2)

abbrev s_trimmed : Stmt := topS 24
theorem sc_trimmed : FnScope ["decimal", "s", "c", "e"] ["decimal"] (defScope s_trimmed) := ⟨rfl, rfl, rfl, by decide +kernel, rfl, by decide +kernel, by decide +kernel⟩

theorem c_of_trimmed (T : At K mg "trimmed" s_trimmed ["decimal"]) : Cal P w K mg base "trimmed" 4 R_ltrim :=
  cal_at T sc_trimmed (by rintro _ _ _ _ ⟨⟩; rfl) fun f cd0 A out s0 H E0 G Γ B r B' hR => by
  obtain ⟨s, c, e, B, h⟩ := hR
  refine sj_unpack [1, 2, 3] (ds := [.int s, .int (c : Int), .int e]) G.calm (ej_dat (d := dcD s c e) 0) (pgs_cons (pgN 1 G.nd) (pgs_cons (pgN 2 G.nd) (pgs_cons (pgN 3 G.nd) pgs_nil))) rfl ?_
  refine sj_when (x := false) (tj_is (tj_eqI G.hu (ej_dat 2) ej_int) (decide_eq_false (by omega))) (fun h => Bool.noConfusion h) (fun _ => ?_)
  have eq0 : ∀ (m : Nat), ((m : Int) % 10 = 0) ↔ m % 10 = 0 := fun m => by omega
  refine sj_while G.nd (fun Γ' B' => ∃ m k f : Nat, Γ' = [.da (dcD s c e), .da (.int s), .da (.int (m : Int)), .da (.int (e + (k : Int)))] ∧ 0 < m ∧ m ≤ f ∧ stripN 10 c c = ((stripN 10 f m).1, (stripN 10 f m).2 + k) ∧ B' = B) (fun Γ' _ => (intAt Γ' 2).toNat) ⟨c, 0, c, by rw [show e + ((0 : Nat) : Int) = e by omega]; rfl, h, Nat.le_refl _, rfl, rfl⟩ ?_
  rintro Γ' B' ⟨m, k, f, rfl, m0, mf, hs, rfl⟩
  refine ⟨decide ((m : Int) % 10 = 0), tj_eqI G.hu (ej_mod (ej_dat 2) ej_int (by decide)) ej_int, fun hc => ?_, fun hc => ?_⟩
  · have h := (eq0 m).mp (of_decide_eq_true hc)
    obtain ⟨f, rfl⟩ : ∃ g, f = g + 1 := ⟨f - 1, by omega⟩
    have e' : stripN 10 (f + 1) m = ((stripN 10 f (m / 10)).1, (stripN 10 f (m / 10)).2 + 1) := by rw [stripN, if_pos h]
    refine sj_par 2 3 (d1 := .da (.int ((m / 10 : Nat) : Int))) (d2 := .da (.int (e + ((k + 1 : Nat) : Int)))) (B1 := B') G.nd G.calm (aj_cons (ej_is (ej_fdiv (ej_dat 2) ej_int (cdv (n := 4) (by unfold Bd; decide) (by decide))) (congrArg PyData.int (Int.natCast_ediv m 10).symm)) (aj_cons (ej_is (ej_add (ej_dat 3) ej_int) (congrArg PyData.int (by omega))) aj_nil)) (sj_nil ⟨⟨m / 10, k + 1, f, rfl, by omega, by omega, by rw [hs, e']; exact Prod.ext rfl (by show _ + 1 + k = _ + (k + 1); omega), rfl⟩, ?_⟩) (by decide) (by rfl)
    show (((m / 10 : Nat) : Int)).toNat < ((m : Nat) : Int).toNat
    rw [Int.toNat_natCast, Int.toNat_natCast]; omega
  have h : ¬ m % 10 = 0 := fun z => of_decide_eq_false hc ((eq0 m).mpr z)
  rw [strip_stop h, Nat.zero_add] at hs
  refine sj_ret (ej_tupD (ad_cons (ej_dat 1) (ad_cons (ej_dat 2) (ad_cons (ej_dat 3) ad_nil))) (Nat.le_of_ble_eq_true rfl)) ⟨?_, rfl⟩
  unfold trP
  rw [hs]; rfl

abbrev s_worth : Stmt := topS 26
theorem sc_worth : FnScope ["form", "number", "_", "s", "c", "e"] ["form", "number"] (defScope s_worth) := ⟨rfl, rfl, rfl, by decide +kernel, rfl, by decide +kernel, by decide +kernel⟩

theorem c_of_worth (c_times : Cal P w K mg base "times" 4 R_timesX) (c_power_of : Cal P w K mg base "power_of" 5 R_power_of) (T : At K mg "worth" s_worth ["form", "number"]) : Cal P w K mg base "worth" 6 R_worthD :=
  cal_at T sc_worth (by rintro _ _ _ _ ⟨⟩; rfl) fun f cd0 A out s H E G Γ B r B' hR => by
  have c_times := c_times.imp two_timesX
  obtain ⟨b, p, low, high, s, c, e, B, F, hv⟩ := hR
  obtain ⟨h1, h3, h4, h5, h6⟩ := hv
  have b2 := F.b2; have bp := F.bp; have lo := F.lo; have hi := F.hi
  refine sj_unpack [2, 3, 4, 5] G.calm (ej_dat (d := .tuple [.str "num", .int s, .int c, .int e]) 1) (pgs_cons (pg_name (i := 2) G.nd rfl (Or.inl rfl)) (pgs_cons (pg_name (i := 3) G.nd rfl (Or.inl rfl)) (pgs_cons (pg_name (i := 4) G.nd rfl (Or.inl rfl)) (pgs_cons (pg_name (i := 5) G.nd rfl (Or.inl rfl)) pgs_nil)))) rfl ?_
  have hc : Qz 700 1 (((if s = 1 then -c else c : Int)) : Rat) := by
    refine ⟨?_, by rw [Rat.den_intCast]; unfold Bd; decide⟩
    rw [Rat.num_intCast]; unfold Bd
    split <;> omega
  refine sj_ret (ej_call c_times (G.le (by decide)) (aj_cons (ej_is (y := fq ((if s = 1 then -c else c : Int) : Rat)) (ej_tupD (ad_cons (ej_if (d := .da (.int (if s = 1 then -c else c))) (tj_eqI G.hu (ej_dat 3) ej_int) (fun h => ?_) (fun h => ?_)) (ad_cons ej_int ad_nil)) (Nat.le_of_ble_eq_true rfl)) (fq_int _).symm)
    (aj_cons (ej_call c_power_of (G.le (by decide)) (aj_cons (ej_at (ej_dat (d := .tuple [.int b, .int p, .int low, .int high]) 0)) (aj_cons (ej_dat 5) aj_nil)) (R_power_of.mk b e B (by omega) F.b6 (by omega) (by omega))) aj_nil))
    (R_two.mk _ _ _ _ _ _ B hc (F.pn h5 h6) (by decide) (by decide) (by decide))) ⟨rfl, rfl⟩
  · rw [if_pos (of_decide_eq_true h)]; exact ej_neg (ej_dat 4)
  · rw [if_neg (of_decide_eq_false h)]; exact ej_dat 4

abbrev s_zero : Stmt := topS 27
theorem sc_zero : FnScope ["form", "s"] ["form", "s"] (defScope s_zero) := ⟨rfl, rfl, rfl, by decide +kernel, rfl, by decide +kernel, by decide +kernel⟩

theorem c_of_zero (T : At K mg "zero" s_zero ["form", "s"]) : Cal P w K mg base "zero" 4 R_zero :=
  cal_at T sc_zero (by rintro _ _ _ _ ⟨⟩; rfl) fun f cd0 A out s H E G Γ B r B' hR => by
  obtain ⟨b, p, low, high, s, B⟩ := hR
  exact sj_ret (ej_tupD (ad_cons ej_str (ad_cons (ej_dat 1) (ad_cons ej_int (ad_cons (ej_at (ej_dat (d := .tuple [.int b, .int p, .int low, .int high]) 0)) ad_nil)))) (Nat.le_of_ble_eq_true rfl)) ⟨rfl, rfl⟩

abbrev s_is_finite : Stmt := topS 28
theorem sc_is_finite : FnScope ["value"] ["value"] (defScope s_is_finite) := ⟨rfl, rfl, rfl, by decide +kernel, rfl, by decide +kernel, by decide +kernel⟩

theorem c_of_is_finite (T : At K mg "is_finite" s_is_finite ["value"]) : Cal P w K mg base "is_finite" 4 (R_val (fun v => .bool v.isNum) (fun _ => True)) :=
  cal_at T sc_is_finite (by rintro _ _ _ _ ⟨⟩; rfl) fun f cd0 A out s H E G Γ B r B' hR => by
  obtain ⟨v, B, _⟩ := hR
  exact sj_ret (ej_eqS (ej_at (ej_dat (d := .tuple v.l) 0) v.at0) ej_str) ⟨by rw [tag_num], rfl⟩

abbrev s_is_zero : Stmt := topS 29
theorem sc_is_zero : FnScope ["value"] ["value"] (defScope s_is_zero) := ⟨rfl, rfl, rfl, by decide +kernel, rfl, by decide +kernel, by decide +kernel⟩

theorem c_of_is_zero (c_is_finite : Cal P w K mg base "is_finite" 4 (R_val (fun v => .bool v.isNum) (fun _ => True))) (T : At K mg "is_zero" s_is_zero ["value"]) : Cal P w K mg base "is_zero" 5 (R_val (fun v => .bool v.isZ) (fun _ => True)) :=
  cal_at T sc_is_zero (by rintro _ _ _ _ ⟨⟩; rfl) fun f cd0 A out s H E G Γ B r B' hR => by
  obtain ⟨v, B, _⟩ := hR
  cases v with
  | num sn c e => exact sj_ret (ej_is (y := .bool (decide (c = 0))) (ej_and (x := true) (ej_call c_is_finite (G.le (by decide)) (aj_cons (ej_dat 0) aj_nil) (R_val.mk (.num sn c e) B trivial)) fun _ => ej_one (ej_eqI G.hu (ej_at (ej_dat (d := .tuple [.str "num", .int sn, .int c, .int e]) 0)) ej_int)) (congrArg PyData.bool (Bool.true_and _))) ⟨rfl, rfl⟩
  | nan => exact sj_ret (ej_and (x := false) (y := false) (ej_call c_is_finite (G.le (by decide)) (aj_cons (ej_dat 0) aj_nil) (R_val.mk .nan B trivial)) fun h => Bool.noConfusion h) ⟨rfl, rfl⟩
  | inf t => exact sj_ret (ej_and (x := false) (y := false) (ej_call c_is_finite (G.le (by decide)) (aj_cons (ej_dat 0) aj_nil) (R_val.mk (.inf t) B trivial)) fun h => Bool.noConfusion h) ⟨rfl, rfl⟩

abbrev s_stretch_of : Stmt := topS 31
theorem sc_stretch_of : FnScope ["form", "number", "base", "digits", "low", "_", "c", "e", "unsigned", "half", "half_below"] ["form", "number"] (defScope s_stretch_of) := ⟨rfl, rfl, rfl, by decide +kernel, rfl, by decide +kernel, by decide +kernel⟩

theorem c_of_stretch_of /-H-/ (c_size_of : Cal P w K mg base "size_of" 4 (R_one fun x => fq (absQ x))) (c_worth : Cal P w K mg base "worth" 6 R_worthD) (c_times : Cal P w K mg base "times" 4 R_timesX) (c_power_of : Cal P w K mg base "power_of" 5 R_power_of) (c_lessened : Cal P w K mg base "lessened" 5 (R_two (· - ·))) (c_added : Cal P w K mg base "added" 4 (R_two (· + ·))) (c_integer_power : Cal P w K mg base "integer_power" 4 R_pow) /-E-/ (T : At K mg "stretch_of" s_stretch_of ["form", "number"]) : Cal P w K mg base "stretch_of" 8 R_stretch :=
  cal_at T sc_stretch_of (by rintro _ _ _ _ ⟨⟩; rfl) fun f cd0 A out s0 H E0 G Γ B r B' hR => by
  have c_times := c_times.imp two_timesX
  obtain ⟨b, p, low, high, s, c, e, B, F, N⟩ := hR
  have b2 := F.D.b2; have b6 := F.D.b6; have p2 := F.D.p2; have hp := F.D.p400; have lo := F.D.lo; have hi := F.D.hi
  have el := N.D.2.2.2.1; have eh := N.D.2.2.2.2
  refine sj_unpack [2, 3, 4, 5] (ds := [.int b, .int p, .int low, .int high]) G.calm (ej_dat (d := fmP b p low high) 0) (pgs_cons (pgN 2 G.nd) (pgs_cons (pgN 3 G.nd) (pgs_cons (pgN 4 G.nd) (pgs_cons (pgN 5 G.nd) pgs_nil)))) rfl ?_
  refine sj_unpack [5, 5, 6, 7] (ds := [.str "num", .int s, .int c, .int e]) G.calm (ej_dat (d := .tuple [.str "num", .int s, .int c, .int e]) 1) (pgs_cons (pgN 5 G.nd) (pgs_cons (pgN 5 G.nd) (pgs_cons (pgN 6 G.nd) (pgs_cons (pgN 7 G.nd) pgs_nil)))) rfl ?_
  have ab := absQ_w (b := b) b2 (s := s) (c := c) (e := e) (Int.le_of_lt N.c0)
  have RS : R_one (fun x => fq (absQ x)) [.da (fq ((Va.num s c e).wQ b))] B (fq (absQ ((Va.num s c e).wQ b))) B := R_one.mk _ B
  rw [ab] at RS
  refine sj_set 8 (d := .da (fq ((c : Rat) * pw b e))) (B1 := B) G.nd (ej_call c_size_of (G.le (by decide)) (aj_cons (ej_call c_worth (G.le (by decide)) (aj_cons (ej_dat (d := fmP b p low high) 0) (aj_cons (ej_dat (d := (Va.num s c e).d) 1) aj_nil)) (R_worthD.mk b p low high s c e B F.D N.D)) aj_nil) (RS)) ?_
  have pq := pnR F el eh
  obtain ⟨hq, hbq⟩ := sthalf_qz F el eh
  have nq := num_qz F (Int.le_of_lt N.c0) N.D.2.2.1 el eh
  have h1q : Qz 1 2 (1 / 2 : Rat) := ⟨by unfold Bd; decide +kernel, by unfold Bd; decide +kernel⟩
  have hf : fq (1 / 2 : Rat) = .tuple [.int 1, .int 2] := (fq_mk (q := 1 / 2) (n := 1) (d := 2) (by decide +kernel) (by decide +kernel)).symm
  refine sj_set 9 (d := .da (fq (pw b e * (1 / 2)))) (B1 := B) G.nd (ej_call c_times (G.le (by decide)) (aj_cons (ej_call c_power_of (G.le (by decide)) (aj_cons (ej_dat 2) (aj_cons (ej_dat 7) aj_nil)) (R_power_of.mk b e B (by omega) b6 (by omega) (by omega))) (aj_cons (ej_is (ej_tupD (ad_cons ej_int (ad_cons ej_int ad_nil)) (Nat.le_of_ble_eq_true rfl)) hf.symm) aj_nil)) (R_two.mk (f := (· * ·)) _ _ _ _ (pw b e) (1 / 2) B pq h1q (by decide) (by decide) (by decide))) ?_
  refine sj_set 10 (d := .da (fq (pw b e * (1 / 2)))) (B1 := B) G.nd (ej_dat 9) ?_
  obtain ⟨hb, hhb⟩ : ∃ hb : Rat, hb = (if low < e ∧ c = ((b ^ (p - 1) : Nat) : Int) then pw b e * (1 / 2) * (b : Rat)⁻¹ else pw b e * (1 / 2)) := ⟨_, rfl⟩
  have hbz : Qz 1332 4329 hb := by
    rw [hhb]; split
    · exact hbq
    · exact hq.le (by decide) (by decide)
  have fin : SJ (cxOf CX0 P w K mg base ["form", "number", "base", "digits", "low", "_", "c", "e", "unsigned", "half", "half_below"] "stretch_of" (defScope s_stretch_of) f cd0 A out s0 H E0).nox [.da (fmP b p low high), .da (Va.num s c e).d, .da (.int b), .da (.int p), .da (.int low), .da (.int s), .da (.int c), .da (.int e), .da (fq ((c : Rat) * pw b e)), .da (fq (pw b e * (1 / 2))), .da (fq hb)] B ((defBody s_stretch_of).drop 6) { nx := fun _ B2 => (.tuple [fq (stLo b p low c e), fq (stHi b c e), .bool (decide (c % 2 = 0))] : PyData) = .none ∧ B2 = B, rt := fun d B2 => d = .tuple [fq (stLo b p low c e), fq (stHi b c e), .bool (decide (c % 2 = 0))] ∧ B2 = B } := by
    refine sj_ret (ej_tupD (ad_cons (ej_call c_lessened (G.le (by decide)) (aj_cons (ej_dat 8) (aj_cons (ej_dat 10) aj_nil)) (R_two.mk (f := (· - ·)) _ _ _ _ ((c : Rat) * pw b e) hb B nq hbz (by decide) (by decide) (by decide))) (ad_cons (ej_call c_added (G.le (by decide)) (aj_cons (ej_dat 8) (aj_cons (ej_dat 9) aj_nil)) (R_two.mk (f := (· + ·)) _ _ _ _ ((c : Rat) * pw b e) (pw b e * (1 / 2)) B nq hq (by decide) (by decide) (by decide))) (ad_cons (ej_eqI G.hu (ej_mod (ej_dat 6) ej_int (by decide)) ej_int) ad_nil))) (Nat.le_of_ble_eq_true rfl)) ⟨?_, rfl⟩
    unfold stLo stHi
    rw [hhb]
  have RI := R_pow.mk b (p - 1) B b6 (by omega)
  have e1 : (p : Int) - 1 = ((p - 1 : Nat) : Int) := by omega
  by_cases hc : low < e ∧ c = ((b ^ (p - 1) : Nat) : Int)
  · rw [if_pos hc] at hhb
    have bi : Qz 1 7 ((b : Rat)⁻¹) := by
      have e := fq_inv (show 0 < b by omega)
      unfold fq at e
      injection e with e
      injection e with e1 e
      injection e with e2 e
      injection e1 with e1
      injection e2 with e2
      exact ⟨by rw [e1]; unfold Bd; decide, by rw [e2]; unfold Bd; omega⟩
    refine sj_ifT (tj_is (tj_w (wj_and (tj_gt (ej_dat 7) (ej_dat 4)) fun _ => wj_and1 (tj_eqI G.hu (ej_dat 6) (ej_call c_integer_power (G.le (by decide)) (aj_cons (ej_dat 2) (aj_cons (ej_is (ej_sub (ej_dat 3) ej_int) (congrArg PyData.int e1)) aj_nil)) (RI))))) (by rw [decide_eq_true hc.1, decide_eq_true hc.2]; rfl)) ?_
    rw [hhb] at fin
    exact sj_set 10 (d := .da (fq (pw b e * (1 / 2) * (b : Rat)⁻¹))) (B1 := B) G.nd (ej_call c_times (G.le (by decide)) (aj_cons (ej_dat 9) (aj_cons (ej_is (ej_tupD (ad_cons ej_int (ad_cons (ej_dat 2) ad_nil)) (Nat.le_of_ble_eq_true rfl)) (fq_inv (show 0 < b by omega)).symm) aj_nil)) (R_two.mk (f := (· * ·)) _ _ _ _ (pw b e * (1 / 2)) ((b : Rat)⁻¹) B hq bi (by decide) (by decide) (by decide))) (sj_nil fin)
  · rw [if_neg hc] at hhb
    refine sj_when (x := false) (tj_is (tj_w (wj_and (tj_gt (ej_dat 7) (ej_dat 4)) fun _ => wj_and1 (tj_eqI G.hu (ej_dat 6) (ej_call c_integer_power (G.le (by decide)) (aj_cons (ej_dat 2) (aj_cons (ej_is (ej_sub (ej_dat 3) ej_int) (congrArg PyData.int e1)) aj_nil)) (RI))))) (by
      by_cases q1 : low < e
      · rw [decide_eq_true q1, decide_eq_false (fun z => hc ⟨q1, z⟩)]; rfl
      · rw [decide_eq_false q1]; rfl)) (fun h => Bool.noConfusion h) (fun _ => ?_)
    rw [hhb] at fin
    exact fin

abbrev s_shortest : Stmt := topS 32
theorem sc_shortest : FnScope ["form", "number", "stretch", "unsigned", "e", "first", "last", "near"] ["form", "number"] (defScope s_shortest) := ⟨rfl, rfl, rfl, by decide +kernel, rfl, by decide +kernel, by decide +kernel⟩

theorem c_of_shortest /-H-/ (m_min : mg "min" = none) (m_max : mg "max" = none) (c_is_zero : Cal P w K mg base "is_zero" 5 (R_val (fun v => .bool v.isZ) (fun _ => True))) (c_stretch_of : Cal P w K mg base "stretch_of" 8 R_stretch) (c_size_of : Cal P w K mg base "size_of" 4 (R_one fun x => fq (absQ x))) (c_worth : Cal P w K mg base "worth" 6 R_worthD) (c_u_greatest_place : Cal P w K mg base "_greatest_place" 9 R_gpl) (c_u_multiples_in : Cal P w K mg base "_multiples_in" 7 R_mults) (c_ceiling_of : Cal P w K mg base "ceiling_of" 4 R_ceilP) (c_lessened : Cal P w K mg base "lessened" 5 (R_two (· - ·))) (c_over : Cal P w K mg base "over" 5 R_overW) (c_power_of : Cal P w K mg base "power_of" 5 R_power_of) (c_trimmed : Cal P w K mg base "trimmed" 4 R_ltrim) (c_compared : Cal P w K mg base "compared" 4 R_cmp) /-E-/ (T : At K mg "shortest" s_shortest ["form", "number"]) : Cal P w K mg base "shortest" 11 R_short :=
  cal_at T sc_shortest (by rintro _ _ _ _ ⟨⟩; rfl) fun f cd0 A out s0 H E0 G Γ B r B' hR => by
  obtain ⟨b, p, low, high, s, c, e, Gp, B, F, N, hG, hG1⟩ := hR
  have b2 := F.D.b2
  have el := N.D.2.2.2.1; have eh := N.D.2.2.2.2
  obtain ⟨o1, o2, o3, o4, o5⟩ := st_ord F N
  obtain ⟨q1, q2⟩ := st_bds F N
  obtain ⟨kd, k1, k2, k3, k4, k5⟩ := st_kd F N hG
  have gl : kd - 1 ≤ Gp := Int.not_lt.mp fun z => hG1 (has_down (has_width (e := kd - 1) (ltle (pw_lt (b := 10) (by decide) (show kd - 1 < kd by omega)) k1)) (by omega))
  have sx0 := (sh_in o1 o2 o3 hG).1
  refine sj_when (x := false) (tj_is (tj_val (ej_call c_is_zero (G.le (by decide)) (aj_cons (ej_dat (d := (Va.num s c e).d) 1) aj_nil) (R_val.mk (.num s c e) B trivial))) (show (Va.num s c e).isZ = false from decide_eq_false (by have := N.c0; omega))) (fun h => Bool.noConfusion h) (fun _ => ?_)
  have RS := R_stretch.mk b p low high s c e B F N
  have ab := absQ_w (b := b) b2 (s := s) (c := c) (e := e) (Int.le_of_lt N.c0)
  have RZ : R_one (fun x => fq (absQ x)) [.da (fq ((Va.num s c e).wQ b))] B (fq (absQ ((Va.num s c e).wQ b))) B := R_one.mk _ B
  rw [ab] at RZ
  have nq := num_qz F (Int.le_of_lt N.c0) N.D.2.2.1 el eh
  generalize hlo : stLo b p low c e = lo at *
  generalize hhi : stHi b c e = hi at *
  generalize decide (c % 2 = 0) = k at *
  refine sj_set 2 (d := .da (stD lo hi k)) (B1 := B) G.nd (ej_call c_stretch_of (G.le (by decide)) (aj_cons (ej_dat (d := fmP b p low high) 0) (aj_cons (ej_dat (d := (Va.num s c e).d) 1) aj_nil)) (RS)) ?_
  refine sj_set 3 (d := .da (fq ((c : Rat) * pw b e))) (B1 := B) G.nd (ej_call c_size_of (G.le (by decide)) (aj_cons (ej_call c_worth (G.le (by decide)) (aj_cons (ej_dat (d := fmP b p low high) 0) (aj_cons (ej_dat (d := (Va.num s c e).d) 1) aj_nil)) (R_worthD.mk b p low high s c e B F.D N.D)) aj_nil) (RZ)) ?_
  generalize hw : (c : Rat) * pw b e = wq at *
  refine sj_set 4 (d := .da (.int Gp)) (B1 := B) G.nd (ej_call c_u_greatest_place (G.le (by decide)) (aj_cons (ej_dat (d := stD lo hi k) 2) aj_nil) (R_gpl.mk lo hi k Gp kd B o1 q1 q2 k1 k2 (by omega) hG hG1 (by omega) (two_lt (Rat.le_of_lt (pw_pos (by decide) _)) k5 (by decide)))) ?_
  show SJ _ [.da (fmP b p low high), .da (Va.num s c e).d, .da (stD lo hi k), .da (fq wq), .da (.int Gp), .no, .no, .no] _ _ _
  have tq := (ten_qz (show -2000 ≤ Gp by omega) (by omega)).2.2
  have RC := R_cmp.mk 1740 4321 6650 6650 wq (pw 10 Gp) B nq tq (by decide) (by decide)
  have w0 : 0 < wq := ltle o1 (Rat.le_of_lt o2)
  have fin : ∀ E : Int, E = shE wq Gp → -2000 ≤ E → E ≤ 402 → kd - 2 ≤ E → SJ (cxOf CX0 P w K mg base ["form", "number", "stretch", "unsigned", "e", "first", "last", "near"] "shortest" (defScope s_shortest) f cd0 A out s0 H E0).nox [.da (fmP b p low high), .da (Va.num s c e).d, .da (stD lo hi k), .da (fq wq), .da (.int E), .no, .no, .no] B ((defBody s_shortest).drop 5) { nx := fun _ B2 => trP s (shX lo hi wq k (shE wq Gp)).toNat (shE wq Gp) = .none ∧ B2 = B, rt := fun d B2 => d = trP s (shX lo hi wq k (shE wq Gp)).toNat (shE wq Gp) ∧ B2 = B } := fun E hE e1 e2 e3 => by
    rw [← hE]
    rw [← hE] at sx0
    have so : StOk lo hi E := ⟨o1, ltle o2 (Rat.le_of_lt o3), q1, q2, e1, by omega, ten_two (ltle k5 (Rat.mul_le_mul_of_nonneg_right (pw_mono (by decide) (by omega)) Rat.natCast_nonneg))⟩
    refine sj_unpack [5, 6] (ds := [.int (fsQ lo k E), .int (lsQ hi k E)]) G.calm (ej_call c_u_multiples_in (G.le (by decide)) (aj_cons (ej_dat (d := stD lo hi k) 2) (aj_cons (ej_dat 4) aj_nil)) (R_mults.mk lo hi k E B so)) (pgs_cons (pgN 5 G.nd) (pgs_cons (pgN 6 G.nd) pgs_nil)) rfl ?_
    have tE := ten_qz4 e1 e2
    have h1q : Qz 1 2 (1 / 2 : Rat) := ⟨by unfold Bd; decide +kernel, by unfold Bd; decide +kernel⟩
    have hf : fq (1 / 2 : Rat) = .tuple [.int 1, .int 2] := (fq_mk (q := 1 / 2) (n := 1) (d := 2) (by decide +kernel) (by decide +kernel)).symm
    have yq : Qz 8400 5700 (wq / pw 10 E) := (nq.div tE (ten_ne E)).le (by decide) (by decide)
    have pE := pw_pos (b := 10) (by decide) E
    have y0 : 0 ≤ wq / pw 10 E := by rw [Rat.div_def]; exact Rat.mul_nonneg (Rat.le_of_lt w0) (Rat.le_of_lt (Rat.inv_pos.mpr pE))
    have y1 : wq / pw 10 E < ((2 ^ 3002 : Nat) : Rat) := by
      have : wq / pw 10 E ≤ ((2 ^ 3000 : Nat) : Rat) := by
        rw [(div_ten E).1, Rat.mul_comm]
        exact Rat.le_trans (Rat.le_of_lt o3) (Rat.le_of_lt so.q)
      exact lelt this (Rat.natCast_lt_natCast.mpr (Nat.pow_lt_pow_right (by decide) (by decide)))
    refine sj_set 7 (d := .da (.int (ceQ (wq / pw 10 E - 1 / 2)))) (B1 := B) G.nd (ej_call c_ceiling_of (G.le (by decide)) (aj_cons (ej_call c_lessened (G.le (by decide)) (aj_cons (ej_call c_over (G.le (by decide)) (aj_cons (ej_dat 3) (aj_cons (ej_call c_power_of (G.le (by decide)) (aj_cons ej_int (aj_cons (ej_dat 4) aj_nil)) (R_power_of.mk 10 E B (by decide) (by decide) (by omega) (by omega))) aj_nil)) (R_overW.mk 1740 4321 1340 6650 wq (pw 10 E) B nq tE (by decide) (by decide) (by decide) (by decide) (ten_ne E))) (aj_cons (ej_is (ej_tupD (ad_cons ej_int (ad_cons ej_int ad_nil)) (Nat.le_of_ble_eq_true rfl)) hf.symm) aj_nil)) (R_two.mk (f := (· - ·)) 8400 5700 1 2 (wq / pw 10 E) (1 / 2) B yq h1q (by decide) (by decide) (by decide))) aj_nil) (R_ceilP.mk (wq / pw 10 E - 1 / 2) B (div_small2 (by grind) (by grind)))) ?_
    unfold shX at sx0 ⊢
    generalize ceQ (wq / pw 10 E - 1 / 2) = near at *
    generalize fsQ lo k E = fs at *
    generalize lsQ hi k E = ls at *
    obtain ⟨X, hX⟩ : ∃ X : Nat, min (max near fs) ls = (X : Int) := ⟨(min (max near fs) ls).toNat, by omega⟩
    rw [hX] at sx0 ⊢
    rw [Int.toNat_natCast]
    exact sj_ret (ej_call c_trimmed (G.le (by decide)) (aj_cons (ej_tupD (ad_cons (ej_at (y := .int s) (ej_dat (d := .tuple [.str "num", .int s, .int c, .int e]) 1)) (ad_cons (ej_is (ej_min G.calm m_min (ej_max G.calm m_max (ej_dat 7) (ej_dat 5)) (ej_dat 6)) (congrArg PyData.int hX)) (ad_cons (ej_dat 4) ad_nil))) (Nat.le_of_ble_eq_true rfl)) aj_nil) (R_ltrim.mk s X E B (by omega))) ⟨rfl, rfl⟩
  by_cases hlt : wq < pw 10 Gp
  · refine sj_ifT (tj_is (tj_eqI G.hu (ej_call c_compared (G.le (by decide)) (aj_cons (ej_dat 3) (aj_cons (ej_call c_power_of (G.le (by decide)) (aj_cons ej_int (aj_cons (ej_dat 4) aj_nil)) (R_power_of.mk 10 Gp B (by decide) (by decide) (by omega) (by omega))) aj_nil)) (RC)) (ej_neg ej_int)) (by rw [cmp_lt hlt]; decide)) ?_
    exact sj_set 4 (d := .da (.int (Gp - 1))) (B1 := B) G.nd (ej_sub (ej_dat 4) ej_int) (sj_nil (fin (Gp - 1) (by unfold shE; rw [if_pos hlt]) (by omega) (by omega) (by omega)))
  · have hc : cmp wq (pw 10 Gp) ≠ -1 := by unfold cmp; rw [if_neg hlt]; split <;> decide
    refine sj_when (x := false) (tj_is (tj_eqI G.hu (ej_call c_compared (G.le (by decide)) (aj_cons (ej_dat 3) (aj_cons (ej_call c_power_of (G.le (by decide)) (aj_cons ej_int (aj_cons (ej_dat 4) aj_nil)) (R_power_of.mk 10 Gp B (by decide) (by decide) (by omega) (by omega))) aj_nil)) (RC)) (ej_neg ej_int)) (decide_eq_false hc)) (fun h => Bool.noConfusion h) (fun _ => ?_)
    exact fin Gp (by unfold shE; rw [if_neg hlt]) (by omega) (by omega) (by omega)
theorem c_of_shortest_x (c_is_zero : Cal P w K mg base "is_zero" 5 (R_val (fun v => .bool v.isZ) (fun _ => True))) (T_shortest : At K mg "shortest" s_shortest ["form", "number"]) : Cal P w K mg base "shortest" 11 R_shortZ :=
  cal_at T_shortest sc_shortest (by rintro _ _ _ _ ⟨⟩; rfl) fun f cd0 A out s0 H E0 G Γ B r B' hR => by
  obtain ⟨b, p, low, high, s, B⟩ := hR
  refine sj_when (x := true) (tj_is (tj_val (ej_call c_is_zero (G.le (by decide)) (aj_cons (ej_dat (d := (Va.num s 0 low).d) 1) aj_nil) (R_val.mk (.num s 0 low) B trivial))) rfl) (fun _ => ?_) (fun h => Bool.noConfusion h)
  exact sj_ret (ej_tupD (ad_cons (ej_at (y := .int s) (ej_dat (d := .tuple [.str "num", .int s, .int 0, .int low]) 1)) (ad_cons ej_int (ad_cons ej_int ad_nil))) (Nat.le_of_ble_eq_true rfl)) ⟨rfl, rfl⟩

abbrev s_is_shortest : Stmt := topS 33
theorem sc_is_shortest : FnScope ["form", "number", "thing"] ["form", "number", "thing"] (defScope s_is_shortest) := ⟨rfl, rfl, rfl, by decide +kernel, rfl, by decide +kernel, by decide +kernel⟩

theorem c_of_is_shortest /-H-/ (c_is_decimal : Cal P w K mg base "is_decimal" 6 R_isdec) (c_shortest : Cal P w K mg base "shortest" 11 R_short) (c_shortest_x : Cal P w K mg base "shortest" 11 R_shortZ) /-E-/ (T : At K mg "is_shortest" s_is_shortest ["form", "number", "thing"]) : Cal P w K mg base "is_shortest" 13 R_isshort :=
  cal_at T sc_is_shortest (by rintro _ _ _ _ ⟨⟩; rfl) fun f cd0 A out s0 H E0 G Γ B r B' hR => by
  obtain ⟨b, p, low, high, s, v, c, e, B, hs, h⟩ := hR
  have sh : Sh 1 (dcD s c e) := by
    unfold dcD
    refine Sh.tup fun d hd => ?_
    simp only [List.mem_cons, List.not_mem_nil, or_false] at hd
    rcases hd with rfl | rfl | rfl <;> exact Sh.int _
  rcases h with h | h
  · exact sj_ret (ej_and (x := true) (y := true) (ej_call c_is_decimal (G.le (by decide)) (aj_cons (ej_dat (d := dcD s c e) 2) aj_nil) (R_isdec.mk s c e B hs)) fun _ => ej_one (ej_is (ej_eq G.hu (ej_dat (d := dcD s c e) 2) (ej_call c_shortest (G.le (by decide)) (aj_cons (ej_dat (d := fmP b p low high) 0) (aj_cons (ej_dat (d := v) 1) aj_nil)) (h)) sh.shaped sh.shaped) (by rw [eqv_refl_of sh.shaped]))) ⟨rfl, rfl⟩
  · exact sj_ret (ej_and (x := true) (y := true) (ej_call c_is_decimal (G.le (by decide)) (aj_cons (ej_dat (d := dcD s c e) 2) aj_nil) (R_isdec.mk s c e B hs)) fun _ => ej_one (ej_is (ej_eq G.hu (ej_dat (d := dcD s c e) 2) (ej_call c_shortest_x (G.le (by decide)) (aj_cons (ej_dat (d := fmP b p low high) 0) (aj_cons (ej_dat (d := v) 1) aj_nil)) (h)) sh.shaped sh.shaped) (by rw [eqv_refl_of sh.shaped]))) ⟨rfl, rfl⟩

abbrev s_u_multiples_in : Stmt := topS 34
theorem sc_u_multiples_in : FnScope ["stretch", "e", "low", "high", "are_in", "unit", "start", "end"] ["stretch", "e"] (defScope s_u_multiples_in) := ⟨rfl, rfl, rfl, by decide +kernel, rfl, by decide +kernel, by decide +kernel⟩

theorem c_of_u_multiples_in /-H-/ (c_power_of : Cal P w K mg base "power_of" 5 R_power_of) (c_over : Cal P w K mg base "over" 5 R_overW) (c_ceiling_of : Cal P w K mg base "ceiling_of" 4 R_ceilP) (c_floor_of : Cal P w K mg base "floor_of" 4 R_floorP) /-E-/ (T : At K mg "_multiples_in" s_u_multiples_in ["stretch", "e"]) : Cal P w K mg base "_multiples_in" 7 R_mults :=
  cal_at T sc_u_multiples_in (by rintro _ _ _ _ ⟨⟩; rfl) fun f cd0 A out s0 H E0 G Γ B r B' hR => by
  obtain ⟨lo, hi, k, e, B, h⟩ := hR
  have h1 := h.e1; have h2 := h.e2
  obtain ⟨⟨d1, d2⟩, ⟨d3, d4⟩⟩ := st_div h
  have tq := (ten_qz h.e1 h.e2).2.2
  refine sj_unpack [2, 3, 4] (ds := [fq lo, fq hi, .bool k]) G.calm (ej_dat (d := stD lo hi k) 0) (pgs_cons (pgN 2 G.nd) (pgs_cons (pgN 3 G.nd) (pgs_cons (pgN 4 G.nd) pgs_nil))) rfl ?_
  refine sj_set 5 (d := .da (fq (pw 10 e))) (B1 := B) G.nd (ej_call c_power_of (G.le (by decide)) (aj_cons ej_int (aj_cons (ej_dat 1) aj_nil)) (R_power_of.mk 10 e B (by decide) (by decide) (by omega) (by omega))) ?_
  refine sj_par 6 7 (d1 := .da (fq (lo / pw 10 e))) (d2 := .da (fq (hi / pw 10 e))) (B1 := B) G.nd G.calm (aj_cons (ej_call c_over (G.le (by decide)) (aj_cons (ej_dat 2) (aj_cons (ej_dat 5) aj_nil)) (R_overW.mk 1750 4332 6650 6650 lo (pw 10 e) B h.ql tq (by decide) (by decide) (by decide) (by decide) (ten_ne e))) (aj_cons (ej_call c_over (G.le (by decide)) (aj_cons (ej_dat 3) (aj_cons (ej_dat 5) aj_nil)) (R_overW.mk 1750 4332 6650 6650 hi (pw 10 e) B h.qh tq (by decide) (by decide) (by decide) (by decide) (ten_ne e))) aj_nil)) ?_ (by decide) (by rfl)
  unfold fsQ lsQ
  generalize lo / pw 10 e = x at *
  generalize hi / pw 10 e = y at *
  cases k with
  | true =>
    refine sj_when (x := true) (tj_val (ej_dat (d := .bool true) 4)) (fun _ => ?_) (fun h => Bool.noConfusion h)
    rw [if_pos rfl, if_pos rfl]
    exact sj_ret (ej_tupD (ad_cons (ej_call c_ceiling_of (G.le (by decide)) (aj_cons (ej_dat 6) aj_nil) (R_ceilP.mk x B d1)) (ad_cons (ej_call c_floor_of (G.le (by decide)) (aj_cons (ej_dat 7) aj_nil) (R_floorP.mk y B d4)) ad_nil)) (Nat.le_of_ble_eq_true rfl)) ⟨rfl, rfl⟩
  | false =>
    refine sj_when (x := false) (tj_val (ej_dat (d := .bool false) 4)) (fun h => Bool.noConfusion h) (fun _ => ?_)
    rw [if_neg (by decide), if_neg (by decide)]
    exact sj_ret (ej_tupD (ad_cons (ej_add (ej_call c_floor_of (G.le (by decide)) (aj_cons (ej_dat 6) aj_nil) (R_floorP.mk x B d2)) ej_int) (ad_cons (ej_sub (ej_call c_ceiling_of (G.le (by decide)) (aj_cons (ej_dat 7) aj_nil) (R_ceilP.mk y B d3)) ej_int) ad_nil)) (Nat.le_of_ble_eq_true rfl)) ⟨rfl, rfl⟩

abbrev s_u_greatest_place : Stmt := topS 35
theorem sc_u_greatest_place : FnScope ["stretch", "low", "high", "_", "e"] ["stretch"] (defScope s_u_greatest_place) := ⟨rfl, rfl, rfl, by decide +kernel, rfl, by decide +kernel, by decide +kernel⟩

theorem c_of_u_greatest_place /-H-/ (c_power_below : Cal P w K mg base "power_below" 5 R_pbelowW) (c_lessened : Cal P w K mg base "lessened" 5 (R_two (· - ·))) (c_u_has_multiple : Cal P w K mg base "_has_multiple" 8 R_hasm) /-E-/ (T : At K mg "_greatest_place" s_u_greatest_place ["stretch"]) : Cal P w K mg base "_greatest_place" 9 R_gpl :=
  cal_at T sc_u_greatest_place (by rintro _ _ _ _ ⟨⟩; rfl) fun f cd0 A out s0 H E0 G Γ B r B' hR => by
  have c_power_below := c_power_below.imp pb_W
  obtain ⟨lo, hi, k, Gp, kd, B, l0, ql, qh, k1, k2, hk, hG, hG1, g2, q⟩ := hR
  have wd : 0 < hi - lo := ltle (pw_pos (b := 10) (by decide) kd) k1
  have lh : lo < hi := by grind
  refine sj_unpack [1, 2, 3] (ds := [fq lo, fq hi, .bool k]) G.calm (ej_dat (d := stD lo hi k) 0) (pgs_cons (pgN 1 G.nd) (pgs_cons (pgN 2 G.nd) (pgs_cons (pgN 3 G.nd) pgs_nil))) rfl ?_
  have qd : Qz 8900 8900 (hi - lo) := (qh.sub ql 8900 (by decide) (by decide)).le (by decide) (by decide)
  refine sj_set 4 (d := .da (.int (kd - 1))) (B1 := B) G.nd (ej_sub (ej_call c_power_below (G.le (by decide)) (aj_cons ej_int (aj_cons (ej_call c_lessened (G.le (by decide)) (aj_cons (ej_dat 2) (aj_cons (ej_dat 1) aj_nil)) (R_two.mk (f := (· - ·)) 1750 4332 1750 4332 hi lo B qh ql (by decide) (by decide) (by decide))) aj_nil)) (R_pbelow.mk 10 (hi - lo) kd 8900 8900 B (by decide) wd qd (by decide) (by decide) k1 k2)) ej_int) ?_
  have e0 : kd - 1 ≤ Gp := Int.not_lt.mp fun z => hG1 (has_down (has_width (e := kd - 1) (ltle (pw_lt (b := 10) (by decide) (show kd - 1 < kd by omega)) k1)) (by omega))
  have stok : ∀ e : Int, kd - 1 ≤ e → e ≤ 2000 → StOk lo hi e := fun e h1 h2 => ⟨l0, lh, ql, qh, by omega, h2, by
    refine ltle q (Rat.mul_le_mul_of_nonneg_right (pw_mono (by decide) h1) ?_)
    exact Rat.natCast_nonneg⟩
  refine sj_while G.nd (fun Γ' B' => ∃ e : Int, Γ' = [.da (stD lo hi k), .da (fq lo), .da (fq hi), .da (.bool k), .da (.int e)] ∧ kd - 1 ≤ e ∧ e ≤ Gp ∧ B' = B) (fun Γ' _ => (Gp - intAt Γ' 4).toNat) ⟨kd - 1, rfl, Int.le_refl _, e0, rfl⟩ ?_
  rintro Γ' B' ⟨e, rfl, he1, he2, rfl⟩
  refine ⟨decide (fsQ lo k (e + 1) ≤ lsQ hi k (e + 1)), tj_val (ej_call c_u_has_multiple (G.le (by decide)) (aj_cons (ej_dat (d := stD lo hi k) 0) (aj_cons (ej_add (ej_dat 4) ej_int) aj_nil)) (R_hasm.mk lo hi k (e + 1) B' (stok (e + 1) (by omega) (by omega)))), fun hc => ?_, fun hc => ?_⟩
  · have h := (hasM_iff lh).mpr (of_decide_eq_true hc)
    have lt : e + 1 ≤ Gp := Int.not_lt.mp fun z => hG1 (has_down h (by omega))
    refine sj_set 4 (d := .da (.int (e + 1))) (B1 := B') G.nd (ej_add (ej_dat 4) ej_int) (sj_nil ⟨⟨e + 1, rfl, by omega, lt, rfl⟩, ?_⟩)
    show (Gp - (e + 1)).toNat < (Gp - e).toNat
    omega
  · have h : ¬ hasM lo hi k (e + 1) := fun z => of_decide_eq_false hc ((hasM_iff lh).mp z)
    have : e = Gp := Int.le_antisymm he2 (Int.not_lt.mp fun z => h (has_down hG (by omega)))
    exact sj_ret (ej_is (ej_dat 4) (congrArg PyData.int this)) ⟨rfl, rfl⟩

abbrev s_u_has_multiple : Stmt := topS 36
theorem sc_u_has_multiple : FnScope ["stretch", "e", "first", "last"] ["stretch", "e"] (defScope s_u_has_multiple) := ⟨rfl, rfl, rfl, by decide +kernel, rfl, by decide +kernel, by decide +kernel⟩

theorem c_of_u_has_multiple /-H-/ (c_u_multiples_in : Cal P w K mg base "_multiples_in" 7 R_mults) /-E-/ (T : At K mg "_has_multiple" s_u_has_multiple ["stretch", "e"]) : Cal P w K mg base "_has_multiple" 8 R_hasm :=
  cal_at T sc_u_has_multiple (by rintro _ _ _ _ ⟨⟩; rfl) fun f cd0 A out s0 H E0 G Γ B r B' hR => by
  obtain ⟨lo, hi, k, e, B, h⟩ := hR
  refine sj_unpack [2, 3] (ds := [.int (fsQ lo k e), .int (lsQ hi k e)]) G.calm (ej_call c_u_multiples_in (G.le (by decide)) (aj_cons (ej_dat (d := stD lo hi k) 0) (aj_cons (ej_dat 1) aj_nil)) (R_mults.mk lo hi k e B h)) (pgs_cons (pgN 2 G.nd) (pgs_cons (pgN 3 G.nd) pgs_nil)) rfl ?_
  exact sj_ret (ej_le (ej_dat 2) (ej_dat 3)) ⟨rfl, rfl⟩

abbrev s_rounded : Stmt := topS 38
theorem sc_rounded : FnScope ["form", "way", "x", "s"] ["form", "way", "x", "s"] (defScope s_rounded) := ⟨rfl, rfl, rfl, by decide +kernel, rfl, by decide +kernel, by decide +kernel⟩

theorem c_of_rounded (c_zero : Cal P w K mg base "zero" 4 R_zero) (c_u_outcome : Cal P w K mg base "_outcome" 6 R_outcomeW) (c_sign_of_fraction : Cal P w K mg base "sign_of_fraction" 4 (R_one fun x => .int (sgn x))) (c_u_spot : Cal P w K mg base "_spot" 6 R_spotW) (c_size_of : Cal P w K mg base "size_of" 4 (R_one fun x => fq (absQ x)))
    (T : At K mg "rounded" s_rounded ["form", "way", "x", "s"]) : Cal P w K mg base "rounded" 7 R_roundW :=
  cal_at T sc_rounded (by rintro _ _ _ _ ⟨⟩; rfl) fun f cd0 A out s H E G Γ B r B' hR => by
  obtain ⟨b, p, low, high, way, x, s, n, d, B, F, hw, hs, hx, hn, hd, hz, l1, l2⟩ := hR
  refine sj_when (tj_eqI G.hu (ej_at (ej_dat (d := .tuple [.int x.num, .int (x.den : Int)]) 2)) ej_int) (fun h => ?_) (fun h => ?_)
  · have e : x = 0 := Rat.num_eq_zero.mp (of_decide_eq_true h)
    subst e
    rw [rdP_zero F.D.b2 F.D.lh]
    exact sj_ret (ej_tupD (ad_cons (ej_call c_zero (G.le (by decide)) (aj_cons (ej_dat 0) (aj_cons (ej_dat 3) aj_nil)) (R_zero.mk b p low high s B)) (ad_cons (ej_tupD ad_nil (Nat.le_of_ble_eq_true rfl)) ad_nil)) (Nat.le_of_ble_eq_true rfl)) ⟨rfl, rfl⟩
  · have e : x ≠ 0 := fun z => of_decide_eq_false h (Rat.num_eq_zero.mpr z)
    rw [rdP_pos e]
    exact sj_ret (ej_call c_u_outcome (G.le (by decide)) (aj_cons (ej_dat 0) (aj_cons (ej_dat 1) (aj_cons (ej_call c_sign_of_fraction (G.le (by decide)) (aj_cons (ej_dat 2) aj_nil) (R_one.mk x B))
      (aj_cons (ej_call c_u_spot (G.le (by decide)) (aj_cons (ej_dat 0) (aj_cons (ej_call c_size_of (G.le (by decide)) (aj_cons (ej_dat 2) aj_nil) (R_one.mk x B)) aj_nil)) (R_spotW.mk b p low high (absQ x) n d B F (absQ_pos e) hx.abs hn hd (abs_z hz) (l1 e) l2)) aj_nil)))) (R_outcomeW.mk b p low high way (sgn x) _ _ _ B F)) ⟨rfl, rfl⟩

abbrev s_u_spot : Stmt := topS 39
theorem sc_u_spot : FnScope ["form", "unsigned", "base", "digits", "low", "_", "e", "up", "down", "whole", "c", "left"] ["form", "unsigned"] (defScope s_u_spot) := ⟨rfl, rfl, rfl, by decide +kernel, rfl, by decide +kernel, by decide +kernel⟩

theorem c_of_u_spot (m_max : mg "max" = none) (m_divmod : mg "divmod" = none) (c_power_below : Cal P w K mg base "power_below" 5 R_pbelowW) (c_power_of : Cal P w K mg base "power_of" 5 R_power_of) (c_part_of : Cal P w K mg base "part_of" 4 R_part) (T : At K mg "_spot" s_u_spot ["form", "unsigned"]) : Cal P w K mg base "_spot" 6 R_spotW :=
  cal_at T sc_u_spot (by rintro _ _ _ _ ⟨⟩; rfl) fun f cd0 A out s H E G Γ B r B' hR => by
  obtain ⟨b, p, low, high, q, n, d, B, F, h0, hq, hn, hd, hz, l1, l2⟩ := hR
  have b2 := F.D.b2; have p2 := F.D.p2; have p7 := F.p7
  have hE := eQ_is (p := p) b2 low q
  have h0' := Rat.le_of_lt h0
  obtain ⟨he, hbe⟩ := F.e_ok hE l2
  have dD := F.divD h0 hE
  have hlo := hE.1
  have flo := F.D.lo
  refine sj_unpack [2, 3, 4, 5] G.calm (ej_dat (d := .tuple [.int b, .int p, .int low, .int high]) 0) (pgs_cons (pg_name (i := 2) G.nd rfl (Or.inl rfl)) (pgs_cons (pg_name (i := 3) G.nd rfl (Or.inl rfl)) (pgs_cons (pg_name (i := 4) G.nd rfl (Or.inl rfl)) (pgs_cons (pg_name (i := 5) G.nd rfl (Or.inl rfl)) pgs_nil)))) rfl ?_
  obtain ⟨k, k1, k3⟩ := log_ex b2 h0
  refine sj_set 6 G.nd (ej_is (y := .int (eQ b p low q)) (ej_max G.calm m_max (ej_dat 4) (ej_add (ej_sub (ej_call c_power_below (G.le (by decide)) (aj_cons (ej_dat 2) (aj_cons (ej_dat 1) aj_nil)) (R_pbelowW.mk b q k B b2 h0 hz (F.w1 h0 l2) (F.w2 h0 l1) k1 k3)) (ej_dat 3)) ej_int)) (congrArg PyData.int (e_of_log b2 k1 k3))) ?_
  generalize eQ b p low q = e at *
  have e1 : fq (pw b (-e)) = .tuple [.int ((b ^ (-e).toNat : Nat) : Int), .int ((b ^ e.toNat : Nat) : Int)] := by
    have := fq_pw b2 (-e)
    rw [Int.neg_neg] at this; exact this
  refine sj_unpack [7, 8] G.calm (ej_is (ej_call c_power_of (G.le (by decide)) (aj_cons (ej_dat 2) (aj_cons (ej_neg (ej_dat 6)) aj_nil)) (R_power_of.mk b (-e) B (by omega) F.D.b6 (by omega) (by omega))) e1) (pgs_cons (pg_name (i := 7) G.nd rfl (Or.inl rfl)) (pgs_cons (pg_name (i := 8) G.nd rfl (Or.inl rfl)) pgs_nil)) rfl ?_
  have hup : Bd 4700 ((b ^ (-e).toNat : Nat) : Int) := Bd.nat (F.lo_ok hlo)
  have hdn : Bd 16400 ((b ^ e.toNat : Nat) : Int) := Bd.nat hbe
  have hD : Bd (d + 16400) (Dq b e q) := hq.de.mul hdn
  have hDp := Dq_pos b2 e q
  refine sj_set 9 G.nd (ej_mul (ej_at (ej_dat (d := .tuple [.int q.num, .int (q.den : Int)]) 1)) (ej_dat 8) (cmz hq.de hdn)) ?_
  refine sj_unpack [10, 11] G.calm (ej_divmodP m_divmod (ej_mul (ej_at (ej_dat (d := .tuple [.int q.num, .int (q.den : Int)]) 1)) (ej_dat 7) (cmz hq.nu hup)) (ej_dat (d := .int (Dq b e q)) 9) dD) (pgs_cons (pg_name (i := 10) G.nd rfl (Or.inl rfl)) (pgs_cons (pg_name (i := 11) G.nd rfl (Or.inl rfl)) pgs_nil)) rfl ?_
  exact sj_ret (ej_tupD (ad_cons (ej_dat 6) (ad_cons (ej_dat (d := .int (cQ b e q)) 10) (ad_cons (ej_call c_part_of (G.le (by decide)) (aj_cons (ej_dat (d := .int (rQ b e q)) 11) (aj_cons (ej_dat (d := .int (Dq b e q)) 9) aj_nil)) (R_part.mk _ _ B (d + 16400) (hD.mod hDp) (by omega))) ad_nil))) (Nat.le_of_ble_eq_true rfl)) ⟨rfl, rfl⟩

abbrev s_u_nearest : Stmt := topS 40
theorem sc_u_nearest : FnScope ["form", "way", "s", "spot", "base", "digits", "_", "e", "c", "part"] ["form", "way", "s", "spot"] (defScope s_u_nearest) := ⟨rfl, rfl, rfl, by decide +kernel, rfl, by decide +kernel, by decide +kernel⟩

theorem c_of_u_nearest (c_is_taken_outward : Cal P w K mg base "is_taken_outward" 4 R_outw) (c_integer_power : Cal P w K mg base "integer_power" 4 R_pow) (T : At K mg "_nearest" s_u_nearest ["form", "way", "s", "spot"]) : Cal P w K mg base "_nearest" 5 R_nearestW :=
  cal_at T sc_u_nearest (by rintro _ _ _ _ ⟨⟩; rfl) fun f cd0 A out s H E G Γ B r B' hR => by
  obtain ⟨b, p, low, high, way, s, e, c, part, B, F⟩ := hR
  have b2 := F.D.b2; have p2 := F.D.p2; have p7 := F.p7
  refine sj_unpack [4, 5, 6, 6] G.calm (ej_dat (d := .tuple [.int b, .int p, .int low, .int high]) 0) (pgs_cons (pg_name (i := 4) G.nd rfl (Or.inl rfl)) (pgs_cons (pg_name (i := 5) G.nd rfl (Or.inl rfl)) (pgs_cons (pg_name (i := 6) G.nd rfl (Or.inl rfl)) (pgs_cons (pg_name (i := 6) G.nd rfl (Or.inl rfl)) pgs_nil)))) rfl ?_
  refine sj_unpack [7, 8, 9] G.calm (ej_dat (d := .tuple [.int e, .int c, .int part]) 3) (pgs_cons (pg_name (i := 7) G.nd rfl (Or.inl rfl)) (pgs_cons (pg_name (i := 8) G.nd rfl (Or.inl rfl)) (pgs_cons (pg_name (i := 9) G.nd rfl (Or.inl rfl)) pgs_nil))) rfl ?_
  refine sj_when (tj_not (tj_val (ej_call c_is_taken_outward (G.le (by decide)) (aj_cons (ej_dat 1) (aj_cons (ej_dat 2) (aj_cons (ej_dat 8) (aj_cons (ej_dat 9) aj_nil)))) (R_outw.mk way s c part B)))) (fun h => ?_) (fun h => ?_)
  · have ho : outw way s c part = false := by simpa using h
    rw [ho]
    exact sj_ret (ej_tupD (ad_cons ej_str (ad_cons (ej_dat 2) (ad_cons (ej_dat 8) (ad_cons (ej_dat 7) ad_nil)))) (Nat.le_of_ble_eq_true rfl)) ⟨rfl, rfl⟩
  · have ho : outw way s c part = true := by simpa using h
    rw [ho]
    unfold nb upN
    rw [if_pos rfl]
    refine sj_when (tj_eqI G.hu (ej_add (ej_dat 8) ej_int) (ej_call c_integer_power (G.le (by decide)) (aj_cons (ej_dat 4) (aj_cons (ej_dat 5) aj_nil)) (R_pow.mk b p B F.D.b6 (by omega)))) (fun h => ?_) (fun h => ?_)
    · rw [if_pos (of_decide_eq_true h)]
      have e1 : (p : Int) - 1 = ((p - 1 : Nat) : Int) := by omega
      exact sj_ret (ej_tupD (ad_cons ej_str (ad_cons (ej_dat 2) (ad_cons (ej_call c_integer_power (G.le (by decide)) (aj_cons (ej_dat 4) (aj_cons (ej_is (ej_sub (ej_dat 5) ej_int) (congrArg PyData.int e1)) aj_nil)) (R_pow.mk b (p - 1) B F.D.b6 (by omega))) (ad_cons (ej_add (ej_dat 7) ej_int) ad_nil)))) (Nat.le_of_ble_eq_true rfl)) ⟨rfl, rfl⟩
    · rw [if_neg (of_decide_eq_false h)]
      exact sj_ret (ej_tupD (ad_cons ej_str (ad_cons (ej_dat 2) (ad_cons (ej_add (ej_dat 8) ej_int) (ad_cons (ej_dat 7) ad_nil)))) (Nat.le_of_ble_eq_true rfl)) ⟨rfl, rfl⟩

abbrev s_u_outcome : Stmt := topS 41
theorem sc_u_outcome : FnScope ["form", "way", "s", "spot", "base", "digits", "_", "high", "number", "c", "part"] ["form", "way", "s", "spot"] (defScope s_u_outcome) := ⟨rfl, rfl, rfl, by decide +kernel, rfl, by decide +kernel, by decide +kernel⟩

theorem c_of_u_outcome (c_u_nearest : Cal P w K mg base "_nearest" 5 R_nearestW) (c_u_too_great : Cal P w K mg base "_too_great" 5 R_toogW) (c_integer_power : Cal P w K mg base "integer_power" 4 R_pow) (T : At K mg "_outcome" s_u_outcome ["form", "way", "s", "spot"]) : Cal P w K mg base "_outcome" 6 R_outcomeW :=
  cal_at T sc_u_outcome (by rintro _ _ _ _ ⟨⟩; rfl) fun f cd0 A out s H E G Γ B r B' hR => by
  obtain ⟨b, p, low, high, way, s, e, c, part, B, F⟩ := hR
  have b2 := F.D.b2; have p2 := F.D.p2; have p7 := F.p7
  refine sj_unpack [4, 5, 6, 7] G.calm (ej_dat (d := .tuple [.int b, .int p, .int low, .int high]) 0) (pgs_cons (pg_name (i := 4) G.nd rfl (Or.inl rfl)) (pgs_cons (pg_name (i := 5) G.nd rfl (Or.inl rfl)) (pgs_cons (pg_name (i := 6) G.nd rfl (Or.inl rfl)) (pgs_cons (pg_name (i := 7) G.nd rfl (Or.inl rfl)) pgs_nil)))) rfl ?_
  refine sj_set 8 G.nd (ej_call c_u_nearest (G.le (by decide)) (aj_cons (ej_dat 0) (aj_cons (ej_dat 1) (aj_cons (ej_dat 2) (aj_cons (ej_dat 3) aj_nil)))) (R_nearestW.mk b p low high way s e c part B F)) ?_
  unfold outP
  generalize (nb b p (outw way s c part) c e).1 = c'
  generalize (nb b p (outw way s c part) c e).2 = e'
  refine sj_when (tj_gt (ej_at (ej_dat (d := .tuple [.str "num", .int s, .int c', .int e']) 8)) (ej_dat 7)) (fun h => ?_) (fun h => ?_)
  · rw [if_pos (of_decide_eq_true h)]
    exact sj_ret (ej_tupD (ad_cons (ej_call c_u_too_great (G.le (by decide)) (aj_cons (ej_dat 0) (aj_cons (ej_dat 1) (aj_cons (ej_dat 2) aj_nil))) (R_toogW.mk b p low high way s B F)) (ad_cons (ej_tupD (ad_cons ej_str (ad_cons ej_str ad_nil)) (Nat.le_of_ble_eq_true rfl)) ad_nil)) (Nat.le_of_ble_eq_true rfl)) ⟨rfl, rfl⟩
  · rw [if_neg (of_decide_eq_false h)]
    refine sj_unpack [6, 9, 10] G.calm (ej_dat (d := .tuple [.int e, .int c, .int part]) 3) (pgs_cons (pg_name (i := 6) G.nd rfl (Or.inl rfl)) (pgs_cons (pg_name (i := 9) G.nd rfl (Or.inl rfl)) (pgs_cons (pg_name (i := 10) G.nd rfl (Or.inl rfl)) pgs_nil))) rfl ?_
    refine sj_when (tj_eqI G.hu (ej_dat 10) ej_int) (fun h => ?_) (fun h => ?_)
    · rw [if_pos (of_decide_eq_true h)]
      exact sj_ret (ej_tupD (ad_cons (ej_dat 8) (ad_cons (ej_tupD ad_nil (Nat.le_of_ble_eq_true rfl)) ad_nil)) (Nat.le_of_ble_eq_true rfl)) ⟨rfl, rfl⟩
    · rw [if_neg (of_decide_eq_false h)]
      have e1 : (p : Int) - 1 = ((p - 1 : Nat) : Int) := by omega
      refine sj_when (tj_lt (ej_dat 9) (ej_call c_integer_power (G.le (by decide)) (aj_cons (ej_dat 4) (aj_cons (ej_is (ej_sub (ej_dat 5) ej_int) (congrArg PyData.int e1)) aj_nil)) (R_pow.mk b (p - 1) B F.D.b6 (by omega)))) (fun h => ?_) (fun h => ?_)
      · rw [if_pos (of_decide_eq_true h)]
        exact sj_ret (ej_tupD (ad_cons (ej_dat 8) (ad_cons (ej_tupD (ad_cons ej_str (ad_cons ej_str ad_nil)) (Nat.le_of_ble_eq_true rfl)) ad_nil)) (Nat.le_of_ble_eq_true rfl)) ⟨rfl, rfl⟩
      · rw [if_neg (of_decide_eq_false h)]
        exact sj_ret (ej_tupD (ad_cons (ej_dat 8) (ad_cons (ej_tupD (ad_cons ej_str ad_nil) (Nat.le_of_ble_eq_true rfl)) ad_nil)) (Nat.le_of_ble_eq_true rfl)) ⟨rfl, rfl⟩

abbrev s_u_too_great : Stmt := topS 42
theorem sc_u_too_great : FnScope ["form", "way", "s", "base", "digits", "_", "high"] ["form", "way", "s"] (defScope s_u_too_great) := ⟨rfl, rfl, rfl, by decide +kernel, rfl, by decide +kernel, by decide +kernel⟩

theorem c_of_u_too_great (c_integer_power : Cal P w K mg base "integer_power" 4 R_pow) (T : At K mg "_too_great" s_u_too_great ["form", "way", "s"]) : Cal P w K mg base "_too_great" 5 R_toogW :=
  cal_at T sc_u_too_great (by rintro _ _ _ _ ⟨⟩; rfl) fun f cd0 A out s H E G Γ B r B' hR => by
  obtain ⟨b, p, low, high, way, s, B, F⟩ := hR
  have b2 := F.D.b2; have p2 := F.D.p2; have p7 := F.p7
  refine sj_unpack [3, 4, 5, 6] G.calm (ej_dat (d := .tuple [.int b, .int p, .int low, .int high]) 0) (pgs_cons (pg_name (i := 3) G.nd rfl (Or.inl rfl)) (pgs_cons (pg_name (i := 4) G.nd rfl (Or.inl rfl)) (pgs_cons (pg_name (i := 5) G.nd rfl (Or.inl rfl)) (pgs_cons (pg_name (i := 6) G.nd rfl (Or.inl rfl)) pgs_nil)))) rfl ?_
  refine sj_when (x := isInf way s) (tj_is (tj_w (wj_or (tj_inT (ss := ["even", "away"]) (ej_dat 1) (ej_tupD (ad_cons ej_str (ad_cons ej_str ad_nil)) (Nat.le_of_ble_eq_true rfl))) fun _ => wj_or (tj_w (wj_and (tj_eqS (ej_dat 1) ej_str) fun _ => wj_and1 (tj_eqI G.hu (ej_dat 2) ej_int))) fun _ => wj_or1 (tj_w (wj_and (tj_eqS (ej_dat 1) ej_str) fun _ => wj_and1 (tj_eqI G.hu (ej_dat 2) ej_int))))) (isInf_or way s)) (fun h => ?_) (fun h => ?_)
  · exact sj_ret (ej_tupD (ad_cons ej_str (ad_cons (ej_dat 2) ad_nil)) (Nat.le_of_ble_eq_true rfl)) ⟨by unfold tooG; rw [if_pos h], rfl⟩
  · exact sj_ret (ej_tupD (ad_cons ej_str (ad_cons (ej_dat 2) (ad_cons (ej_sub (ej_call c_integer_power (G.le (by decide)) (aj_cons (ej_dat 3) (aj_cons (ej_dat 4) aj_nil)) (R_pow.mk b p B F.D.b6 (by omega))) ej_int) (ad_cons (ej_dat 6) ad_nil)))) (Nat.le_of_ble_eq_true rfl)) ⟨by unfold tooG; rw [if_neg (by rw [h]; decide)]; rfl, rfl⟩

abbrev s_read_decimal : Stmt := topS 44
theorem sc_read_decimal : FnScope ["form", "way", "decimal", "s", "c", "e", "_", "digits", "low", "high", "far", "place"] ["form", "way", "decimal"] (defScope s_read_decimal) := ⟨rfl, rfl, rfl, by decide +kernel, rfl, by decide +kernel, by decide +kernel⟩

theorem c_of_read_decimal /-H-/ (m_abs : mg "abs" = none) (c_zero : Cal P w K mg base "zero" 4 R_zero) (c_power_below : Cal P w K mg base "power_below" 5 R_pbelowW) (c_rounded : Cal P w K mg base "rounded" 7 R_roundW) (c_decimal_worth : Cal P w K mg base "decimal_worth" 6 R_dworth) /-E-/ (T : At K mg "read_decimal" s_read_decimal ["form", "way", "decimal"]) : Cal P w K mg base "read_decimal" 8 R_read :=
  cal_at T sc_read_decimal (by rintro _ _ _ _ ⟨⟩; rfl) fun f cd0 A out s0 H E0 G Γ B r B' hR => by
  obtain ⟨b, p, low, high, way, s, c, e, B, F, hw, hs, h0, hc, h1⟩ := hR
  have b2 := F.D.b2; have p7 := F.p7; have lo := F.D.lo; have hi := F.D.hi; have lh := F.D.lh; have fr := F.far
  refine sj_unpack [3, 4, 5] (ds := [.int s, .int c, .int e]) G.calm (ej_dat (d := dcD s c e) 2) (pgs_cons (pgN 3 G.nd) (pgs_cons (pgN 4 G.nd) (pgs_cons (pgN 5 G.nd) pgs_nil))) rfl ?_
  by_cases cz : c = 0
  · subst cz
    rw [dq_zero, rdP_zero b2 lh]
    refine sj_when (x := true) (tj_is (tj_eqI G.hu (ej_dat 4) ej_int) rfl) (fun _ => ?_) (fun h => Bool.noConfusion h)
    exact sj_ret (ej_tupD (ad_cons (ej_call c_zero (G.le (by decide)) (aj_cons (ej_dat 0) (aj_cons (ej_dat 3) aj_nil)) (R_zero.mk b p low high s B)) (ad_cons (ej_tupD ad_nil (Nat.le_of_ble_eq_true rfl)) ad_nil)) (Nat.le_of_ble_eq_true rfl)) ⟨rfl, rfl⟩
  have c0 : 0 < c := by omega
  refine sj_when (x := false) (tj_is (tj_eqI G.hu (ej_dat 4) ej_int) (decide_eq_false cz)) (fun h => Bool.noConfusion h) (fun _ => ?_)
  refine sj_unpack [6, 7, 8, 9] (ds := [.int b, .int p, .int low, .int high]) G.calm (ej_dat (d := fmP b p low high) 0) (pgs_cons (pgN 6 G.nd) (pgs_cons (pgN 7 G.nd) (pgs_cons (pgN 8 G.nd) (pgs_cons (pgN 9 G.nd) pgs_nil)))) rfl ?_
  obtain ⟨fa, hfa⟩ : ∃ fa : Int, ((farN p low high : Nat) : Int) = fa := ⟨_, rfl⟩
  have ef : 2 * (absI low + absI high + p) + 1 = fa := by rw [← hfa]; unfold farN absI; split <;> split <;> omega
  have bs : Bd 60 (absI low + absI high + p) := by unfold Bd absI; split <;> split <;> omega
  refine sj_set 10 (d := .da (.int fa)) (B1 := B) G.nd (ej_is (ej_add (ej_mul ej_int (ej_add (ej_add (ej_abs m_abs (ej_dat 8)) (ej_abs m_abs (ej_dat 9))) (ej_dat 7)) (cm (show Bd 60 (2 : Int) by unfold Bd; decide) bs)) ej_int) (congrArg PyData.int ef)) ?_
  have cq : (0 : Rat) < (c : Rat) := by exact_mod_cast c0
  obtain ⟨k, k1, k2⟩ := log_ex (b := 10) (by decide) cq
  have kb := k_bound c0 hc k1 k2
  have fc : fq (c : Rat) = .tuple [.int c, .int 1] := fq_int c
  have cn : c.toNat < 2 ^ 8999 := by
    unfold Bd at hc
    exact Nat.lt_of_lt_of_le (show c.toNat < 2 ^ 8900 by omega) (Nat.pow_le_pow_right (by decide) (by decide))
  have RP := R_pbelowW.mk 10 (c : Rat) k B (by decide) cq (.inr (by rw [Rat.den_intCast]; exact Bd.le (n := 60) (by unfold Bd; decide) (by decide))) (by rw [Rat.num_intCast, Rat.den_intCast, Nat.div_one]; exact wh_small cn) (by rw [Rat.den_intCast, Nat.sub_self, Nat.zero_div]; exact wh_small (Nat.pow_pos (by decide))) k1 k2
  rw [fc] at RP
  refine sj_set 11 (d := .da (.int (k + e))) (B1 := B) G.nd (ej_add (ej_call c_power_below (G.le (by decide)) (aj_cons ej_int (aj_cons (ej_tupD (ad_cons (ej_dat 4) (ad_cons ej_int ad_nil)) (Nat.le_of_ble_eq_true rfl)) aj_nil)) (RP)) (ej_dat 5)) ?_
  obtain ⟨hi1, hi2⟩ := rd_clamp hs c0 (e := e) (p := p) (low := low) (high := high) b2 F.D.b6 (way := way) k1 k2
  rw [hfa] at hi1 hi2
  have fin : ∀ (c' e' : Int) (v : PyData), 0 < c' → Bd 8900 c' → -8000 ≤ e' → e' ≤ 8000 → (pw 10 (-fa) ≤ (c' : Rat) * pw 10 e' ∧ (c' : Rat) * pw 10 e' < pw 10 (fa + 1)) → rdP b p low high way (dqQ s c' e') s = v →
      SJ (cxOf CX0 P w K mg base ["form", "way", "decimal", "s", "c", "e", "_", "digits", "low", "high", "far", "place"] "read_decimal" (defScope s_read_decimal) f cd0 A out s0 H E0).nox [.da (fmP b p low high), .da (.str way), .da (dcD s c' e'), .da (.int s), .da (.int c), .da (.int e), .da (.int b), .da (.int p), .da (.int low), .da (.int high), .da (.int fa), .da (.int (k + e))] B ((defBody s_read_decimal).drop 6) { nx := fun _ B2 => v = .none ∧ B2 = B, rt := fun d B2 => d = v ∧ B2 = B } := fun c' e' v q0 qc q1 q2 q3 hv => by
    obtain ⟨z1, z2⟩ := dq_qz (e := e') hs q0 qc q1 q2
    have ab := dq_abs (e := e') hs q0
    refine sj_ret (ej_call c_rounded (G.le (by decide)) (aj_cons (ej_dat 0) (aj_cons (ej_dat 1) (aj_cons (ej_call c_decimal_worth (G.le (by decide)) (aj_cons (ej_dat (d := dcD s c' e') 2) aj_nil) (R_dworth.mk s c' e' B hs (Int.le_of_lt q0) qc q1 q2)) (aj_cons (ej_dat 3) aj_nil)))) (R_roundW.mk b p low high way (dqQ s c' e') s 40000 40000 B F hw hs z1 (by decide) (by decide) z2 (fun _ => by rw [hfa, ab]; exact q3.1) (by rw [hfa, ab]; exact q3.2))) ⟨hv, rfl⟩
  have one : ∀ x : Rat, ((1 : Int) : Rat) * x = x := fun x => by rw [show ((1 : Int) : Rat) = 1 from rfl, Rat.one_mul]
  have f0 : 0 ≤ fa ∧ fa ≤ 4900 := by omega
  by_cases hf : fa < absI (k + e)
  · refine sj_ifX (tx_tj (tj_is (tj_gt (ej_abs m_abs (ej_dat 11)) (ej_dat 10)) (decide_eq_true hf)) ⟨fun _ => ?_, fun h => Bool.noConfusion h⟩)
    by_cases hp : 0 < k + e
    · refine sj_set 2 (d := .da (dcD s 1 fa)) (B1 := B) G.nd (ej_tupD (ad_cons (ej_dat 3) (ad_cons ej_int (ad_cons (ej_ifT (tj_is (tj_gt (ej_dat 11) ej_int) (decide_eq_true hp)) (ej_dat 10)) ad_nil))) (Nat.le_of_ble_eq_true rfl)) (sj_nil ?_)
      refine fin 1 fa _ (by decide) (Bd.le (n := 60) (by unfold Bd; decide) (by decide)) (by omega) (by omega) ⟨?_, ?_⟩ (hi1 (by unfold absI at hf; split at hf <;> omega)).symm
      · rw [one]; exact pw_mono (by decide) (by omega)
      · rw [one]; exact pw_lt (by decide) (by omega)
    · refine sj_set 2 (d := .da (dcD s 1 (-fa))) (B1 := B) G.nd (ej_tupD (ad_cons (ej_dat 3) (ad_cons ej_int (ad_cons (ej_ifF (tj_is (tj_gt (ej_dat 11) ej_int) (decide_eq_false hp)) (ej_neg (ej_dat 10))) ad_nil))) (Nat.le_of_ble_eq_true rfl)) (sj_nil ?_)
      refine fin 1 (-fa) _ (by decide) (Bd.le (n := 60) (by unfold Bd; decide) (by decide)) (by omega) (by omega) ⟨?_, ?_⟩ (hi2 (by unfold absI at hf; split at hf <;> omega)).symm
      · rw [one]; exact Rat.le_refl
      · rw [one]; exact pw_lt (by decide) (by omega)
  · refine sj_when (x := false) (tj_is (tj_gt (ej_abs m_abs (ej_dat 11)) (ej_dat 10)) (decide_eq_false hf)) (fun h => Bool.noConfusion h) (fun _ => ?_)
    have hb : -fa ≤ k + e ∧ k + e ≤ fa := by unfold absI at hf; split at hf <;> omega
    have pe := pw_pos (b := 10) (by decide) e
    refine fin c e _ c0 hc (by omega) (by omega) ⟨?_, ?_⟩ rfl
    · refine Rat.le_trans (pw_mono (by decide) (show -fa ≤ k + e from hb.1)) ?_
      rw [pw_add (by decide)]
      exact Rat.mul_le_mul_of_nonneg_right k1 (Rat.le_of_lt pe)
    · have x1 : (c : Rat) * pw 10 e < pw 10 (k + 1) * pw 10 e := Rat.mul_lt_mul_of_pos_right k2 pe
      rw [← pw_add (by decide)] at x1
      exact ltle x1 (pw_mono (by decide) (by omega))

abbrev s_l_bag : Stmt := topS 46
theorem sc_l_bag : FnScope ["_law_script", "_law_cell"] ["_law_script"] (defScope s_l_bag) := ⟨rfl, rfl, rfl, by decide +kernel, rfl, by decide +kernel, by decide +kernel⟩

theorem c_of_l_bag (m_abs : mg "abs" = none) (T : At K mg "_law_bag" s_l_bag ["_law_script"]) : Cal P w K mg base "_law_bag" 4 R_bag :=
  cal_at T sc_l_bag (by rintro _ _ _ _ ⟨⟩; rfl) fun f cd0 A out s H E G Γ B r B' hR => by
  obtain ⟨ns, B, hl⟩ := hR
  refine sj_ret (ej_lstD (ad_cons ej_int (ad_cons ej_int (ad_cons ej_int (ad_cons (ej_lc (j := 1) (x := "_law_cell") G.nd G.calm (blkOk_by (N := ["_law_script", "_law_cell"]) (sc := defScope s_l_bag) (by decide +kernel)) (fun _ _ _ _ _ => pg_name (i := 1) G.nd rfl (Or.inl rfl))
    (rj_lc (ds := (ns.take 63).map .int) (ys := ((ns.take 63).map absI).map .int) (fun _ => B) (ej_is (ej_sliceScr (ej_var 0 (d := .scr ns) rfl (fun z => nomatch z)) oj_none (oj_some ej_int)) (congrArg PyData.list (cut_head ns 63)))
      (by simp) (by rw [List.length_map, List.length_take]; omega) ?_)) ad_nil)))) (Nat.le_of_ble_eq_true rfl)) ⟨rfl, rfl⟩
  intro i y z hy hz s H C cl fp
  rw [List.getElem?_map] at hy hz
  rw [List.getElem?_map] at hz
  obtain ⟨n, hn, rfl⟩ := Option.map_eq_some_iff.mp hy
  rw [hn] at hz
  cases hz
  exact ej_abs m_abs (ej_dat 1)

abbrev s_l_take : Stmt := topS 47
theorem sc_l_take : FnScope ["_law_bag_here", "_law_many", "_law_cell", "_law_stirred", "_law_value", "_law_begin", "_law_second"] ["_law_bag_here", "_law_many"] (defScope s_l_take) := ⟨rfl, rfl, rfl, by decide +kernel, rfl, by decide +kernel, by decide +kernel⟩

theorem c_of_l_take (m_int : mg "int" = none) (T : At K mg "_law_take" s_l_take ["_law_bag_here", "_law_many"]) : Cal P w K mg base "_law_take" 4 R_take :=
  cal_at T sc_l_take (by rintro _ _ _ _ ⟨⟩; rfl) fun f cd0 A out s H E G Γ B r B' hR => by
  obtain ⟨B, m, hm, hb, hc⟩ := hR
  refine sj_ifM (fun Γ' B2 => B2 = stir B ∧ Γ'[0]? = some .bag ∧ Γ'[1]? = some (.da (.int m)) ∧ Γ'.length = 7) (tj_eqI G.hu (ej_bagAt (k := 0) (ej_bag 0) ej_int rfl (.inl ⟨rfl, rfl⟩) fun _ _ => rfl) ej_int) (fun h => ?_) (fun h => ?_) ?_
  · have hx : B.x = 0 := of_decide_eq_true h
    refine sj_set 2 G.nd (ej_ixL (ej_catL (ej_sliceL (ej_bagAt (k := 3) (ej_bag 0) ej_int rfl (.inr (.inr (.inr ⟨rfl, rfl⟩))) fun _ _ => rfl) (oj_some (ej_bagAt (k := 2) (ej_bag 0) ej_int rfl (.inr (.inr (.inl ⟨rfl, rfl⟩))) fun _ _ => rfl)) oj_none) (ej_lstD (ad_cons ej_int ad_nil) (Nat.le_of_ble_eq_true rfl)) ?_) ej_int (drop_cell B) fun _ _ => rfl) ?_
    · have h63 : B.cs.length ≤ 63 := hc
      show (cutP (B.cs.map PyData.int) (some B.z) none).length + 1 ≤ 1000
      unfold cutP
      rw [List.length_take, List.length_drop, List.length_map]; omega
    refine sj_bagAug (ej_bag 0) ej_int ej_int rfl ?_
    refine sj_ifM (fun Γ' B2 => Γ' = [.bag, .da (.int m), .da (.int (cell B)), .no, .no, .no, .no] ∧ B2 = ⟨if 10 ^ 18 ≤ cell B then cell B else B.x, B.y, B.z + 1, B.cs⟩)
      (tj_ge (ej_dat 2) (ej_pow ej_int ej_int ⟨by decide, by decide, by decide⟩)) (fun h => ?_) (fun h => ?_) ?_
    · refine sj_bagSet (ej_dat 2) (ej_bag 0) ej_int (k := 0) rfl (.inl ⟨rfl, rfl⟩) (sj_nil ⟨rfl, ?_⟩)
      have h' : (10 : Int) ^ 18 ≤ cell B := of_decide_eq_true h
      rw [if_pos h']
    · refine sj_nil ⟨rfl, ?_⟩
      have h' : ¬ (10 : Int) ^ 18 ≤ cell B := of_decide_eq_false h
      rw [if_neg h']
    · rintro Γ2 B2 ⟨rfl, rfl⟩
      refine sj_set 3 G.nd (ej_add (ej_add (ej_mulC (ej_bagAt (k := 1) (ej_bag 0) ej_int rfl (.inr (.inl ⟨rfl, rfl⟩)) fun _ _ => rfl) ej_int (.inr (by decide))) (ej_mod (ej_int1 m_int (ej_dat 2)) ej_int (by decide)))
        (ej_mulC ej_int (ej_bagAt (k := 2) (ej_bag 0) ej_int rfl (.inr (.inr (.inl ⟨rfl, rfl⟩))) fun _ _ => rfl) (.inl (by decide)))) ?_
      refine sj_bagSet (ej_mod (ej_int1 m_int (ej_dat 3)) ej_int (by decide)) (ej_bag 0) ej_int (k := 1) rfl (.inr (.inl ⟨rfl, rfl⟩)) (sj_nil ⟨?_, rfl, rfl, rfl⟩)
      unfold stir
      rw [if_pos hx]
  · refine sj_nil ⟨?_, rfl, rfl, rfl⟩
    unfold stir
    rw [if_neg (of_decide_eq_false h)]
  · rintro Γ2 B2 ⟨rfl, g0, g1, gl⟩
    refine sj_when (tj_gt (ej_bagAt (k := 0) (ej_bag 0 g0) ej_int rfl (.inl ⟨rfl, rfl⟩) fun _ _ => rfl) ej_int) (fun h => ?_) (fun h => ?_)
    · have h' : 0 < (stir B).x := of_decide_eq_true h
      refine sj_set 4 G.nd (ej_mod (ej_int1 m_int (ej_bagAt (k := 0) (ej_bag 0 g0) ej_int rfl (.inl ⟨rfl, rfl⟩) fun _ _ => rfl)) (ej_dat 1 g1) hm) ?_
      have g0' : (Γ2.set 4 (.da (.int ((stir B).x % m))))[0]? = some .bag := by rw [List.getElem?_set_ne (by decide)]; exact g0
      have g1' : (Γ2.set 4 (.da (.int ((stir B).x % m))))[1]? = some (.da (.int m)) := by rw [List.getElem?_set_ne (by decide)]; exact g1
      have g4 : (Γ2.set 4 (.da (.int ((stir B).x % m))))[4]? = some (.da (.int ((stir B).x % m))) := List.getElem?_set_self (by omega)
      refine sj_bagSet (ej_fdiv (ej_int1 m_int (ej_bagAt (k := 0) (ej_bag 0 g0') ej_int rfl (.inl ⟨rfl, rfl⟩) fun _ _ => rfl)) (ej_dat 1 g1') (cdv hb hm)) (ej_bag 0 g0') ej_int (k := 0) rfl (.inl ⟨rfl, rfl⟩) ?_
      refine sj_ret (ej_dat 4 g4) ⟨?_, ?_⟩
      · unfold tkV; rw [if_pos h']
      · unfold tkB; rw [if_pos h']
    · have h' : ¬ 0 < (stir B).x := of_decide_eq_false h
      refine sj_set 5 G.nd (ej_mod (ej_int1 m_int (ej_mulC (ej_add (ej_bagAt (k := 1) (ej_bag 0 g0) ej_int rfl (.inr (.inl ⟨rfl, rfl⟩)) fun _ _ => rfl) ej_int) ej_int (.inr (by decide)))) ej_int (by decide)) ?_
      generalize hbg : (((stir B).y + 1) * 39373) % 1000000007 = bg
      have hb5 : 0 ≤ bg ∧ bg < 1000000007 := by rw [← hbg]; exact ⟨Int.emod_nonneg _ (by decide), Int.emod_lt_of_pos _ (by decide)⟩
      have g5 : (Γ2.set 5 (.da (.int bg)))[5]? = some (.da (.int bg)) := List.getElem?_set_self (by omega)
      refine sj_set 6 G.nd (ej_mod (ej_int1 m_int (ej_mulC (ej_mod (ej_int1 m_int (ej_mulC (ej_dat 5 g5) (ej_dat 5 g5) (.inl (by omega)))) ej_int (by decide)) ej_int (.inr (by decide)))) ej_int (by decide)) ?_
      have g6 : ((Γ2.set 5 (.da (.int bg))).set 6 (.da (.int ((bg * bg) % 998244353 * 30011 % 998244353))))[6]? = some (.da (.int ((bg * bg) % 998244353 * 30011 % 998244353))) := List.getElem?_set_self (by rw [List.length_set]; omega)
      have g1' : ((Γ2.set 5 (.da (.int bg))).set 6 (.da (.int ((bg * bg) % 998244353 * 30011 % 998244353))))[1]? = some (.da (.int m)) := by
        rw [List.getElem?_set_ne (by decide), List.getElem?_set_ne (by decide)]; exact g1
      refine sj_ret (ej_mod (ej_int1 m_int (ej_fdiv (ej_dat 6 g6) ej_int (cdv (show Bd 3 7 from by unfold Bd; decide) (by decide)))) (ej_dat 1 g1') hm) ⟨?_, ?_⟩
      · unfold tkV low; rw [if_neg h', hbg]
      · unfold tkB; rw [if_neg h']

abbrev s_l_some : Stmt := topS 48
theorem sc_l_some : FnScope ["_law_bag_here", "_law_things"] ["_law_bag_here", "_law_things"] (defScope s_l_some) := ⟨rfl, rfl, rfl, by decide +kernel, rfl, by decide +kernel, by decide +kernel⟩

theorem c_of_l_some (m_len : mg "len" = none) (c_l_take : Cal P w K mg base "_law_take" 4 R_take) (T : At K mg "_law_some" s_l_some ["_law_bag_here", "_law_things"]) : Cal P w K mg base "_law_some" 5 R_some :=
  cal_at T sc_l_some (by rintro _ _ _ _ ⟨⟩; rfl) fun f cd0 A out s H E G Γ B r B' hR => by
  obtain ⟨B, ds, h, hl, hc⟩ := hR
  have hb : Bd 8000 (ds.length : Int) := by
    have h10 : ds.length < 2 ^ 10 := by omega
    exact (Bd.nat h10).le (by decide)
  exact sj_ret (ej_ixL (ej_dat 1) (ej_call c_l_take (G.le (by decide)) (aj_cons (ej_bag 0) (aj_cons (ej_lenL m_len (ej_dat 1)) aj_nil)) (R_take.mk B _ (by omega) hb hc)) (pick_at ds B h) fun _ _ => rfl) ⟨rfl, rfl⟩


abbrev s_l_alike : Stmt := topS 49
theorem sc_l_alike : FnScope ["_law_found", "_law_due"] ["_law_found", "_law_due"] (defScope s_l_alike) := ⟨rfl, rfl, rfl, by decide +kernel, rfl, by decide +kernel, by decide +kernel⟩

theorem c_of_l_alike (nd : base.NoDigits) (m_repr : mg "repr" = none) (T : At K mg "_law_alike" s_l_alike ["_law_found", "_law_due"]) : Cal P w K mg base "_law_alike" 4 R_alikeX :=
  cal_at T sc_l_alike (by rintro _ _ _ _ ⟨⟩; rfl) fun f cd0 A out s H E G Γ B r B' hR => by
  obtain ⟨d, B, h, hb⟩ := hR
  rcases hb with hb | ⟨b, rfl⟩
  · refine sj_ret (ej_and (ej_eq G.hu (ej_dat 0) (ej_dat 1) h.shaped h.shaped) fun _ => (ej_one (ej_eqS (ej_reprB G nd m_repr (ej_dat 0) hb h) (ej_reprB G nd m_repr (ej_dat 1) hb h)))) ⟨?_, rfl⟩
    rw [eqv_refl_of h.shaped, decide_eq_true rfl]; rfl
  · refine sj_ret (ej_and (ej_eq G.hu (ej_dat 0) (ej_dat 1) h.shaped h.shaped) fun _ => (ej_one (ej_eqS (ej_reprL m_repr (ej_dat 0)) (ej_reprL m_repr (ej_dat 1))))) ⟨?_, rfl⟩
    rw [eqv_refl_of h.shaped, decide_eq_true rfl]; rfl

abbrev s_l_format : Stmt := topS 50
theorem sc_l_format : FnScope ["_law_bag_here", "_law_small", "_law_world"] ["_law_bag_here"] (defScope s_l_format) := ⟨rfl, rfl, rfl, by decide +kernel, rfl, by decide +kernel, by decide +kernel⟩

theorem c_of_l_format /-H-/ (c_l_take : Cal P w K mg base "_law_take" 4 R_take) (c_l_some : Cal P w K mg base "_law_some" 5 R_some) /-E-/ (T : At K mg "_law_format" s_l_format ["_law_bag_here"]) : CalX P w K mg base "_law_format" 6 Pre_cpl Post_tfr :=
  calx_at T sc_l_format (by rintro _ _ ⟨rfl, _⟩; rfl) fun f cd0 A out s0 H E0 G Γ B hPre => by
  obtain ⟨rfl, ok0⟩ := hPre
  have fin : ∀ {t : F4} {B1 : Bag}, t ∈ toldF ++ toldF2 → Bok B1 → Post_tfr [.bag] B t.d B1 := fun {t B1} h ok => ⟨ok, t.1, t.2.1, t.2.2.1, t.2.2.2, rfl, fmr_of (List.all_eq_true.mp told_fmr t h)⟩
  refine sj_set 1 (d := .da (.list (toldF.map F4.d))) G.nd (ej_is (ej_lstD (ad_cons (ej_tupD (ad_cons ej_int (ad_cons ej_int (ad_cons (ej_neg ej_int) (ad_cons ej_int ad_nil)))) (Nat.le_of_ble_eq_true rfl)) (ad_cons (ej_tupD (ad_cons ej_int (ad_cons ej_int (ad_cons (ej_neg ej_int) (ad_cons ej_int ad_nil)))) (Nat.le_of_ble_eq_true rfl)) (ad_cons (ej_tupD (ad_cons ej_int (ad_cons ej_int (ad_cons (ej_neg ej_int) (ad_cons ej_int ad_nil)))) (Nat.le_of_ble_eq_true rfl)) (ad_cons (ej_tupD (ad_cons ej_int (ad_cons ej_int (ad_cons ej_int (ad_cons ej_int ad_nil)))) (Nat.le_of_ble_eq_true rfl)) (ad_cons (ej_tupD (ad_cons ej_int (ad_cons ej_int (ad_cons (ej_neg ej_int) (ad_cons ej_int ad_nil)))) (Nat.le_of_ble_eq_true rfl)) (ad_cons (ej_tupD (ad_cons ej_int (ad_cons ej_int (ad_cons (ej_neg ej_int) (ad_cons ej_int ad_nil)))) (Nat.le_of_ble_eq_true rfl)) (ad_cons (ej_tupD (ad_cons ej_int (ad_cons ej_int (ad_cons (ej_neg ej_int) (ad_cons ej_int ad_nil)))) (Nat.le_of_ble_eq_true rfl)) ad_nil))))))) (Nat.le_of_ble_eq_true rfl)) rfl) ?_
  refine sj_set 2 (d := .da (.list ((toldF2.take 6).map F4.d))) G.nd (ej_is (ej_lstD (ad_cons (ej_tupD (ad_cons ej_int (ad_cons ej_int (ad_cons (ej_neg ej_int) (ad_cons ej_int ad_nil)))) (Nat.le_of_ble_eq_true rfl)) (ad_cons (ej_tupD (ad_cons ej_int (ad_cons ej_int (ad_cons (ej_neg ej_int) (ad_cons ej_int ad_nil)))) (Nat.le_of_ble_eq_true rfl)) (ad_cons (ej_tupD (ad_cons ej_int (ad_cons ej_int (ad_cons (ej_neg ej_int) (ad_cons ej_int ad_nil)))) (Nat.le_of_ble_eq_true rfl)) (ad_cons (ej_tupD (ad_cons ej_int (ad_cons ej_int (ad_cons (ej_neg ej_int) (ad_cons ej_int ad_nil)))) (Nat.le_of_ble_eq_true rfl)) (ad_cons (ej_tupD (ad_cons ej_int (ad_cons ej_int (ad_cons (ej_neg ej_int) (ad_cons ej_int ad_nil)))) (Nat.le_of_ble_eq_true rfl)) (ad_cons (ej_tupD (ad_cons ej_int (ad_cons ej_int (ad_cons (ej_neg ej_int) (ad_cons ej_int ad_nil)))) (Nat.le_of_ble_eq_true rfl)) ad_nil)))))) (Nat.le_of_ble_eq_true rfl)) rfl) ?_
  obtain ⟨x, B1, ra, x0, x1, ok1⟩ := tk_ex ok0 4 (by decide) (by decide)
  by_cases hx : 0 < x
  · obtain ⟨t, ht, B2, rb, ok2⟩ := sm_ex toldF F4.d (by decide) ok1 (by decide)
    refine sj_when (x := true) (tj_is (tj_gt (ej_call c_l_take (G.le (by decide)) (aj_cons (ej_bag 0) (aj_cons ej_int aj_nil)) (ra)) ej_int) (decide_eq_true hx)) (fun _ => ?_) (fun h => Bool.noConfusion h)
    exact sj_ret (ej_call c_l_some (G.le (by decide)) (aj_cons (ej_bag 0) (aj_cons (ej_dat (d := .list (toldF.map F4.d)) 1) aj_nil)) (rb)) (fin (List.mem_append_left _ ht) ok2)
  · obtain ⟨t, ht, B2, rb, ok2⟩ := sm_ex toldF2 F4.d (by decide) ok1 (by decide)
    refine sj_when (x := false) (tj_is (tj_gt (ej_call c_l_take (G.le (by decide)) (aj_cons (ej_bag 0) (aj_cons ej_int aj_nil)) (ra)) ej_int) (decide_eq_false hx)) (fun h => Bool.noConfusion h) (fun _ => ?_)
    exact sj_ret (ej_call c_l_some (G.le (by decide)) (aj_cons (ej_bag 0) (aj_cons (ej_is (y := .list (toldF2.map F4.d)) (ej_catL (ej_dat (d := .list ((toldF2.take 6).map F4.d)) 2) (ej_lstD (ad_cons (ej_tupD (ad_cons ej_int (ad_cons ej_int (ad_cons ej_int (ad_cons ej_int ad_nil)))) (Nat.le_of_ble_eq_true rfl)) (ad_cons (ej_tupD (ad_cons ej_int (ad_cons ej_int (ad_cons (ej_neg ej_int) (ad_cons (ej_neg ej_int) ad_nil)))) (Nat.le_of_ble_eq_true rfl)) (ad_cons (ej_tupD (ad_cons ej_int (ad_cons ej_int (ad_cons (ej_neg ej_int) (ad_cons (ej_neg ej_int) ad_nil)))) (Nat.le_of_ble_eq_true rfl)) ad_nil))) (Nat.le_of_ble_eq_true rfl)) (Nat.le_of_ble_eq_true rfl)) rfl) aj_nil)) (rb)) (fin (List.mem_append_right _ ht) ok2)
theorem c_of_l_format_t (c_l_take : Cal P w K mg base "_law_take" 4 R_take) (c_l_some : Cal P w K mg base "_law_some" 5 R_some) (T_l_format : At K mg "_law_format" s_l_format ["_law_bag_here"]) : CalX P w K mg base "_law_format" 6 Pre_cpl Post_tft :=
  calx_at T_l_format sc_l_format (by rintro _ _ ⟨rfl, _⟩; rfl) fun f cd0 A out s0 H E0 G Γ B hPre => by
  obtain ⟨rfl, ok0⟩ := hPre
  have fin : ∀ {t : F4} {B1 : Bag}, t ∈ toldF ++ toldF2 → Bok B1 → Post_tft [.bag] B t.d B1 := fun {t B1} h ok => ⟨ok, t, rfl, h⟩
  refine sj_set 1 (d := .da (.list (toldF.map F4.d))) G.nd (ej_is (ej_lstD (ad_cons (ej_tupD (ad_cons ej_int (ad_cons ej_int (ad_cons (ej_neg ej_int) (ad_cons ej_int ad_nil)))) (Nat.le_of_ble_eq_true rfl)) (ad_cons (ej_tupD (ad_cons ej_int (ad_cons ej_int (ad_cons (ej_neg ej_int) (ad_cons ej_int ad_nil)))) (Nat.le_of_ble_eq_true rfl)) (ad_cons (ej_tupD (ad_cons ej_int (ad_cons ej_int (ad_cons (ej_neg ej_int) (ad_cons ej_int ad_nil)))) (Nat.le_of_ble_eq_true rfl)) (ad_cons (ej_tupD (ad_cons ej_int (ad_cons ej_int (ad_cons ej_int (ad_cons ej_int ad_nil)))) (Nat.le_of_ble_eq_true rfl)) (ad_cons (ej_tupD (ad_cons ej_int (ad_cons ej_int (ad_cons (ej_neg ej_int) (ad_cons ej_int ad_nil)))) (Nat.le_of_ble_eq_true rfl)) (ad_cons (ej_tupD (ad_cons ej_int (ad_cons ej_int (ad_cons (ej_neg ej_int) (ad_cons ej_int ad_nil)))) (Nat.le_of_ble_eq_true rfl)) (ad_cons (ej_tupD (ad_cons ej_int (ad_cons ej_int (ad_cons (ej_neg ej_int) (ad_cons ej_int ad_nil)))) (Nat.le_of_ble_eq_true rfl)) ad_nil))))))) (Nat.le_of_ble_eq_true rfl)) rfl) ?_
  refine sj_set 2 (d := .da (.list ((toldF2.take 6).map F4.d))) G.nd (ej_is (ej_lstD (ad_cons (ej_tupD (ad_cons ej_int (ad_cons ej_int (ad_cons (ej_neg ej_int) (ad_cons ej_int ad_nil)))) (Nat.le_of_ble_eq_true rfl)) (ad_cons (ej_tupD (ad_cons ej_int (ad_cons ej_int (ad_cons (ej_neg ej_int) (ad_cons ej_int ad_nil)))) (Nat.le_of_ble_eq_true rfl)) (ad_cons (ej_tupD (ad_cons ej_int (ad_cons ej_int (ad_cons (ej_neg ej_int) (ad_cons ej_int ad_nil)))) (Nat.le_of_ble_eq_true rfl)) (ad_cons (ej_tupD (ad_cons ej_int (ad_cons ej_int (ad_cons (ej_neg ej_int) (ad_cons ej_int ad_nil)))) (Nat.le_of_ble_eq_true rfl)) (ad_cons (ej_tupD (ad_cons ej_int (ad_cons ej_int (ad_cons (ej_neg ej_int) (ad_cons ej_int ad_nil)))) (Nat.le_of_ble_eq_true rfl)) (ad_cons (ej_tupD (ad_cons ej_int (ad_cons ej_int (ad_cons (ej_neg ej_int) (ad_cons ej_int ad_nil)))) (Nat.le_of_ble_eq_true rfl)) ad_nil)))))) (Nat.le_of_ble_eq_true rfl)) rfl) ?_
  obtain ⟨x, B1, ra, x0, x1, ok1⟩ := tk_ex ok0 4 (by decide) (by decide)
  by_cases hx : 0 < x
  · obtain ⟨t, ht, B2, rb, ok2⟩ := sm_ex toldF F4.d (by decide) ok1 (by decide)
    refine sj_when (x := true) (tj_is (tj_gt (ej_call c_l_take (G.le (by decide)) (aj_cons (ej_bag 0) (aj_cons ej_int aj_nil)) (ra)) ej_int) (decide_eq_true hx)) (fun _ => ?_) (fun h => Bool.noConfusion h)
    exact sj_ret (ej_call c_l_some (G.le (by decide)) (aj_cons (ej_bag 0) (aj_cons (ej_dat (d := .list (toldF.map F4.d)) 1) aj_nil)) (rb)) (fin (List.mem_append_left _ ht) ok2)
  · obtain ⟨t, ht, B2, rb, ok2⟩ := sm_ex toldF2 F4.d (by decide) ok1 (by decide)
    refine sj_when (x := false) (tj_is (tj_gt (ej_call c_l_take (G.le (by decide)) (aj_cons (ej_bag 0) (aj_cons ej_int aj_nil)) (ra)) ej_int) (decide_eq_false hx)) (fun h => Bool.noConfusion h) (fun _ => ?_)
    exact sj_ret (ej_call c_l_some (G.le (by decide)) (aj_cons (ej_bag 0) (aj_cons (ej_is (y := .list (toldF2.map F4.d)) (ej_catL (ej_dat (d := .list ((toldF2.take 6).map F4.d)) 2) (ej_lstD (ad_cons (ej_tupD (ad_cons ej_int (ad_cons ej_int (ad_cons ej_int (ad_cons ej_int ad_nil)))) (Nat.le_of_ble_eq_true rfl)) (ad_cons (ej_tupD (ad_cons ej_int (ad_cons ej_int (ad_cons (ej_neg ej_int) (ad_cons (ej_neg ej_int) ad_nil)))) (Nat.le_of_ble_eq_true rfl)) (ad_cons (ej_tupD (ad_cons ej_int (ad_cons ej_int (ad_cons (ej_neg ej_int) (ad_cons (ej_neg ej_int) ad_nil)))) (Nat.le_of_ble_eq_true rfl)) ad_nil))) (Nat.le_of_ble_eq_true rfl)) (Nat.le_of_ble_eq_true rfl)) rfl) aj_nil)) (rb)) (fin (List.mem_append_right _ ht) ok2)

abbrev s_l_to : Stmt := topS 51
theorem sc_l_to : FnScope ["_law_base", "_law_n", "_law_found"] ["_law_base", "_law_n"] (defScope s_l_to) := ⟨rfl, rfl, rfl, by decide +kernel, rfl, by decide +kernel, by decide +kernel⟩

theorem c_of_l_to (m_int : mg "int" = none) (T : At K mg "_law_to" s_l_to ["_law_base", "_law_n"]) : Cal P w K mg base "_law_to" 4 R_pow :=
  cal_at T sc_l_to (by rintro _ _ _ _ ⟨⟩; rfl) fun f cd0 A out s H E G Γ B r B' hR => by
  obtain ⟨b, e, B, hb, he⟩ := hR
  refine sj_set 2 (d := .da (.int 1)) (B1 := B) G.nd ej_int ?_
  refine sj_while G.nd (fun Γ' B' => ∃ k m j : Nat, Γ' = [.da (.int ((b ^ k : Nat) : Int)), .da (.int m), .da (.int ((b ^ j : Nat) : Int))] ∧ j + k * m = e ∧ B' = B) (fun Γ' _ => (intAt Γ' 1).toNat)
    ⟨1, e, 0, by rw [Nat.pow_one]; rfl, by omega, rfl⟩ ?_
  rintro Γ' B' ⟨k, m, j, rfl, hk, rfl⟩
  refine ⟨_, tj_gt (ej_dat 1) ej_int, fun h => ?_, fun h => ?_⟩
  · have hm : 0 < m := by have := of_decide_eq_true h; omega
    obtain ⟨k1, j1⟩ := k_le hk hm
    refine sj_ifM (fun Γ' B2 => ∃ j' : Nat, Γ' = [.da (.int ((b ^ k : Nat) : Int)), .da (.int m), .da (.int ((b ^ j' : Nat) : Int))] ∧ j' + (k + k) * (m / 2) = e ∧ B2 = B') (tj_eqI G.hu (ej_mod (ej_int1 m_int (ej_dat 1)) ej_int (by decide)) ej_int) (fun h1 => ?_) (fun h1 => ?_) ?_
    · refine sj_set 2 G.nd (ej_mul (ej_dat 2) (ej_dat 0) (cm (bd_pow j hb) (bd_pow k hb) (by omega))) (sj_nil ?_)
      rw [pow_up]
      exact ⟨j + k, rfl, turn_odd hk (by have := of_decide_eq_true h1; omega), rfl⟩
    · exact sj_nil ⟨j, rfl, turn_even hk (by have := of_decide_eq_false h1; omega), rfl⟩
    · rintro Γ2 B2 ⟨j', rfl, hj', rfl⟩
      refine sj_par 0 1 G.nd G.calm (aj_cons (ej_mul (ej_dat 0) (ej_dat 0) (cm (bd_pow k hb) (bd_pow k hb) (by omega))) (aj_cons (ej_fdiv (ej_int1 m_int (ej_dat 1)) ej_int (cdv (show Bd 2 2 from by unfold Bd; decide) (by decide))) aj_nil)) (sj_nil ?_) (by decide) (by rfl)
      rw [pow_sq, half]
      exact ⟨⟨k + k, m / 2, j', rfl, hj', rfl⟩, show ((m / 2 : Nat) : Int).toNat < (m : Int).toNat by omega⟩
  · have hm : ¬ 0 < m := by have := of_decide_eq_false h; omega
    have := j_end hk hm
    subst this
    exact sj_ret (ej_dat 2) ⟨rfl, rfl⟩

abbrev s_l_power : Stmt := topS 52
theorem sc_l_power : FnScope ["_law_base", "_law_e"] ["_law_base", "_law_e"] (defScope s_l_power) := ⟨rfl, rfl, rfl, by decide +kernel, rfl, by decide +kernel, by decide +kernel⟩

theorem c_of_l_power (c_l_to : Cal P w K mg base "_law_to" 4 R_pow) (T : At K mg "_law_power" s_l_power ["_law_base", "_law_e"]) : Cal P w K mg base "_law_power" 5 R_power_of :=
  cal_at T sc_l_power (by rintro _ _ _ _ ⟨⟩; rfl) fun f cd0 A out s H E G Γ B r B' hR => by
  obtain ⟨b, e, B, h0, hb, h1, h2⟩ := hR
  refine sj_ret (ej_if (d := .da (fq (pw b e))) (tj_ge (ej_dat 1) ej_int) (fun h => ?_) (fun h => ?_)) ⟨rfl, rfl⟩
  · have he : ¬ e < 0 := by have := of_decide_eq_true h; omega
    have hn : e = (e.toNat : Int) := by omega
    unfold pw
    rw [if_neg he, fq_nat]
    exact ej_tupD (ad_cons (ej_call c_l_to (G.le (by decide)) (aj_cons (ej_dat 0) (aj_cons (ej_is (ej_dat 1) (congrArg PyData.int hn)) aj_nil)) (R_pow.mk b e.toNat B hb (by omega))) (ad_cons ej_int ad_nil)) (Nat.le_of_ble_eq_true rfl)
  · have he : e < 0 := by have := of_decide_eq_false h; omega
    have hn : 0 - e = ((-e).toNat : Int) := by omega
    unfold pw
    rw [if_pos he, fq_inv (Nat.pow_pos h0)]
    exact ej_tupD (ad_cons ej_int (ad_cons (ej_call c_l_to (G.le (by decide)) (aj_cons (ej_dat 0) (aj_cons (ej_is (ej_sub ej_int (ej_dat 1)) (congrArg PyData.int hn)) aj_nil)) (R_pow.mk b (-e).toNat B hb (by omega))) ad_nil)) (Nat.le_of_ble_eq_true rfl)

abbrev s_l_size : Stmt := topS 53
theorem sc_l_size : FnScope ["_law_form", "_law_c_here", "_law_e", "_law_n", "_law_d"] ["_law_form", "_law_c_here", "_law_e"] (defScope s_l_size) := ⟨rfl, rfl, rfl, by decide +kernel, rfl, by decide +kernel, by decide +kernel⟩

theorem c_of_l_size /-H-/ (c_l_power : Cal P w K mg base "_law_power" 5 R_power_of) /-E-/ (T : At K mg "_law_size" s_l_size ["_law_form", "_law_c_here", "_law_e"]) : Cal P w K mg base "_law_size" 6 R_lszW :=
  cal_at T sc_l_size (by rintro _ _ _ _ ⟨⟩; rfl) fun f cd0 A out s0 H E0 G Γ B r B' hR => by
  obtain ⟨b, p, low, high, c, e, B, F, h0, h1, h2, h3⟩ := hR
  have b2 := F.b2; have lo := F.lo; have hi := F.hi; have bp := F.bp
  have hc : Bd 401 c := by unfold Bd; omega
  have hn := pn_next F h3
  have RP := R_power_of.mk b e B (by omega) F.b6 (by omega) (by omega)
  rw [fq_pw b2] at RP
  refine sj_unpack [3, 4] (ds := [.int ((b ^ e.toNat : Nat) : Int), .int ((b ^ (-e).toNat : Nat) : Int)]) G.calm (ej_call c_l_power (G.le (by decide)) (aj_cons (ej_at (y := .int b) (ej_dat (d := fmP b p low high) 0)) (aj_cons (ej_dat 2) aj_nil)) (RP)) (pgs_cons (pgN 3 G.nd) (pgs_cons (pgN 4 G.nd) pgs_nil)) rfl ?_
  exact sj_ret (ej_tupD (ad_cons (ej_mul (ej_dat 1) (ej_dat 3) (cm hc hn (by decide))) (ad_cons (ej_dat 4) ad_nil)) (Nat.le_of_ble_eq_true rfl)) ⟨rfl, rfl⟩
theorem c_of_l_size_x (c_l_power : Cal P w K mg base "_law_power" 5 R_power_of) (T_l_size : At K mg "_law_size" s_l_size ["_law_form", "_law_c_here", "_law_e"]) : Cal P w K mg base "_law_size" 6 R_lszX :=
  cal_at T_l_size sc_l_size (by rintro _ _ _ _ ⟨⟩; rfl) fun f cd0 A out s0 H E0 G Γ B r B' hR => by
  obtain ⟨b, p, low, high, c, e, B, F, hc, h2, h3, hb⟩ := hR
  have b2 := F.b2; have lo := F.lo; have hi := F.hi
  have RP := R_power_of.mk b e B (by omega) F.b6 (by omega) (by omega)
  rw [fq_pw b2] at RP
  refine sj_unpack [3, 4] (ds := [.int ((b ^ e.toNat : Nat) : Int), .int ((b ^ (-e).toNat : Nat) : Int)]) G.calm (ej_call c_l_power (G.le (by decide)) (aj_cons (ej_at (y := .int b) (ej_dat (d := fmP b p low high) 0)) (aj_cons (ej_dat 2) aj_nil)) (RP)) (pgs_cons (pgN 3 G.nd) (pgs_cons (pgN 4 G.nd) pgs_nil)) rfl ?_
  exact sj_ret (ej_tupD (ad_cons (ej_mul (ej_dat 1) (ej_dat 3) (cm hc hb (by decide))) (ad_cons (ej_dat 4) ad_nil)) (Nat.le_of_ble_eq_true rfl)) ⟨rfl, rfl⟩

abbrev s_l_c : Stmt := topS 54
theorem sc_l_c : FnScope ["_law_bag_here", "_law_form", "_law_e", "_law_base", "_law_digits", "_law_low", "_law_high", "_law_least", "_law_most", "_law_menu"] ["_law_bag_here", "_law_form", "_law_e"] (defScope s_l_c) := ⟨rfl, rfl, rfl, by decide +kernel, rfl, by decide +kernel, by decide +kernel⟩

theorem c_of_l_c /-H-/ (m_max : mg "max" = none) (m_min : mg "min" = none) (c_l_to : Cal P w K mg base "_law_to" 4 R_pow) (c_l_take : Cal P w K mg base "_law_take" 4 R_take) (c_l_some : Cal P w K mg base "_law_some" 5 R_some) /-E-/ (T : At K mg "_law_c" s_l_c ["_law_bag_here", "_law_form", "_law_e"]) : CalX P w K mg base "_law_c" 6 Pre_tc Post_tc :=
  calx_at T sc_l_c (by rintro _ _ ⟨b, p, low, high, e, rfl, _, _⟩; rfl) fun f cd0 A out s0 H E0 G Γ B hPre => by
  obtain ⟨b, p, low, high, e, rfl, F, ok0⟩ := hPre
  have b2 := F.b2; have p2 := F.p2; have bp := F.bp
  have e1 : (p : Int) - 1 = ((p - 1 : Nat) : Int) := by omega
  have P1 : 2 ≤ b ^ (p - 1) := Nat.le_trans b2 (Nat.le_self_pow (by omega) b)
  have P2 : b ^ (p - 1) + 2 ≤ b ^ p := by
    have : b ^ p = b ^ (p - 1) * b := by rw [← Nat.pow_succ]; congr 1; omega
    have := Nat.mul_le_mul_left (b ^ (p - 1)) b2
    omega
  have hp : p ≤ 20000 := by
    refine Nat.le_of_not_lt fun z => ?_
    have := Nat.pow_le_pow_left b2 p
    have := Nat.pow_le_pow_right (show 0 < 2 by decide) (show 400 ≤ p by omega)
    omega
  refine sj_unpack [3, 4, 5, 6] (ds := [.int b, .int p, .int low, .int high]) G.calm (ej_dat (d := fmP b p low high) 1) (pgs_cons (pgN 3 G.nd) (pgs_cons (pgN 4 G.nd) (pgs_cons (pgN 5 G.nd) (pgs_cons (pgN 6 G.nd) pgs_nil)))) rfl ?_
  refine sj_par 7 8 (d1 := .da (.int ((b ^ (p - 1) : Nat) : Int))) (d2 := .da (.int (((b ^ p : Nat) : Int) - 1))) (B1 := B) G.nd G.calm (aj_cons (ej_call c_l_to (G.le (by decide)) (aj_cons (ej_dat 3) (aj_cons (ej_is (ej_sub (ej_dat 4) ej_int) (congrArg PyData.int e1)) aj_nil)) (R_pow.mk b (p - 1) B F.b6 (by omega))) (aj_cons (ej_sub (ej_call c_l_to (G.le (by decide)) (aj_cons (ej_dat 3) (aj_cons (ej_dat 4) aj_nil)) (R_pow.mk b p B F.b6 (by omega))) ej_int) aj_nil)) ?_ (by decide) (by rfl)
  generalize b ^ (p - 1) = L at *
  generalize hM : b ^ p = M at *
  have big : ∀ {i : Int}, 0 < i → i ≤ M → Bd 8000 i := fun {i} h1 h2 => by unfold Bd; exact Nat.lt_of_lt_of_le (show i.natAbs < 2 ^ 400 by omega) (Nat.pow_le_pow_right (by decide) (by decide))
  have tk : ∀ {B0 : Bag} (i : Int), Bok B0 → 0 < i → i ≤ M → ∃ (v : Int) (B' : Bag), R_take [.bag, .da (.int i)] B0 (.int v) B' ∧ 0 ≤ v ∧ v < i ∧ Bok B' := fun {B0} i ok h1 h2 =>
    ⟨tkV B0 i, tkB B0 i, R_take.mk B0 i h1 (big h1 h2) ok, tkV_ge B0 h1, tkV_lt B0 h1, tkB_ok ok i⟩
  obtain ⟨v1, B1, ra, a0, a1, ok1⟩ := tk ((M : Int) - 1 - L + 1) ok0 (by omega) (by omega)
  obtain ⟨v2, B2, rb, b0, b1, ok2⟩ := tk_ex ok1 9 (by decide) (by decide)
  have m9 : CMulW v2 ((M : Int) - 1 - L) := cm (n := 60) (m := 8000) (by unfold Bd; omega) (by unfold Bd; exact Nat.lt_of_lt_of_le (show ((M : Int) - 1 - L).natAbs < 2 ^ 400 by omega) (Nat.pow_le_pow_right (by decide) (by decide)))
  have d9 : CDivW (v2 * ((M : Int) - 1 - L)) 9 := cdv (show Bd 60 (9 : Int) by unfold Bd; decide) (by decide)
  refine sj_set 9 (d := .da (.list (([(L : Int), (M : Int) - 1, (L : Int) + 1, (M : Int) - 1 - 1, (L : Int) + v1, (L : Int) + v2 * ((M : Int) - 1 - L) / 9] : List Int).map PyData.int))) (B1 := B2) G.nd (ej_is (ej_lstD (ad_cons (ej_dat 7) (ad_cons (ej_dat 8) (ad_cons (ej_add (ej_dat 7) ej_int) (ad_cons (ej_sub (ej_dat 8) ej_int) (ad_cons (ej_add (ej_dat 7) (ej_call c_l_take (G.le (by decide)) (aj_cons (ej_bag 0) (aj_cons (ej_add (ej_sub (ej_dat 8) (ej_dat 7)) ej_int) aj_nil)) (ra))) (ad_cons (ej_add (ej_dat 7) (ej_fdiv (ej_mul (ej_call c_l_take (G.le (by decide)) (aj_cons (ej_bag 0) (aj_cons ej_int aj_nil)) (rb)) (ej_sub (ej_dat 8) (ej_dat 7)) m9) ej_int d9)) ad_nil)))))) (Nat.le_of_ble_eq_true rfl)) rfl) ?_
  generalize hm : ([(L : Int), (M : Int) - 1, (L : Int) + 1, (M : Int) - 1 - 1, (L : Int) + v1, (L : Int) + v2 * ((M : Int) - 1 - L) / 9] : List Int) = menu
  have ml : menu.length = 6 := by rw [← hm]; rfl
  have fin : ∀ (menu2 : List Int) (B3 : Bag), menu2.length ≤ 1000 → 0 < menu2.length → Bok B3 → SJ (cxOf CX0 P w K mg base ["_law_bag_here", "_law_form", "_law_e", "_law_base", "_law_digits", "_law_low", "_law_high", "_law_least", "_law_most", "_law_menu"] "_law_c" (defScope s_l_c) f cd0 A out s0 H E0).nox [.bag, .da (fmP b p low high), .da (.int e), .da (.int b), .da (.int p), .da (.int low), .da (.int high), .da (.int L), .da (.int ((M : Int) - 1)), .da (.list (menu2.map PyData.int))] B3 ((defBody s_l_c).drop 4) { nx := fun _ B2 => Post_tc [.bag, .da (fmP b p low high), .da (.int e)] B .none B2, rt := fun d B2 => Post_tc [.bag, .da (fmP b p low high), .da (.int e)] B d B2 } := fun menu2 B3 h1 h2 ok3 => by
    obtain ⟨x, hx, B4, rc, ok4⟩ := sm_ex menu2 PyData.int h1 ok3 h2
    refine sj_ret (ej_max G.calm m_max ej_int (ej_min G.calm m_min (ej_dat 8) (ej_call c_l_some (G.le (by decide)) (aj_cons (ej_bag 0) (aj_cons (ej_dat (d := .list (menu2.map PyData.int)) 9) aj_nil)) (rc)))) ⟨ok4, fun b' p' low' high' e' hz => ?_⟩
    injection hz with _ hz
    injection hz with hz _
    injection hz with hz
    unfold fmP at hz
    injection hz with hz
    injection hz with h1 hz
    injection hz with h2 _
    injection h1 with h1
    injection h2 with h2
    have h1 : b = b' := by omega
    have h2 : p = p' := by omega
    refine ⟨_, rfl, Int.le_max_left _ _, ?_⟩
    rw [← h1, ← h2, hM]
    omega
  by_cases he : e = low
  · obtain ⟨v3, B3, rc, c0, c1, ok3⟩ := tk (L : Int) ok2 (by omega) (by omega)
    refine sj_when (x := true) (tj_is (tj_eqI G.hu (ej_dat 2) (ej_dat 5)) (decide_eq_true he)) (fun _ => ?_) (fun h => Bool.noConfusion h)
    refine sj_set 9 (d := .da (.list ((menu ++ [1, 2, (L : Int) - 1, 1 + v3]).map PyData.int))) (B1 := B3) G.nd (ej_is (ej_catL (ej_dat (d := .list (menu.map PyData.int)) 9) (ej_lstD (ad_cons ej_int (ad_cons ej_int (ad_cons (ej_sub (ej_dat 7) ej_int) (ad_cons (ej_add ej_int (ej_call c_l_take (G.le (by decide)) (aj_cons (ej_bag 0) (aj_cons (ej_dat 7) aj_nil)) (rc))) ad_nil)))) (Nat.le_of_ble_eq_true rfl)) (by rw [List.length_map, ml]; exact Nat.le_of_ble_eq_true rfl)) (by rw [List.map_append]; rfl)) ?_
    exact sj_nil (fin _ B3 (by rw [List.length_append, ml]; exact Nat.le_of_ble_eq_true rfl) (by rw [List.length_append, ml]; exact Nat.lt_of_lt_of_le (by decide) (Nat.le_add_right 6 _)) ok3)
  · refine sj_when (x := false) (tj_is (tj_eqI G.hu (ej_dat 2) (ej_dat 5)) (decide_eq_false he)) (fun h => Bool.noConfusion h) (fun _ => ?_)
    exact fin menu B2 (by rw [ml]; decide) (by rw [ml]; decide) ok2
theorem c_of_l_c_c (m_max : mg "max" = none) (m_min : mg "min" = none) (c_l_to : Cal P w K mg base "_law_to" 4 R_pow) (c_l_take : Cal P w K mg base "_law_take" 4 R_take) (c_l_some : Cal P w K mg base "_law_some" 5 R_some) (T_l_c : At K mg "_law_c" s_l_c ["_law_bag_here", "_law_form", "_law_e"]) : CalX P w K mg base "_law_c" 6 Pre_tc Post_tcC :=
  calx_at T_l_c sc_l_c (by rintro _ _ ⟨b, p, low, high, e, rfl, _, _⟩; rfl) fun f cd0 A out s0 H E0 G Γ B hPre => by
  obtain ⟨b, p, low, high, e, rfl, F, ok0⟩ := hPre
  have b2 := F.b2; have p2 := F.p2; have bp := F.bp
  have e1 : (p : Int) - 1 = ((p - 1 : Nat) : Int) := by omega
  have P1 : 2 ≤ b ^ (p - 1) := Nat.le_trans b2 (Nat.le_self_pow (by omega) b)
  have P2 : b ^ (p - 1) + 2 ≤ b ^ p := by
    have : b ^ p = b ^ (p - 1) * b := by rw [← Nat.pow_succ]; congr 1; omega
    have := Nat.mul_le_mul_left (b ^ (p - 1)) b2
    omega
  have hp : p ≤ 20000 := by
    refine Nat.le_of_not_lt fun z => ?_
    have := Nat.pow_le_pow_left b2 p
    have := Nat.pow_le_pow_right (show 0 < 2 by decide) (show 400 ≤ p by omega)
    omega
  refine sj_unpack [3, 4, 5, 6] (ds := [.int b, .int p, .int low, .int high]) G.calm (ej_dat (d := fmP b p low high) 1) (pgs_cons (pgN 3 G.nd) (pgs_cons (pgN 4 G.nd) (pgs_cons (pgN 5 G.nd) (pgs_cons (pgN 6 G.nd) pgs_nil)))) rfl ?_
  refine sj_par 7 8 (d1 := .da (.int ((b ^ (p - 1) : Nat) : Int))) (d2 := .da (.int (((b ^ p : Nat) : Int) - 1))) (B1 := B) G.nd G.calm (aj_cons (ej_call c_l_to (G.le (by decide)) (aj_cons (ej_dat 3) (aj_cons (ej_is (ej_sub (ej_dat 4) ej_int) (congrArg PyData.int e1)) aj_nil)) (R_pow.mk b (p - 1) B F.b6 (by omega))) (aj_cons (ej_sub (ej_call c_l_to (G.le (by decide)) (aj_cons (ej_dat 3) (aj_cons (ej_dat 4) aj_nil)) (R_pow.mk b p B F.b6 (by omega))) ej_int) aj_nil)) ?_ (by decide) (by rfl)
  generalize hL : b ^ (p - 1) = L at *
  generalize hM : b ^ p = M at *
  have big : ∀ {i : Int}, 0 < i → i ≤ M → Bd 8000 i := fun {i} h1 h2 => by unfold Bd; exact Nat.lt_of_lt_of_le (show i.natAbs < 2 ^ 400 by omega) (Nat.pow_le_pow_right (by decide) (by decide))
  have tk : ∀ {B0 : Bag} (i : Int), Bok B0 → 0 < i → i ≤ M → ∃ (v : Int) (B' : Bag), R_take [.bag, .da (.int i)] B0 (.int v) B' ∧ 0 ≤ v ∧ v < i ∧ Bok B' := fun {B0} i ok h1 h2 =>
    ⟨tkV B0 i, tkB B0 i, R_take.mk B0 i h1 (big h1 h2) ok, tkV_ge B0 h1, tkV_lt B0 h1, tkB_ok ok i⟩
  obtain ⟨v1, B1, ra, a0, a1, ok1⟩ := tk ((M : Int) - 1 - L + 1) ok0 (by omega) (by omega)
  obtain ⟨v2, B2, rb, b0, b1, ok2⟩ := tk_ex ok1 9 (by decide) (by decide)
  have m9 : CMulW v2 ((M : Int) - 1 - L) := cm (n := 60) (m := 8000) (by unfold Bd; omega) (by unfold Bd; exact Nat.lt_of_lt_of_le (show ((M : Int) - 1 - L).natAbs < 2 ^ 400 by omega) (Nat.pow_le_pow_right (by decide) (by decide)))
  have d9 : CDivW (v2 * ((M : Int) - 1 - L)) 9 := cdv (show Bd 60 (9 : Int) by unfold Bd; decide) (by decide)
  refine sj_set 9 (d := .da (.list (([(L : Int), (M : Int) - 1, (L : Int) + 1, (M : Int) - 1 - 1, (L : Int) + v1, (L : Int) + v2 * ((M : Int) - 1 - L) / 9] : List Int).map PyData.int))) (B1 := B2) G.nd (ej_is (ej_lstD (ad_cons (ej_dat 7) (ad_cons (ej_dat 8) (ad_cons (ej_add (ej_dat 7) ej_int) (ad_cons (ej_sub (ej_dat 8) ej_int) (ad_cons (ej_add (ej_dat 7) (ej_call c_l_take (G.le (by decide)) (aj_cons (ej_bag 0) (aj_cons (ej_add (ej_sub (ej_dat 8) (ej_dat 7)) ej_int) aj_nil)) (ra))) (ad_cons (ej_add (ej_dat 7) (ej_fdiv (ej_mul (ej_call c_l_take (G.le (by decide)) (aj_cons (ej_bag 0) (aj_cons ej_int aj_nil)) (rb)) (ej_sub (ej_dat 8) (ej_dat 7)) m9) ej_int d9)) ad_nil)))))) (Nat.le_of_ble_eq_true rfl)) rfl) ?_
  generalize hm : ([(L : Int), (M : Int) - 1, (L : Int) + 1, (M : Int) - 1 - 1, (L : Int) + v1, (L : Int) + v2 * ((M : Int) - 1 - L) / 9] : List Int) = menu
  have ml : menu.length = 6 := by rw [← hm]; rfl
  have mge : ∀ x ∈ menu, (L : Int) ≤ x := by
    rw [← hm]
    intro x hx
    have q0 : 0 ≤ v2 * ((M : Int) - 1 - L) / 9 := Int.ediv_nonneg (Int.mul_nonneg b0 (by omega)) (by decide)
    simp only [List.mem_cons, List.not_mem_nil, or_false] at hx
    rcases hx with rfl | rfl | rfl | rfl | rfl | rfl <;> omega
  have fin : ∀ (menu2 : List Int) (B3 : Bag), menu2.length ≤ 1000 → 0 < menu2.length → Bok B3 → (∀ x ∈ menu2, e = low ∨ (L : Int) ≤ x) → SJ (cxOf CX0 P w K mg base ["_law_bag_here", "_law_form", "_law_e", "_law_base", "_law_digits", "_law_low", "_law_high", "_law_least", "_law_most", "_law_menu"] "_law_c" (defScope s_l_c) f cd0 A out s0 H E0).nox [.bag, .da (fmP b p low high), .da (.int e), .da (.int b), .da (.int p), .da (.int low), .da (.int high), .da (.int L), .da (.int ((M : Int) - 1)), .da (.list (menu2.map PyData.int))] B3 ((defBody s_l_c).drop 4) { nx := fun _ B2 => Post_tcC [.bag, .da (fmP b p low high), .da (.int e)] B .none B2, rt := fun d B2 => Post_tcC [.bag, .da (fmP b p low high), .da (.int e)] B d B2 } := fun menu2 B3 h1 h2 ok3 hm => by
    obtain ⟨x, hx, B4, rc, ok4⟩ := sm_ex menu2 PyData.int h1 ok3 h2
    refine sj_ret (ej_max G.calm m_max ej_int (ej_min G.calm m_min (ej_dat 8) (ej_call c_l_some (G.le (by decide)) (aj_cons (ej_bag 0) (aj_cons (ej_dat (d := .list (menu2.map PyData.int)) 9) aj_nil)) (rc)))) ⟨ok4, fun b' p' low' high' e' hz => ?_⟩
    injection hz with _ hz
    injection hz with hz hz3
    injection hz3 with hz3 _
    injection hz3 with hz3
    injection hz3 with hz3
    injection hz with hz
    unfold fmP at hz
    injection hz with hz
    injection hz with h1 hz
    injection hz with h2 hz
    injection hz with h3 _
    injection h1 with h1
    injection h2 with h2
    injection h3 with h3
    have h1 : b = b' := by omega
    have h2 : p = p' := by omega
    have hm := hm x hx
    refine ⟨_, rfl, Int.le_max_left _ _, ?_, ?_⟩
    · rw [← h1, ← h2, hM]
      omega
    · rw [← h1, ← h2, ← h3, ← hz3, hL]
      omega
  by_cases he : e = low
  · obtain ⟨v3, B3, rc, c0, c1, ok3⟩ := tk (L : Int) ok2 (by omega) (by omega)
    refine sj_when (x := true) (tj_is (tj_eqI G.hu (ej_dat 2) (ej_dat 5)) (decide_eq_true he)) (fun _ => ?_) (fun h => Bool.noConfusion h)
    refine sj_set 9 (d := .da (.list ((menu ++ [1, 2, (L : Int) - 1, 1 + v3]).map PyData.int))) (B1 := B3) G.nd (ej_is (ej_catL (ej_dat (d := .list (menu.map PyData.int)) 9) (ej_lstD (ad_cons ej_int (ad_cons ej_int (ad_cons (ej_sub (ej_dat 7) ej_int) (ad_cons (ej_add ej_int (ej_call c_l_take (G.le (by decide)) (aj_cons (ej_bag 0) (aj_cons (ej_dat 7) aj_nil)) (rc))) ad_nil)))) (Nat.le_of_ble_eq_true rfl)) (by rw [List.length_map, ml]; exact Nat.le_of_ble_eq_true rfl)) (by rw [List.map_append]; rfl)) ?_
    exact sj_nil (fin _ B3 (by rw [List.length_append, ml]; exact Nat.le_of_ble_eq_true rfl) (by rw [List.length_append, ml]; exact Nat.lt_of_lt_of_le (by decide) (Nat.le_add_right 6 _)) ok3 (fun _ _ => .inl he))
  · refine sj_when (x := false) (tj_is (tj_eqI G.hu (ej_dat 2) (ej_dat 5)) (decide_eq_false he)) (fun h => Bool.noConfusion h) (fun _ => ?_)
    exact fin menu B2 (by rw [ml]; decide) (by rw [ml]; decide) ok2 (fun x hx => .inr (mge x hx))

abbrev s_l_number : Stmt := topS 55
theorem sc_l_number : FnScope ["_law_bag_here", "_law_form", "_law_base", "_law_digits", "_law_low", "_law_high", "_law_near", "_law_e"] ["_law_bag_here", "_law_form"] (defScope s_l_number) := ⟨rfl, rfl, rfl, by decide +kernel, rfl, by decide +kernel, by decide +kernel⟩

theorem c_of_l_number /-H-/ (m_max : mg "max" = none) (m_min : mg "min" = none) (c_l_take : Cal P w K mg base "_law_take" 4 R_take) (c_l_some : Cal P w K mg base "_law_some" 5 R_some) (c_l_c : CalX P w K mg base "_law_c" 6 Pre_tc Post_tc) (c_l_c_c : CalX P w K mg base "_law_c" 6 Pre_tc Post_tcC) /-E-/ (T : At K mg "_law_number" s_l_number ["_law_bag_here", "_law_form"]) : CalX P w K mg base "_law_number" 7 Pre_tn Post_tn :=
  calx_at T sc_l_number (by rintro _ _ ⟨b, p, low, high, rfl, _, _⟩; rfl) fun f cd0 A out s0 H E0 G Γ B hPre => by
  obtain ⟨b, p, low, high, rfl, F, ok0⟩ := hPre
  have lo := F.lo; have hi := F.hi; have lh := F.lh
  obtain ⟨v1, B1, ra, a0, a1, ok1⟩ := tk_ex ok0 5 (by decide) (by decide)
  obtain ⟨v2, B2, rb, b0, b1, ok2⟩ := tk_ex ok1 (high - low + 1) (by omega) (by omega)
  obtain ⟨nr, hn⟩ : ∃ nr : Int, max low (min high (0 - p + v1)) = nr := ⟨_, rfl⟩
  have n1 : low ≤ nr ∧ nr ≤ high := by omega
  refine sj_unpack [2, 3, 4, 5] (ds := [.int b, .int p, .int low, .int high]) G.calm (ej_dat (d := fmP b p low high) 1) (pgs_cons (pgN 2 G.nd) (pgs_cons (pgN 3 G.nd) (pgs_cons (pgN 4 G.nd) (pgs_cons (pgN 5 G.nd) pgs_nil)))) rfl ?_
  refine sj_set 6 (d := .da (.int nr)) (B1 := B1) G.nd (ej_is (ej_max G.calm m_max (ej_dat 4) (ej_min G.calm m_min (ej_dat 5) (ej_add (ej_sub ej_int (ej_dat 3)) (ej_call c_l_take (G.le (by decide)) (aj_cons (ej_bag 0) (aj_cons ej_int aj_nil)) (ra))))) (congrArg PyData.int hn)) ?_
  obtain ⟨e, he, B3, rc, ok3⟩ := sm_ex ([low, high, low + v2, nr, nr] : List Int) PyData.int (Nat.le_of_ble_eq_true rfl) ok2 (Nat.zero_lt_succ _)
  have e12 : low ≤ e ∧ e ≤ high := by
    simp only [List.mem_cons, List.not_mem_nil, or_false] at he
    omega
  refine sj_set 7 (d := .da (.int e)) (B1 := B3) G.nd (ej_call c_l_some (G.le (by decide)) (aj_cons (ej_bag 0) (aj_cons (ej_is (y := .list (([low, high, low + v2, nr, nr] : List Int).map PyData.int)) (ej_lstD (ad_cons (ej_dat 4) (ad_cons (ej_dat 5) (ad_cons (ej_add (ej_dat 4) (ej_call c_l_take (G.le (by decide)) (aj_cons (ej_bag 0) (aj_cons (ej_add (ej_sub (ej_dat 5) (ej_dat 4)) ej_int) aj_nil)) (rb))) (ad_cons (ej_dat 6) (ad_cons (ej_dat 6) ad_nil))))) (Nat.le_of_ble_eq_true rfl)) rfl) aj_nil)) (rc)) ?_
  obtain ⟨s, B4, rd, s0, s1, ok4⟩ := tk_ex ok3 2 (by decide) (by decide)
  refine sj_retX (ex_tup (ax_cons (ex_ej ej_str (ax_cons (ex_ej (ej_call c_l_take (G.le (by decide)) (aj_cons (ej_bag 0) (aj_cons ej_int aj_nil)) (rd)) (ax_cons (ex_call c_l_c (G.le (by decide)) (ax_bag 0 (ax_aj (aj_cons (ej_dat (d := fmP b p low high) 1) (aj_cons (ej_dat 7) aj_nil)) ⟨⟨b, p, low, high, e, rfl, F, ok4⟩, fun r B5 hr => ?_⟩))) rfl)) rfl)) rfl))
  obtain ⟨ok5, hr⟩ := hr
  obtain ⟨c, rfl, c1, c2⟩ := hr b p low high e rfl
  refine ax_one (ex_ej (ej_dat 7) ⟨[.str "num", .int s, .int c, .int e], rfl, Nat.le_of_ble_eq_true rfl, ok5, fun b' p' low' high' hz => ?_⟩)
  injection hz with _ hz
  injection hz with hz _
  injection hz with hz
  unfold fmP at hz
  injection hz with hz
  injection hz with h1 hz
  injection hz with h2 hz
  injection hz with h3 hz
  injection hz with h4 _
  injection h1 with h1
  injection h2 with h2
  injection h3 with h3
  injection h4 with h4
  obtain rfl : b = b' := by omega
  obtain rfl : p = p' := by omega
  subst h3
  subst h4
  exact ⟨s, c, e, rfl, ⟨by omega, by omega, c2, e12.1, e12.2⟩, by omega⟩
theorem c_of_l_number_c (m_max : mg "max" = none) (m_min : mg "min" = none) (c_l_take : Cal P w K mg base "_law_take" 4 R_take) (c_l_some : Cal P w K mg base "_law_some" 5 R_some) (c_l_c_c : CalX P w K mg base "_law_c" 6 Pre_tc Post_tcC) (T_l_number : At K mg "_law_number" s_l_number ["_law_bag_here", "_law_form"]) : CalX P w K mg base "_law_number" 7 Pre_tn Post_tnC :=
  calx_at T_l_number sc_l_number (by rintro _ _ ⟨b, p, low, high, rfl, _, _⟩; rfl) fun f cd0 A out s0 H E0 G Γ B hPre => by
  obtain ⟨b, p, low, high, rfl, F, ok0⟩ := hPre
  have lo := F.lo; have hi := F.hi; have lh := F.lh
  obtain ⟨v1, B1, ra, a0, a1, ok1⟩ := tk_ex ok0 5 (by decide) (by decide)
  obtain ⟨v2, B2, rb, b0, b1, ok2⟩ := tk_ex ok1 (high - low + 1) (by omega) (by omega)
  obtain ⟨nr, hn⟩ : ∃ nr : Int, max low (min high (0 - p + v1)) = nr := ⟨_, rfl⟩
  have n1 : low ≤ nr ∧ nr ≤ high := by omega
  refine sj_unpack [2, 3, 4, 5] (ds := [.int b, .int p, .int low, .int high]) G.calm (ej_dat (d := fmP b p low high) 1) (pgs_cons (pgN 2 G.nd) (pgs_cons (pgN 3 G.nd) (pgs_cons (pgN 4 G.nd) (pgs_cons (pgN 5 G.nd) pgs_nil)))) rfl ?_
  refine sj_set 6 (d := .da (.int nr)) (B1 := B1) G.nd (ej_is (ej_max G.calm m_max (ej_dat 4) (ej_min G.calm m_min (ej_dat 5) (ej_add (ej_sub ej_int (ej_dat 3)) (ej_call c_l_take (G.le (by decide)) (aj_cons (ej_bag 0) (aj_cons ej_int aj_nil)) (ra))))) (congrArg PyData.int hn)) ?_
  obtain ⟨e, he, B3, rc, ok3⟩ := sm_ex ([low, high, low + v2, nr, nr] : List Int) PyData.int (Nat.le_of_ble_eq_true rfl) ok2 (Nat.zero_lt_succ _)
  have e12 : low ≤ e ∧ e ≤ high := by
    simp only [List.mem_cons, List.not_mem_nil, or_false] at he
    omega
  refine sj_set 7 (d := .da (.int e)) (B1 := B3) G.nd (ej_call c_l_some (G.le (by decide)) (aj_cons (ej_bag 0) (aj_cons (ej_is (y := .list (([low, high, low + v2, nr, nr] : List Int).map PyData.int)) (ej_lstD (ad_cons (ej_dat 4) (ad_cons (ej_dat 5) (ad_cons (ej_add (ej_dat 4) (ej_call c_l_take (G.le (by decide)) (aj_cons (ej_bag 0) (aj_cons (ej_add (ej_sub (ej_dat 5) (ej_dat 4)) ej_int) aj_nil)) (rb))) (ad_cons (ej_dat 6) (ad_cons (ej_dat 6) ad_nil))))) (Nat.le_of_ble_eq_true rfl)) rfl) aj_nil)) (rc)) ?_
  obtain ⟨s, B4, rd, s0, s1, ok4⟩ := tk_ex ok3 2 (by decide) (by decide)
  refine sj_retX (ex_tup (ax_cons (ex_ej ej_str (ax_cons (ex_ej (ej_call c_l_take (G.le (by decide)) (aj_cons (ej_bag 0) (aj_cons ej_int aj_nil)) (rd)) (ax_cons (ex_call c_l_c_c (G.le (by decide)) (ax_bag 0 (ax_aj (aj_cons (ej_dat (d := fmP b p low high) 1) (aj_cons (ej_dat 7) aj_nil)) ⟨⟨b, p, low, high, e, rfl, F, ok4⟩, fun r B5 hr => ?_⟩))) rfl)) rfl)) rfl))
  obtain ⟨ok5, hr⟩ := hr
  obtain ⟨c, rfl, c1, c2, c3⟩ := hr b p low high e rfl
  refine ax_one (ex_ej (ej_dat 7) ⟨[.str "num", .int s, .int c, .int e], rfl, Nat.le_of_ble_eq_true rfl, ok5, fun b' p' low' high' hz => ?_⟩)
  injection hz with _ hz
  injection hz with hz _
  injection hz with hz
  unfold fmP at hz
  injection hz with hz
  injection hz with h1 hz
  injection hz with h2 hz
  injection hz with h3 hz
  injection hz with h4 _
  injection h1 with h1
  injection h2 with h2
  injection h3 with h3
  injection h4 with h4
  obtain rfl : b = b' := by omega
  obtain rfl : p = p' := by omega
  subst h3
  subst h4
  exact ⟨s, c, e, rfl, ⟨by omega, by omega, c2, e12.1, e12.2⟩, by omega, c3⟩

abbrev s_l_next : Stmt := topS 56
theorem sc_l_next : FnScope ["_law_form", "_law_c_here", "_law_e", "_law_base", "_law_digits"] ["_law_form", "_law_c_here", "_law_e"] (defScope s_l_next) := ⟨rfl, rfl, rfl, by decide +kernel, rfl, by decide +kernel, by decide +kernel⟩

theorem c_of_l_next /-H-/ (c_l_to : Cal P w K mg base "_law_to" 4 R_pow) /-E-/ (T : At K mg "_law_next" s_l_next ["_law_form", "_law_c_here", "_law_e"]) : Cal P w K mg base "_law_next" 5 R_lnext :=
  cal_at T sc_l_next (by rintro _ _ _ _ ⟨⟩; rfl) fun f cd0 A out s0 H E0 G Γ B r B' hR => by
  obtain ⟨b, p, low, high, c, e, B, F, h1⟩ := hR
  have b2 := F.b2; have p2 := F.p2; have hp := F.p400
  have e1 : (p : Int) - 1 = ((p - 1 : Nat) : Int) := by omega
  refine sj_unpack [3, 4] (ds := [.int b, .int p]) G.calm (ej_is (y := .tuple [.int b, .int p]) (ej_sliceT (ej_dat (d := fmP b p low high) 0) oj_none (oj_some ej_int)) rfl) (pgs_cons (pgN 3 G.nd) (pgs_cons (pgN 4 G.nd) pgs_nil)) rfl ?_
  refine sj_ret (ej_if (d := .da (ndD (upN b p c e))) (tj_lt (ej_add (ej_dat 1) ej_int) (ej_call c_l_to (G.le (by decide)) (aj_cons (ej_dat 3) (aj_cons (ej_dat 4) aj_nil)) (R_pow.mk b p B F.b6 (by omega)))) (fun h => ?_) (fun h => ?_)) ⟨rfl, rfl⟩
  · have h := of_decide_eq_true h
    unfold upN ndD
    rw [if_neg (show ¬ c + 1 = ((b ^ p : Nat) : Int) by omega)]
    exact (ej_tupD (ad_cons (ej_add (ej_dat 1) ej_int) (ad_cons (ej_dat 2) ad_nil)) (Nat.le_of_ble_eq_true rfl))
  · have h := of_decide_eq_false h
    unfold upN ndD
    rw [if_pos (show c + 1 = ((b ^ p : Nat) : Int) by omega)]
    exact (ej_tupD (ad_cons (ej_call c_l_to (G.le (by decide)) (aj_cons (ej_dat 3) (aj_cons (ej_is (ej_sub (ej_dat 4) ej_int) (congrArg PyData.int e1)) aj_nil)) (R_pow.mk b (p - 1) B F.b6 (by omega))) (ad_cons (ej_add (ej_dat 2) ej_int) ad_nil)) (Nat.le_of_ble_eq_true rfl))

abbrev s_l_compared : Stmt := topS 57
theorem sc_l_compared : FnScope ["_law_one", "_law_other"] ["_law_one", "_law_other"] (defScope s_l_compared) := ⟨rfl, rfl, rfl, by decide +kernel, rfl, by decide +kernel, by decide +kernel⟩

theorem c_of_l_compared /-H-/  /-E-/ (T : At K mg "_law_compared" s_l_compared ["_law_one", "_law_other"]) : Cal P w K mg base "_law_compared" 4 R_cross :=
  cal_at T sc_l_compared (by rintro _ _ _ _ ⟨⟩; rfl) fun f cd0 A out s0 H E0 G Γ B r B' hR => by
  obtain ⟨a, b, c, d, B, h1, h2, h3, h4⟩ := hR
  exact sj_ret (ej_sub (ej_mul (ej_at (y := .int a) (ej_dat (d := .tuple [.int a, .int b]) 0)) (ej_at (y := .int d) (ej_dat (d := .tuple [.int c, .int d]) 1)) (cm h1 h4 (by decide))) (ej_mul (ej_at (y := .int c) (ej_dat (d := .tuple [.int c, .int d]) 1)) (ej_at (y := .int b) (ej_dat (d := .tuple [.int a, .int b]) 0)) (cm h3 h2 (by decide)))) ⟨rfl, rfl⟩
theorem c_of_l_compared_x (T_l_compared : At K mg "_law_compared" s_l_compared ["_law_one", "_law_other"]) : Cal P w K mg base "_law_compared" 4 R_crossW :=
  cal_at T_l_compared sc_l_compared (by rintro _ _ _ _ ⟨⟩; rfl) fun f cd0 A out s0 H E0 G Γ B r B' hR => by
  obtain ⟨a, b, c, d, B, h1, h2, h3, h4⟩ := hR
  exact sj_ret (ej_sub (ej_mul (ej_at (y := .int a) (ej_dat (d := .tuple [.int a, .int b]) 0)) (ej_at (y := .int d) (ej_dat (d := .tuple [.int c, .int d]) 1)) (cm h1 h4 (by decide))) (ej_mul (ej_at (y := .int c) (ej_dat (d := .tuple [.int c, .int d]) 1)) (ej_at (y := .int b) (ej_dat (d := .tuple [.int a, .int b]) 0)) (cm h3 h2 (by decide)))) ⟨rfl, rfl⟩

abbrev s_l_decimal_size : Stmt := topS 58
theorem sc_l_decimal_size : FnScope ["_law_c_here", "_law_e", "_law_n", "_law_d"] ["_law_c_here", "_law_e"] (defScope s_l_decimal_size) := ⟨rfl, rfl, rfl, by decide +kernel, rfl, by decide +kernel, by decide +kernel⟩

theorem c_of_l_decimal_size (nd : base.NoDigits) /-H-/ (m_min : mg "min" = none) (m_max : mg "max" = none) (m_len : mg "len" = none) (m_str : mg "str" = none) (c_l_power : Cal P w K mg base "_law_power" 5 R_power_of) /-E-/ (T : At K mg "_law_decimal_size" s_l_decimal_size ["_law_c_here", "_law_e"]) : Cal P w K mg base "_law_decimal_size" 6 R_dsize :=
  cal_at T sc_l_decimal_size (by rintro _ _ _ _ ⟨⟩; rfl) fun f cd0 A out s0 H E0 G Γ B r B' hR => by
  obtain ⟨c, e, B, h0, cb, he⟩ := hR
  obtain ⟨N, hN⟩ : ∃ N : Nat, c = (N : Int) := ⟨c.toNat, by omega⟩
  have hcl : clE c e = if 0 < e then min e 4000 else max e (0 - 4000 - (dl N : Int)) := by unfold clE; rw [hN, Int.toNat_natCast]
  have r := cl_rng (e := e) h0 cb
  have nr := (cl_ndr (e := e) h0 cb)
  have nb : N < 10 ^ 4300 := by
    unfold Bd at cb
    rw [hN, Int.natAbs_natCast] at cb
    exact Nat.lt_trans cb (by decide +kernel)
  have sn : (toString (N : Int) : Str).length ≤ 4300 := by rw [dl_str]; exact (Nat.length_repr_le_iff (by decide)).mpr nb
  have lin : (4300 : Nat) ≤ sizeLine := by decide
  refine sj_set 1 (d := .da (.int (clE c e))) (B1 := B) G.nd (ej_if (tj_gt (ej_dat 1) ej_int) (fun h => ?_) (fun h => ?_)) ?_
  · rw [hcl, if_pos (of_decide_eq_true h)]
    exact ej_min G.calm m_min (ej_dat 1) ej_int
  · rw [hcl, if_neg (of_decide_eq_false h)]
    exact ej_max G.calm m_max (ej_dat 1) (ej_is (ej_sub (ej_sub ej_int ej_int) (ej_lenS (y := toString (N : Int)) (Nat.le_trans sn lin) m_len (ej_strD G nd (by rw [Int.natAbs_natCast]; exact nb) m_str (ej_is (ej_dat 0) (congrArg PyData.int hN))))) (by rw [dl_str]))
  generalize clE c e = k at *
  have RP := R_power_of.mk 10 k B (by decide) (by decide) (by omega) (by omega)
  rw [fq_pw (by decide)] at RP
  refine sj_unpack [2, 3] (ds := [.int ((10 ^ k.toNat : Nat) : Int), .int ((10 ^ (-k).toNat : Nat) : Int)]) G.calm (ej_call c_l_power (G.le (by decide)) (aj_cons ej_int (aj_cons (ej_dat 1) aj_nil)) (RP)) (pgs_cons (pgN 2 G.nd) (pgs_cons (pgN 3 G.nd) pgs_nil)) rfl ?_
  have tb : Bd 20000 ((10 ^ k.toNat : Nat) : Int) := Bd.nat (Nat.lt_of_le_of_lt (Nat.pow_le_pow_right (by decide) (show k.toNat ≤ 4000 by omega)) (by decide +kernel))
  exact sj_ret (ej_tupD (ad_cons (ej_mul (ej_dat 0) (ej_dat 2) (cm cb tb (by decide))) (ad_cons (ej_dat 3) ad_nil)) (Nat.le_of_ble_eq_true rfl)) ⟨rfl, rfl⟩

abbrev s_l_ends : Stmt := topS 59
theorem sc_l_ends : FnScope ["_law_form", "_law_c_here", "_law_e", "_law_base", "_law_digits", "_law_low", "_law_high", "_law_below", "_law_ends_here", "_law_other", "_law_one", "_law_two"] ["_law_form", "_law_c_here", "_law_e"] (defScope s_l_ends) := ⟨rfl, rfl, rfl, by decide +kernel, rfl, by decide +kernel, by decide +kernel⟩

theorem c_of_l_ends (m_int : mg "int" = none) /-H-/ (m_int : mg "int" = none) (c_l_to : Cal P w K mg base "_law_to" 4 R_pow) (c_l_size : Cal P w K mg base "_law_size" 6 R_lszW) (c_l_next : Cal P w K mg base "_law_next" 5 R_lnext) /-E-/ (T : At K mg "_law_ends" s_l_ends ["_law_form", "_law_c_here", "_law_e"]) : Cal P w K mg base "_law_ends" 7 R_lends :=
  cal_at T sc_l_ends (by rintro _ _ _ _ ⟨⟩; rfl) fun f cd0 A out s0 H E0 G Γ B r B' hR => by
  obtain ⟨b, p, low, high, c, e, B, F, h0, h1, h2, h3⟩ := hR
  have b2 := F.D.b2; have p2 := F.D.p2; have hp := F.D.p400
  have e1 : (p : Int) - 1 = ((p - 1 : Nat) : Int) := by omega
  refine sj_unpack [3, 4, 5, 6] (ds := [.int b, .int p, .int low, .int high]) G.calm (ej_dat (d := fmP b p low high) 0) (pgs_cons (pgN 3 G.nd) (pgs_cons (pgN 4 G.nd) (pgs_cons (pgN 5 G.nd) (pgs_cons (pgN 6 G.nd) pgs_nil)))) rfl ?_
  have RL1 := R_pow.mk b (p - 1) B F.D.b6 (by omega)
  have RL2 := R_pow.mk b p B F.D.b6 (by omega)
  refine sj_set 7 (d := .da (ndD (prvP b p low c e))) (B1 := B) G.nd (ej_if (x := decide (((b ^ (p - 1) : Nat) : Int) < c ∨ e = low)) (tj_is (tj_w (wj_or (tj_gt (ej_dat 1) (ej_call c_l_to (G.le (by decide)) (aj_cons (ej_dat 3) (aj_cons (ej_is (ej_sub (ej_dat 4) ej_int) (congrArg PyData.int e1)) aj_nil)) (RL1))) fun _ => wj_or1 (tj_eqI G.hu (ej_dat 2) (ej_dat 5)))) (by by_cases q1 : ((b ^ (p - 1) : Nat) : Int) < c <;> by_cases q2 : e = low <;> simp [q1, q2])) (fun h => ?_) (fun h => ?_)) ?_
  · unfold ndD prvP
    rw [if_pos (of_decide_eq_true h)]
    exact (ej_tupD (ad_cons (ej_sub (ej_dat 1) ej_int) (ad_cons (ej_dat 2) ad_nil)) (Nat.le_of_ble_eq_true rfl))
  · unfold ndD prvP
    rw [if_neg (of_decide_eq_false h)]
    exact (ej_tupD (ad_cons (ej_sub (ej_call c_l_to (G.le (by decide)) (aj_cons (ej_dat 3) (aj_cons (ej_dat 4) aj_nil)) (RL2)) ej_int) (ad_cons (ej_sub (ej_dat 2) ej_int) ad_nil)) (Nat.le_of_ble_eq_true rfl))
  obtain ⟨k1, k2, k3, k4⟩ := prv_le F h0 h1 h2 h3
  have so := sz_ok F (Int.le_of_lt h0) h2 (.inl ⟨Int.le_of_lt h1, h3⟩)
  have sp := sz_ok F k1 k3 (.inl ⟨k2, k4⟩)
  have su := up_ok F (Int.le_of_lt h0) h1 h2 h3
  obtain ⟨u1, u2, u3, u4⟩ := up_rng F (Int.le_of_lt h0) h1 h2 h3
  generalize hpv : prvP b p low c e = pv at *
  generalize hup : upN b p c e = uv at *
  have RO := R_lszW.mk b p low high c e B F.D (Int.le_of_lt h0) (Int.le_of_lt h1) h2 (by omega)
  have body : ∀ (t : Int × Int) (z zz zzz : VD) (acc : List PyData) (fx : List VD → Bag → Prop) (rt : PyData → Bag → Prop) (bk ct : List VD → Bag → List PyData → Prop), acc.length < 1000 → 0 ≤ t.1 → t.1 ≤ ((b ^ p : Nat) : Int) → low ≤ t.2 → t.2 ≤ high + 1 → SzOk A4 C13 (szP b t.1 t.2) →
      OwJ (cxOf CX0 P w K mg base ["_law_form", "_law_c_here", "_law_e", "_law_base", "_law_digits", "_law_low", "_law_high", "_law_below", "_law_ends_here", "_law_other", "_law_one", "_law_two"] "_law_ends" (defScope s_l_ends) f cd0 A out s0 H E0).nox 8 [.da (fmP b p low high), .da (.int c), .da (.int e), .da (.int b), .da (.int p), .da (.int low), .da (.int high), .da (ndD pv), .no, .da (ndD t), zz, zzz] B acc
        (match (defBody s_l_ends).getD 3 (.Pass ⟨0, 0, 0, 0⟩) with | .For _ _ b _ _ => b | _ => [])
        { nx := fun Γ' B' acc' => (∃ z1 z2 z3, Γ' = [.da (fmP b p low high), .da (.int c), .da (.int e), .da (.int b), .da (.int p), .da (.int low), .da (.int high), .da (ndD pv), .no, z1, z2, z3]) ∧ B' = B ∧ acc' = acc ++ [ndD (midP (szP b c e) (szP b t.1 t.2))], fx := fx, rt := rt, bk := bk, ct := ct } := by
    intro t z zz zzz acc fx rt bk ct hl t0 t1 t2 t3 st
    have RT := R_lszW.mk b p low high t.1 t.2 B F.D t0 t1 t2 t3
    obtain ⟨b1, b2'⟩ := so.bd
    obtain ⟨b3, b4⟩ := st.bd
    refine ow_par 10 11 (d1 := .da (ndD (szP b c e))) (d2 := .da (ndD (szP b t.1 t.2))) (B1 := B) G.nd G.calm (aj_cons (ej_call c_l_size (G.le (by decide)) (aj_cons (ej_dat (d := fmP b p low high) 0) (aj_cons (ej_dat 1) (aj_cons (ej_dat 2) aj_nil))) (RO)) (aj_cons (ej_call c_l_size (G.le (by decide)) (aj_cons (ej_dat (d := fmP b p low high) 0) (aj_cons (ej_at (y := .int t.1) (ej_dat (d := ndD t) 9)) (aj_cons (ej_at (y := .int t.2) (ej_dat (d := ndD t) 9)) aj_nil))) (RT)) aj_nil)) ?_ (by decide) (by decide) (by decide) (by rfl)
    generalize szP b c e = x at *
    generalize szP b t.1 t.2 = y at *
    exact ow_app G.nd (ej_is (ej_tupD (ad_cons (ej_add (ej_mul (ej_at (y := .int x.1) (ej_dat (d := ndD x) 10)) (ej_at (y := .int y.2) (ej_dat (d := ndD y) 11)) (cm b1 b4 (by decide))) (ej_mul (ej_at (y := .int y.1) (ej_dat (d := ndD y) 11)) (ej_at (y := .int x.2) (ej_dat (d := ndD x) 10)) (cm b3 b2' (by decide)))) (ad_cons (ej_mul (ej_mul ej_int (ej_at (y := .int x.2) (ej_dat (d := ndD x) 10)) (cm (n := 2) (by unfold Bd; decide) b2' (by decide))) (ej_at (y := .int y.2) (ej_dat (d := ndD y) 11)) (cm ((show Bd 2 (2 : Int) by unfold Bd; decide).mul b2') b4 (by decide))) ad_nil)) (Nat.le_of_ble_eq_true rfl)) rfl) hl (ow_nil ⟨⟨_, _, _, rfl⟩, rfl, rfl⟩)
  refine sj_own 8 G.nd (fj_lst (ds := []) aj_nil (by decide)) (Nat.le_of_ble_eq_true rfl) ?_
  refine ow_forT (ds := [ndD pv, ndD uv]) (B1 := B) 9 G.nd G.calm (by decide) (fun k Γ' B' acc => (∃ z1 z2 z3, Γ' = [.da (fmP b p low high), .da (.int c), .da (.int e), .da (.int b), .da (.int p), .da (.int low), .da (.int high), .da (ndD pv), .no, z1, z2, z3]) ∧ B' = B ∧ acc = ([ndD (midP (szP b c e) (szP b pv.1 pv.2)), ndD (midP (szP b c e) (szP b uv.1 uv.2))] : List PyData).take k) (ej_tupD (ad_cons (ej_dat (d := ndD pv) 7) (ad_cons (ej_call c_l_next (G.le (by decide)) (aj_cons (ej_dat (d := fmP b p low high) 0) (aj_cons (ej_dat 1) (aj_cons (ej_dat 2) aj_nil))) ((by have := R_lnext.mk b p low high c e B F.D h1; rw [hup] at this; exact this))) ad_nil)) (Nat.le_of_ble_eq_true rfl)) ⟨⟨_, _, _, rfl⟩, rfl, rfl⟩ (fun k y Γ' B' acc hy hI => ?_) (fun Γ' B' acc hI => ?_)
  · obtain ⟨⟨z1, z2, z3, rfl⟩, rfl, rfl⟩ := hI
    match k, hy with
    | 0, hy =>
      injection hy with hy; subst hy
      exact body pv .no z2 z3 _ _ _ _ _ (Nat.lt_of_le_of_lt (List.length_take_le _ _) (by decide)) k1 k2 k3 (by omega) sp
    | 1, hy =>
      injection hy with hy; subst hy
      exact body uv .no z2 z3 _ _ _ _ _ (Nat.lt_of_le_of_lt (List.length_take_le _ _) (by decide)) u1 u2 u3 u4 su
    | k + 2, hy => cases hy
  · obtain ⟨⟨z1, z2, z3, rfl⟩, rfl, rfl⟩ := hI
    refine ow_end (sj_ret (ej_tupD (ad_cons (ej_atL (y := ndD (loP b p low c e)) (ej_dat (d := .list [ndD (midP (szP b c e) (szP b pv.1 pv.2)), ndD (midP (szP b c e) (szP b uv.1 uv.2))]) 8) (by unfold loP; rw [hpv]; rfl)) (ad_cons (ej_atL (y := ndD (upP b p c e)) (ej_dat (d := .list [ndD (midP (szP b c e) (szP b pv.1 pv.2)), ndD (midP (szP b c e) (szP b uv.1 uv.2))]) 8) (by unfold upP; rw [hup]; rfl)) (ad_cons (ej_eqI G.hu (ej_mod (ej_int1 m_int (ej_dat 1)) ej_int (by decide)) ej_int) ad_nil))) (Nat.le_of_ble_eq_true rfl)) ⟨rfl, rfl⟩)

abbrev s_l_is_in : Stmt := topS 60
theorem sc_l_is_in : FnScope ["_law_ends_here", "_law_n", "_law_d", "_law_low", "_law_high"] ["_law_ends_here", "_law_n", "_law_d"] (defScope s_l_is_in) := ⟨rfl, rfl, rfl, by decide +kernel, rfl, by decide +kernel, by decide +kernel⟩

theorem c_of_l_is_in /-H-/ (c_l_compared_x : Cal P w K mg base "_law_compared" 4 R_crossW) /-E-/ (T : At K mg "_law_is_in" s_l_is_in ["_law_ends_here", "_law_n", "_law_d"]) : Cal P w K mg base "_law_is_in" 5 R_inst :=
  cal_at T sc_l_is_in (by rintro _ _ _ _ ⟨⟩; rfl) fun f cd0 A out s0 H E0 G Γ B r B' hR => by
  obtain ⟨x, y, k, n, d, lo, hi, q, B, x0, y0, d0, hx, hy, h, b1, b2, b3, b4, b5, b6⟩ := hR
  obtain ⟨k1, k2, _, _⟩ := cmp_sgn d0 x0 hx h
  obtain ⟨_, _, k3, k4⟩ := cmp_sgn d0 y0 hy h
  refine sj_par 3 4 (d1 := .da (.int (n * x.2 - x.1 * d))) (d2 := .da (.int (y.1 * d - n * y.2))) (B1 := B) G.nd G.calm (aj_cons (ej_call c_l_compared_x (G.le (by decide)) (aj_cons (ej_tupD (ad_cons (ej_dat 1) (ad_cons (ej_dat 2) ad_nil)) (Nat.le_of_ble_eq_true rfl)) (aj_cons (ej_at (y := ndD x) (ej_dat (d := .tuple [ndD x, ndD y, .bool k]) 0)) aj_nil)) (R_crossW.mk n d x.1 x.2 B b5 b6 b1 b2)) (aj_cons (ej_call c_l_compared_x (G.le (by decide)) (aj_cons (ej_at (y := ndD y) (ej_dat (d := .tuple [ndD x, ndD y, .bool k]) 0)) (aj_cons (ej_tupD (ad_cons (ej_dat 1) (ad_cons (ej_dat 2) ad_nil)) (Nat.le_of_ble_eq_true rfl)) aj_nil)) (R_crossW.mk y.1 y.2 n d B b3 b4 b5 b6)) aj_nil)) ?_ (by decide) (by rfl)
  generalize n * x.2 - x.1 * d = u at *
  generalize y.1 * d - n * y.2 = v at *
  refine sj_ret (ej_is (ej_or (x := decide (0 < u) && decide (0 < v)) (y := k && (decide (0 ≤ u) && decide (0 ≤ v))) (ej_and (ej_gt (ej_dat 3) ej_int) fun _ => ej_one (ej_gt (ej_dat 4) ej_int)) fun _ => ej_one (ej_and (ej_at (y := .bool k) (ej_dat (d := .tuple [ndD x, ndD y, .bool k]) 0)) fun _ => ej_and (ej_ge (ej_dat 3) ej_int) fun _ => ej_one (ej_ge (ej_dat 4) ej_int))) (congrArg PyData.bool ?_)) ⟨rfl, rfl⟩
  have e1 : inSt lo hi k q = decide ((0 < u ∧ 0 < v) ∨ (k = true ∧ 0 ≤ u ∧ 0 ≤ v)) := by
    unfold inSt
    exact decide_eq_decide.mpr (or_congr (and_congr k1.symm k3.symm) (and_congr_right fun _ => and_congr k2.symm k4.symm))
  rw [e1]
  cases k <;> by_cases q1 : 0 < u <;> by_cases q2 : 0 < v <;> by_cases q3 : 0 ≤ u <;> by_cases q4 : 0 ≤ v <;> simp [q1, q2, q3, q4]

abbrev s_l_gcd : Stmt := topS 61
theorem sc_l_gcd : FnScope ["_law_one", "_law_other"] ["_law_one", "_law_other"] (defScope s_l_gcd) := ⟨rfl, rfl, rfl, by decide +kernel, rfl, by decide +kernel, by decide +kernel⟩

theorem c_of_l_gcd (m_int : mg "int" = none) (T : At K mg "_law_gcd" s_l_gcd ["_law_one", "_law_other"]) : Cal P w K mg base "_law_gcd" 4 R_lgcd :=
  cal_at T sc_l_gcd (by rintro _ _ _ _ ⟨⟩; rfl) fun f cd0 A out s0 H E0 G Γ B r B' hR => by
  obtain ⟨a, c, B⟩ := hR
  refine sj_while G.nd (fun Γ' B' => ∃ x y : Nat, Γ' = [.da (.int (x : Int)), .da (.int (y : Int))] ∧ Nat.gcd x y = Nat.gcd a c ∧ B' = B) (fun Γ' _ => (intAt Γ' 1).toNat) ⟨a, c, rfl, rfl, rfl⟩ ?_
  rintro Γ' B' ⟨x, y, rfl, hg, rfl⟩
  refine ⟨!decide ((y : Int) = 0), tj_neI G.hu (ej_dat 1) ej_int, fun hc => ?_, fun hc => ?_⟩
  · have h : y ≠ 0 := fun z => by rw [z] at hc; exact Bool.noConfusion hc
    refine sj_par 0 1 (d1 := .da (.int (y : Int))) (d2 := .da (.int ((x % y : Nat) : Int))) (B1 := B') G.nd G.calm (aj_cons (ej_dat 1) (aj_cons (ej_is (ej_mod (ej_int1 m_int (ej_dat 0)) (ej_dat 1) (by omega)) (congrArg PyData.int (Int.natCast_emod x y).symm)) aj_nil)) (sj_nil ⟨⟨y, x % y, rfl, ?_, rfl⟩, ?_⟩) (by decide) (by rfl)
    · rw [← hg, Nat.gcd_comm x y, Nat.gcd_rec y x, Nat.gcd_comm]
    · show (((x % y : Nat) : Int)).toNat < ((y : Nat) : Int).toNat
      rw [Int.toNat_natCast, Int.toNat_natCast]; exact Nat.mod_lt _ (by omega)
  · have h : y = 0 := by
      by_cases z : y = 0
      · exact z
      · rw [decide_eq_false (by omega)] at hc; exact Bool.noConfusion hc
    rw [h, Nat.gcd_zero_right] at hg
    exact sj_ret (ej_is (ej_dat 0) (congrArg PyData.int (by rw [hg]))) ⟨rfl, rfl⟩

abbrev s_l_fraction : Stmt := topS 62
theorem sc_l_fraction : FnScope ["_law_n", "_law_d", "_law_by"] ["_law_n", "_law_d"] (defScope s_l_fraction) := ⟨rfl, rfl, rfl, by decide +kernel, rfl, by decide +kernel, by decide +kernel⟩

theorem c_of_l_fraction (m_int : mg "int" = none) /-H-/ (m_int : mg "int" = none) (m_abs : mg "abs" = none) (c_l_gcd : Cal P w K mg base "_law_gcd" 4 R_lgcd) /-E-/ (T : At K mg "_law_fraction" s_l_fraction ["_law_n", "_law_d"]) : Cal P w K mg base "_law_fraction" 5 R_lfrac :=
  cal_at T sc_l_fraction (by rintro _ _ _ _ ⟨⟩; rfl) fun f cd0 A out s0 H E0 G Γ B r B' hR => by
  obtain ⟨n, d, q, B, n0, d0, h, hb⟩ := hR
  obtain ⟨g, g0, r1, r2⟩ := rep d0 h
  have dp := den_pos q
  have q0 : 0 ≤ q.num := by
    refine Int.not_lt.mp fun z => ?_
    have := Int.mul_neg_of_neg_of_pos z g0
    omega
  have ea : absI n = ((q.num.toNat * g.toNat : Nat) : Int) := by
    unfold absI; rw [if_neg (by omega), r1, Int.natCast_mul, Int.toNat_of_nonneg q0, Int.toNat_of_nonneg (by omega)]
  have ed : d = ((q.den * g.toNat : Nat) : Int) := by rw [r2, Int.natCast_mul, Int.toNat_of_nonneg (by omega)]
  have eg : Nat.gcd (q.num.toNat * g.toNat) (q.den * g.toNat) = g.toNat := by
    rw [Nat.gcd_mul_right]
    have : Nat.gcd q.num.toNat q.den = 1 := by
      have := q.reduced
      rw [show q.num.natAbs = q.num.toNat by omega] at this
      exact this
    rw [this, Nat.one_mul]
  have RG := R_lgcd.mk (q.num.toNat * g.toNat) (q.den * g.toNat) B
  rw [eg, ← ed] at RG
  have gb : Bd 8900 g := by
    unfold Bd at hb ⊢
    have : 1 * g ≤ (q.den : Int) * g := Int.mul_le_mul_of_nonneg_right (by omega) (by omega)
    omega
  refine sj_set 2 (d := .da (.int g)) (B1 := B) G.nd (ej_call c_l_gcd (G.le (by decide)) (aj_cons (ej_is (ej_abs m_abs (ej_dat 0)) (congrArg PyData.int ea)) (aj_cons (ej_dat 1) aj_nil)) ((by rw [Int.toNat_of_nonneg (by omega)] at RG; exact RG))) ?_
  refine sj_ret (ej_tupD (ad_cons (ej_is (ej_fdiv (ej_int1 m_int (ej_dat 0)) (ej_dat 2) (cdv gb g0 (by decide))) (congrArg PyData.int (by rw [r1, Int.mul_ediv_cancel _ (by omega)]))) (ad_cons (ej_is (ej_fdiv (ej_int1 m_int (ej_dat 1)) (ej_dat 2) (cdv gb g0 (by decide))) (congrArg PyData.int (by rw [r2, Int.mul_ediv_cancel _ (by omega)]))) ad_nil)) (Nat.le_of_ble_eq_true rfl)) ⟨rfl, rfl⟩

abbrev s_l_trimmed : Stmt := topS 63
theorem sc_l_trimmed : FnScope ["_law_decimal", "_law_s", "_law_c_here", "_law_e"] ["_law_decimal"] (defScope s_l_trimmed) := ⟨rfl, rfl, rfl, by decide +kernel, rfl, by decide +kernel, by decide +kernel⟩

theorem c_of_l_trimmed (m_int : mg "int" = none) (T : At K mg "_law_trimmed" s_l_trimmed ["_law_decimal"]) : Cal P w K mg base "_law_trimmed" 4 R_ltrim :=
  cal_at T sc_l_trimmed (by rintro _ _ _ _ ⟨⟩; rfl) fun f cd0 A out s0 H E0 G Γ B r B' hR => by
  obtain ⟨s, c, e, B, h⟩ := hR
  refine sj_unpack [1, 2, 3] (ds := [.int s, .int (c : Int), .int e]) G.calm (ej_dat (d := dcD s c e) 0) (pgs_cons (pgN 1 G.nd) (pgs_cons (pgN 2 G.nd) (pgs_cons (pgN 3 G.nd) pgs_nil))) rfl ?_
  refine sj_when (x := false) (tj_is (tj_eqI G.hu (ej_dat 2) ej_int) (decide_eq_false (by omega))) (fun h => Bool.noConfusion h) (fun _ => ?_)
  have eq0 : ∀ (m : Nat), ((m : Int) % 10 = 0) ↔ m % 10 = 0 := fun m => by omega
  refine sj_while G.nd (fun Γ' B' => ∃ m k f : Nat, Γ' = [.da (dcD s c e), .da (.int s), .da (.int (m : Int)), .da (.int (e + (k : Int)))] ∧ 0 < m ∧ m ≤ f ∧ stripN 10 c c = ((stripN 10 f m).1, (stripN 10 f m).2 + k) ∧ B' = B) (fun Γ' _ => (intAt Γ' 2).toNat) ⟨c, 0, c, by rw [show e + ((0 : Nat) : Int) = e by omega]; rfl, h, Nat.le_refl _, rfl, rfl⟩ ?_
  rintro Γ' B' ⟨m, k, f, rfl, m0, mf, hs, rfl⟩
  refine ⟨decide ((m : Int) % 10 = 0), tj_eqI G.hu (ej_mod (ej_int1 m_int (ej_dat 2)) ej_int (by decide)) ej_int, fun hc => ?_, fun hc => ?_⟩
  · have h := (eq0 m).mp (of_decide_eq_true hc)
    obtain ⟨f, rfl⟩ : ∃ g, f = g + 1 := ⟨f - 1, by omega⟩
    have e' : stripN 10 (f + 1) m = ((stripN 10 f (m / 10)).1, (stripN 10 f (m / 10)).2 + 1) := by rw [stripN, if_pos h]
    refine sj_par 2 3 (d1 := .da (.int ((m / 10 : Nat) : Int))) (d2 := .da (.int (e + ((k + 1 : Nat) : Int)))) (B1 := B') G.nd G.calm (aj_cons (ej_is (ej_fdiv (ej_int1 m_int (ej_dat 2)) ej_int (cdv (n := 4) (by unfold Bd; decide) (by decide))) (congrArg PyData.int (Int.natCast_ediv m 10).symm)) (aj_cons (ej_is (ej_add (ej_dat 3) ej_int) (congrArg PyData.int (by omega))) aj_nil)) (sj_nil ⟨⟨m / 10, k + 1, f, rfl, by omega, by omega, by rw [hs, e']; exact Prod.ext rfl (by show _ + 1 + k = _ + (k + 1); omega), rfl⟩, ?_⟩) (by decide) (by rfl)
    show (((m / 10 : Nat) : Int)).toNat < ((m : Nat) : Int).toNat
    rw [Int.toNat_natCast, Int.toNat_natCast]; omega
  have h : ¬ m % 10 = 0 := fun z => of_decide_eq_false hc ((eq0 m).mpr z)
  rw [strip_stop h, Nat.zero_add] at hs
  refine sj_ret (ej_tupD (ad_cons (ej_dat 1) (ad_cons (ej_dat 2) (ad_cons (ej_dat 3) ad_nil))) (Nat.le_of_ble_eq_true rfl)) ⟨?_, rfl⟩
  unfold trP
  rw [hs]; rfl

abbrev s_l_top : Stmt := topS 64
theorem sc_l_top : FnScope ["_law_n", "_law_d", "_law_e"] ["_law_n", "_law_d"] (defScope s_l_top) := ⟨rfl, rfl, rfl, by decide +kernel, rfl, by decide +kernel, by decide +kernel⟩

theorem c_of_l_top (nd : base.NoDigits) /-H-/ (m_len : mg "len" = none) (m_str : mg "str" = none) (c_l_compared : Cal P w K mg base "_law_compared" 4 R_cross) (c_l_power : Cal P w K mg base "_law_power" 5 R_power_of) /-E-/ (T : At K mg "_law_top" s_l_top ["_law_n", "_law_d"]) : Cal P w K mg base "_law_top" 6 R_top :=
  cal_at T sc_l_top (by rintro _ _ _ _ ⟨⟩; rfl) fun f cd0 A out s0 H E0 G Γ B r B' hR => by
  obtain ⟨n, d, q, k, B, hn, hd, h, h1, h2, b1, b2⟩ := hR
  have sz : ∀ m : Nat, m < 10 ^ 4300 → (toString (m : Int) : Str).length ≤ 4300 := fun m hm => by
    rw [dl_str]; exact (Nat.length_repr_le_iff (by decide)).mpr hm
  have sn := sz n b1
  have sd := sz d b2
  have st := top_start hn hd h h2
  have lin : (4300 : Nat) ≤ sizeLine := by decide
  refine sj_set 2 (d := .da (.int ((dl n : Int) - dl d - 1))) (B1 := B) G.nd (ej_is (ej_sub (ej_sub (ej_lenS (y := toString (n : Int)) (Nat.le_trans sn lin) m_len (ej_strD G nd (by rw [Int.natAbs_natCast]; exact b1) m_str (ej_dat 0))) (ej_lenS (y := toString (d : Int)) (Nat.le_trans sd lin) m_len (ej_strD G nd (by rw [Int.natAbs_natCast]; exact b2) m_str (ej_dat 1)))) ej_int) (by rw [dl_str, dl_str])) ?_
  rw [dl_str] at sn sd
  refine sj_while G.nd (fun Γ' B' => ∃ e : Int, Γ' = [.da (.int n), .da (.int d), .da (.int e)] ∧ -4400 ≤ e ∧ e ≤ k + 1 ∧ B' = B) (fun Γ' _ => (k + 1 - intAt Γ' 2).toNat) ⟨_, rfl, by omega, st, rfl⟩ ?_
  rintro Γ' B' ⟨e, rfl, e1, e2, rfl⟩
  have kb := top_bound hn hd h h1 b1
  have RP := R_power_of.mk 10 e B' (by decide) (by decide) (by omega) (by omega)
  rw [fq_pw (by decide)] at RP
  have bt : ∀ m : Nat, m ≤ 4401 → Bd 20000 ((10 ^ m : Nat) : Int) := fun m hm => by
    unfold Bd; rw [Int.natAbs_natCast]
    exact Nat.lt_of_le_of_lt (Nat.pow_le_pow_right (by decide) hm) ten_4401
  have bn : ∀ m : Nat, m < 10 ^ 4300 → Bd 20000 (m : Int) := fun m hm => by
    unfold Bd; rw [Int.natAbs_natCast]
    exact Nat.lt_of_lt_of_le hm (Nat.le_of_lt (Nat.lt_of_le_of_lt (Nat.pow_le_pow_right (by decide) (by decide)) ten_4401))
  have RC := R_cross.mk ((10 ^ e.toNat : Nat) : Int) ((10 ^ (-e).toNat : Nat) : Int) n d B' (bt _ (by omega)) (bt _ (by omega)) (bn n b1) (bn d b2)
  have iff := top_cmp hn hd h (e := e)
  refine ⟨decide (((10 ^ e.toNat : Nat) : Int) * d - n * ((10 ^ (-e).toNat : Nat) : Int) ≤ 0), tj_le (ej_call c_l_compared (G.le (by decide)) (aj_cons (ej_call c_l_power (G.le (by decide)) (aj_cons ej_int (aj_cons (ej_dat 2) aj_nil)) (RP)) (aj_cons (ej_tupD (ad_cons (ej_dat 0) (ad_cons (ej_dat 1) ad_nil)) (Nat.le_of_ble_eq_true rfl)) aj_nil)) (RC)) ej_int, fun hc => ?_, fun hc => ?_⟩
  · have hk : e ≤ k := top_le (iff.mp (of_decide_eq_true hc)) h2
    exact sj_augI 2 (m := e) (n := 1) G.nd rfl ej_int (sj_nil ⟨⟨e + 1, rfl, by omega, by omega, rfl⟩, show (k + 1 - (e + 1)).toNat < (k + 1 - e).toNat by omega⟩)
  · have hk : ¬ e ≤ k := fun z => of_decide_eq_false hc (iff.mpr (Std.le_trans (pw_mono (by decide) z) h1))
    obtain rfl : e = k + 1 := by omega
    exact sj_ret (ej_dat 2) ⟨rfl, rfl⟩

abbrev s_l_shortest : Stmt := topS 65
theorem sc_l_shortest : FnScope ["_law_form", "_law_number_here", "_law_s", "_law_c_here", "_law_e", "_law_ends_here", "_law_n", "_law_d", "_law_top_here", "_law_found", "_law_many", "_law_at", "_law_up", "_law_down", "_law_low", "_law_q", "_law_far", "_law_best", "_law_one", "_law_more"] ["_law_form", "_law_number_here"] (defScope s_l_shortest) := ⟨rfl, rfl, rfl, by decide +kernel, rfl, by decide +kernel, by decide +kernel⟩

theorem c_of_l_shortest /-H-/ (m_abs : mg "abs" = none) (c_l_ends : Cal P w K mg base "_law_ends" 7 R_lends) (c_l_size : Cal P w K mg base "_law_size" 6 R_lszW) (c_l_top : Cal P w K mg base "_law_top" 6 R_top) (c_l_power : Cal P w K mg base "_law_power" 5 R_power_of) (c_l_to : Cal P w K mg base "_law_to" 4 R_pow) (c_l_is_in : Cal P w K mg base "_law_is_in" 5 R_inst) (c_l_fraction : Cal P w K mg base "_law_fraction" 5 R_lfrac) (c_l_compared_x : Cal P w K mg base "_law_compared" 4 R_crossW) (c_l_decimal_size : Cal P w K mg base "_law_decimal_size" 6 R_dsize) (c_l_trimmed : Cal P w K mg base "_law_trimmed" 4 R_ltrim) /-E-/ (T : At K mg "_law_shortest" s_l_shortest ["_law_form", "_law_number_here"]) : Cal P w K mg base "_law_shortest" 9 R_lshort :=
  cal_at T sc_l_shortest (by rintro _ _ _ _ ⟨⟩ <;> rfl) fun f cd0 A out s0 H E0 G Γ B r B' hR => by
  cases hR with
  | zero b p low high s =>
    refine sj_unpack [2, 3, 4] (ds := [.int s, .int 0, .int low]) G.calm (ej_is (y := .tuple [.int s, .int 0, .int low]) (ej_sliceT (ej_dat (d := .tuple [.str "num", .int s, .int 0, .int low]) 1) (oj_some ej_int) oj_none) rfl) (pgs_cons (pgN 2 G.nd) (pgs_cons (pgN 3 G.nd) (pgs_cons (pgN 4 G.nd) pgs_nil))) rfl ?_
    refine sj_when (x := true) (tj_is (tj_eqI G.hu (ej_dat 3) ej_int) rfl) (fun _ => ?_) (fun h => Bool.noConfusion h)
    exact sj_ret (ej_tupD (ad_cons (ej_dat 2) (ad_cons ej_int (ad_cons ej_int ad_nil))) (Nat.le_of_ble_eq_true rfl)) ⟨rfl, rfl⟩
  | mk b p low high s c e Gp _ F N hG hG1 g1 g2 =>
    have b2 := F.D.b2; have p2 := F.D.p2
    have el := N.D.2.2.2.1; have eh := N.D.2.2.2.2
    have c0 := N.c0
    obtain ⟨o1, o2, o3, o4, o5⟩ := st_ord F N
    obtain ⟨n, d, n0, d0, hq, en, ed, bn, bd, bn2, bd2⟩ := size_nd F.D N.D c0
    have RS := R_lszW.mk b p low high c e B F.D (Int.le_of_lt c0) (Int.le_of_lt N.D.2.2.1) el (by omega)
    unfold ndD szP at RS
    dsimp only at RS
    rw [en, ed] at RS
    have d13 : Bd 4319 (d : Int) := by
      rw [← ed]
      refine Bd.nat (Nat.lt_of_le_of_lt (Nat.pow_le_pow_right (by omega) (show (-e).toNat ≤ (-low).toNat by omega)) (Nat.lt_of_le_of_lt F.bl2 (by decide +kernel)))
    have q0 : 0 < (c : Rat) * pw b e := ltle o1 (Rat.le_of_lt o2)
    obtain ⟨t, t1, t2⟩ := log_ex (b := 10) (by decide) q0
    have tk := ndd_k F.D N.D c0 t1 t2
    have RT := R_top.mk n d ((c : Rat) * pw b e) t B n0 d0 hq t1 t2 bn bd
    obtain ⟨M0, Cc⟩ := shc_ex o1 o2 o3 hG hG1 t1 t2 (st_two b2 c0)
    obtain ⟨_, n2, n3⟩ := ends_ok F c0 N.D.2.2.1 el eh
    have lv := lo_val (low := low) b2 p2 (c := c) (e := e) el N.ca
    have hv := hi_val b2 p2 c e
    have RL := R_lends.mk b p low high c e B F c0 N.D.2.2.1 el eh
    have hE2 : -1305 ≤ shE ((c : Rat) * pw b e) Gp := by unfold shE; split <;> omega
    have c1 : ¬ c = 0 := by omega
    have hq' : (((n : Nat) : Int) : Rat) = (c : Rat) * pw b e * (((d : Nat) : Int) : Rat) := by rw [Rat.intCast_natCast, Rat.intCast_natCast]; exact hq
    have dpos : (0 : Int) < (d : Int) := by omega
    clear hq o4 o5 F N
    generalize loP b p low c e = x at *
    generalize upP b p c e = y at *
    generalize stLo b p low c e = lo at *
    generalize stHi b c e = hi at *
    generalize decide (c % 2 = 0) = k at *
    generalize (c : Rat) * pw b e = wq at *
    generalize shE wq Gp = E at *
    generalize shX lo hi wq k E = X at *
    refine sj_unpack [2, 3, 4] (ds := [.int s, .int c, .int e]) G.calm (ej_is (y := .tuple [.int s, .int c, .int e]) (ej_sliceT (ej_dat (d := .tuple [.str "num", .int s, .int c, .int e]) 1) (oj_some ej_int) oj_none) rfl) (pgs_cons (pgN 2 G.nd) (pgs_cons (pgN 3 G.nd) (pgs_cons (pgN 4 G.nd) pgs_nil))) rfl ?_
    refine sj_when (x := false) (tj_is (tj_eqI G.hu (ej_dat 3) ej_int) (decide_eq_false c1)) (fun h => Bool.noConfusion h) (fun _ => ?_)
    refine sj_unpackN 5 [6, 7] (y1 := .tuple [ndD x, ndD y, .bool k]) (dd := [.int n, .int d]) G.nd G.calm (ej_tupD (ad_cons (ej_call c_l_ends (G.le (by decide)) (aj_cons (ej_dat (d := fmP b p low high) 0) (aj_cons (ej_dat 3) (aj_cons (ej_dat 4) aj_nil))) (RL)) (ad_cons (ej_call c_l_size (G.le (by decide)) (aj_cons (ej_dat (d := fmP b p low high) 0) (aj_cons (ej_dat 3) (aj_cons (ej_dat 4) aj_nil))) (RS)) ad_nil)) (Nat.le_of_ble_eq_true rfl)) (pgs_cons (pgN 6 G.nd) (pgs_cons (pgN 7 G.nd) pgs_nil)) rfl ?_
    refine sj_own3 8 9 10 (y1 := .int (t + 1)) (ds := []) (y3 := .int 0) G.nd G.calm (ej_call c_l_top (G.le (by decide)) (aj_cons (ej_dat 6) (aj_cons (ej_dat 7) aj_nil)) (RT)) (fj_lstD ad_nil (Nat.le_of_ble_eq_true rfl)) ej_int (Nat.le_of_ble_eq_true rfl) ?_ (by decide) (by decide) (by decide) (by rfl)
    show OwJ _ 9 [.da (fmP b p low high), .da (Va.num s c e).d, .da (.int s), .da (.int c), .da (.int e), .da (.tuple [ndD x, ndD y, .bool k]), .da (.int (n : Nat)), .da (.int (d : Nat)), .da (.int (t + 1)), .no, .da (.int 0), .no, .no, .no, .no, .no, .no, .no, .no, .no] _ _ _ _
    clear RL RS RT
    have hMt := Cc.hM
    have hM1 := Cc.m1
    obtain ⟨X0, XS, XM⟩ := Cc.xin
    have tE : E ≤ t := by omega
    refine ow_whileO (fun Γ' B' acc => B' = B ∧ ∃ (m : Nat) (L : List (Int × Int)) (g11 g12 g13 g14 g15 g16 : VD), Γ' = [.da (fmP b p low high), .da (Va.num s c e).d, .da (.int s), .da (.int c), .da (.int e), .da (.tuple [ndD x, ndD y, .bool k]), .da (.int (n : Nat)), .da (.int (d : Nat)), .da (.int (t + 1)), .no, .da (.int (m : Int)), g11, g12, g13, g14, g15, g16, .no, .no, .no] ∧ acc = L.map (entP wq) ∧ m ≤ M0 ∧ (∀ z ∈ L, Cand lo hi wq k t m z) ∧ (m = M0 → (X, E) ∈ L) ∧ (m = 0 → L = [])) (fun Γ' _ _ => M0 - (intAt Γ' 10).toNat) ⟨rfl, 0, [], _, _, _, _, _, _, rfl, rfl, Nat.zero_le _, (fun _ h => nomatch h), fun z => by omega, fun _ => rfl⟩ ?_
    rintro Γ' B' acc ⟨rfl, m, L, g11, g12, g13, g14, g15, g16, rfl, rfl, hm, hL, hXE, hm0⟩
    refine ⟨L.isEmpty, tj_is (tj_eq G.hu (ej_dat (d := .list (L.map (entP wq))) 9) (ej_lstD ad_nil (Nat.le_of_ble_eq_true rfl)) (ents_sh _ _) rfl) (ents_nil _ _), fun hem => ?_, fun hem => ?_⟩
    · have hl : L = [] := List.isEmpty_iff.mp hem
      subst hl
      have hlt : m < M0 := Nat.lt_of_le_of_ne hm (fun z => nomatch (hXE z))
      clear hL hXE hem
      refine ow_augI 10 (m := (m : Int)) (n := 1) G.nd (by decide) rfl ej_int ?_
      refine ow_forT 11 (ds := [.int (t + 1 - ((m + 1 : Nat) : Int) - 1), .int (t + 1 - ((m + 1 : Nat) : Int)), .int (t + 1 - ((m + 1 : Nat) : Int) + 1)]) G.nd G.calm (by decide) (fun i Γ2 B2 acc2 => B2 = B' ∧ ∃ (L : List (Int × Int)) (g11 g12 g13 g14 g15 g16 : VD), Γ2 = [.da (fmP b p low high), .da (Va.num s c e).d, .da (.int s), .da (.int c), .da (.int e), .da (.tuple [ndD x, ndD y, .bool k]), .da (.int (n : Nat)), .da (.int (d : Nat)), .da (.int (t + 1)), .no, .da (.int ((m + 1 : Nat) : Int)), g11, g12, g13, g14, g15, g16, .no, .no, .no] ∧ acc2 = L.map (entP wq) ∧ L.length ≤ 2 * i ∧ (∀ z ∈ L, Cand lo hi wq k t (m + 1) z) ∧ (2 ≤ i → m + 1 = M0 → (X, E) ∈ L)) (ej_tupD (ad_cons (ej_sub (ej_sub (ej_dat 8) (ej_dat (d := .int ((m + 1 : Nat) : Int)) 10)) ej_int) (ad_cons (ej_sub (ej_dat 8) (ej_dat (d := .int ((m + 1 : Nat) : Int)) 10)) (ad_cons (ej_add (ej_sub (ej_dat 8) (ej_dat (d := .int ((m + 1 : Nat) : Int)) 10)) ej_int) ad_nil))) (Nat.le_of_ble_eq_true rfl)) ⟨rfl, [], _, _, _, _, _, _, rfl, rfl, Nat.zero_le _, (fun _ h => nomatch h), fun z => absurd z (by decide)⟩ (fun i ya Γ2 B2 acc2 hy hP => ?_) (fun Γ2 B2 acc2 hP => ?_)
      rotate_left
      · obtain ⟨rfl, L, g11, g12, g13, g14, g15, g16, rfl, rfl, _, hL, hXE⟩ := hP
        exact ow_nil ⟨⟨rfl, m + 1, L, _, _, _, _, _, _, rfl, rfl, hlt, hL, hXE (show 2 ≤ 3 by decide), fun z => absurd z (Nat.succ_ne_zero m)⟩, by show M0 - (((m + 1 : Nat) : Int)).toNat < M0 - ((m : Int)).toNat; omega⟩
      obtain ⟨rfl, L, g11, g12, g13, g14, g15, g16, rfl, rfl, hLl, hL, hXE⟩ := hP
      obtain ⟨a, rfl, ha, hi1, hi2⟩ : ∃ a : Int, ya = .int a ∧ (a = t + 1 - ((m + 1 : Nat) : Int) - 1 ∨ a = t + 1 - ((m + 1 : Nat) : Int) ∨ a = t + 1 - ((m + 1 : Nat) : Int) + 1) ∧ (i = 1 → a = t + 1 - ((m + 1 : Nat) : Int)) ∧ i ≤ 2 := by
        match i, hy with
        | 0, hy => exact ⟨_, (Option.some.inj hy).symm, .inl rfl, fun z => absurd z (by decide), by decide⟩
        | 1, hy => exact ⟨_, (Option.some.inj hy).symm, .inr (.inl rfl), fun _ => rfl, by decide⟩
        | 2, hy => exact ⟨_, (Option.some.inj hy).symm, .inr (.inr rfl), fun z => absurd z (by decide), by decide⟩
      have ab : -1306 ≤ a ∧ a ≤ 401 := by omega
      have RP := R_power_of.mk 10 a B2 (by decide) (by decide) (by omega) (by omega)
      rw [fq_pw (by decide)] at RP
      refine ow_unpack [12, 13] (dd := [.int ((10 ^ a.toNat : Nat) : Int), .int ((10 ^ (-a).toNat : Nat) : Int)]) G.calm (ej_call c_l_power (G.le (by decide)) (aj_cons ej_int (aj_cons (ej_dat (d := .int a) 11) aj_nil)) (RP)) (pgs_cons (pgN 12 G.nd) (pgs_cons (pgN 13 G.nd) pgs_nil)) rfl (by decide) ?_
      have up : Bd 1340 ((10 ^ a.toNat : Nat) : Int) := Bd.nat (Nat.lt_of_le_of_lt (Nat.pow_le_pow_right (by decide) (show a.toNat ≤ 401 by omega)) (by decide +kernel))
      have dn : Bd 4339 ((10 ^ (-a).toNat : Nat) : Int) := Bd.nat (Nat.lt_of_le_of_lt (Nat.pow_le_pow_right (by decide) (show (-a).toNat ≤ 1306 by omega)) (by decide +kernel))
      have up0 : (0 : Int) < ((10 ^ a.toNat : Nat) : Int) := Int.natCast_pos.mpr (Nat.pow_pos (by decide))
      have dn0 : (0 : Int) < ((10 ^ (-a).toNat : Nat) : Int) := Int.natCast_pos.mpr (Nat.pow_pos (by decide))
      have hD := Int.mul_pos dpos up0
      have bD := d13.mul up
      have hfl := fl_div hD (at_rat (e := a) hq')
      refine ow_set 14 (d := .da (.int (flQ (wq / pw 10 a)))) (B1 := B2) G.nd (by decide) (ej_is (ej_fdiv (ej_mul (ej_dat (d := .int (n : Nat)) 6) (ej_dat (d := .int ((10 ^ (-a).toNat : Nat) : Int)) 13) (cm bn2 dn (by decide))) (ej_mul (ej_dat (d := .int (d : Nat)) 7) (ej_dat (d := .int ((10 ^ a.toNat : Nat) : Int)) 12) (cm d13 up (by decide))) ⟨hD, PySem.Flt.log2_lt_of (by decide) (Nat.lt_of_lt_of_le bD (Nat.pow_le_pow_right (by decide) (by decide)))⟩) (congrArg PyData.int hfl)) ?_
      have cm1 := fun q : Int => cand_mult (M := m + 1) (at' := a) (q := q) Cc.l0 Cc.lw Cc.wh Cc.t1 Cc.t2 (by omega) ha
      have hxf : i = 1 → m + 1 = M0 → a = E ∧ (X = flQ (wq / pw 10 a) ∨ X = flQ (wq / pw 10 a) + 1) := fun h1 h2 => by
        have : a = E := by have := hi1 h1; omega
        subst this
        exact ⟨rfl, Cc.fl⟩
      have hs := fun q : Int => sz_val (b := 10) (by decide) q a
      have hfar := fun q : Int => far_val (q := q) (a := a) hq'
      have hM : Bd 5900 ((10 ^ (m + 1) : Nat) : Int) := Bd.nat (Nat.lt_of_le_of_lt (Nat.pow_le_pow_right (by decide) (show m + 1 ≤ 1705 by omega)) (by decide +kernel))
      generalize flQ (wq / pw 10 a) = fl at *
      clear hfl
      refine ow_forT 15 (ds := [.int fl, .int (fl + 1)]) G.nd G.calm (by decide) (fun j Γ3 B3 acc3 => B3 = B2 ∧ ∃ (L : List (Int × Int)) (g15 g16 : VD), Γ3 = [.da (fmP b p low high), .da (Va.num s c e).d, .da (.int s), .da (.int c), .da (.int e), .da (.tuple [ndD x, ndD y, .bool k]), .da (.int (n : Nat)), .da (.int (d : Nat)), .da (.int (t + 1)), .no, .da (.int ((m + 1 : Nat) : Int)), .da (.int a), .da (.int ((10 ^ a.toNat : Nat) : Int)), .da (.int ((10 ^ (-a).toNat : Nat) : Int)), .da (.int fl), g15, g16, .no, .no, .no] ∧ acc3 = L.map (entP wq) ∧ L.length ≤ 2 * i + j ∧ (∀ z ∈ L, Cand lo hi wq k t (m + 1) z) ∧ (2 ≤ i → m + 1 = M0 → (X, E) ∈ L) ∧ (i = 1 → m + 1 = M0 → (X = fl → 1 ≤ j → (X, E) ∈ L) ∧ (X = fl + 1 → 2 ≤ j → (X, E) ∈ L))) (ej_tupD (ad_cons (ej_dat (d := .int fl) 14) (ad_cons (ej_add (ej_dat (d := .int fl) 14) ej_int) ad_nil)) (Nat.le_of_ble_eq_true rfl)) ⟨rfl, L, _, _, rfl, rfl, hLl, hL, hXE, fun _ _ => ⟨fun _ h => absurd h (by decide), fun _ h => absurd h (by decide)⟩⟩ (fun j yb Γ3 B3 acc3 hyb hP => ?_) (fun Γ3 B3 acc3 hP => ?_)
      rotate_left
      · obtain ⟨rfl, L, g15, g16, rfl, rfl, hLl, hL, hXE, hX1⟩ := hP
        refine ow_nil ⟨rfl, L, _, _, _, _, _, _, rfl, rfl, by show L.length ≤ 2 * (i + 1); have : L.length ≤ 2 * i + 2 := hLl; omega, hL, fun h2 hM0 => ?_⟩
        by_cases z : i = 1
        · obtain ⟨_, hx⟩ := hxf z hM0
          rcases hx with h | h
          · exact (hX1 z hM0).1 h (show 1 ≤ 2 by decide)
          · exact (hX1 z hM0).2 h (show 2 ≤ 2 by decide)
        · exact hXE (by omega) hM0
      obtain ⟨rfl, L, g15, g16, rfl, rfl, hLl, hL, hXE, hX1⟩ := hP
      obtain ⟨q, rfl, hq1, hj0, hj1, hj2⟩ : ∃ q : Int, yb = .int q ∧ (q = fl ∨ q = fl + 1) ∧ (j = 0 → q = fl) ∧ (j = 1 → q = fl + 1) ∧ j ≤ 1 := by
        match j, hyb with
        | 0, hy => exact ⟨_, (Option.some.inj hy).symm, .inl rfl, fun _ => rfl, fun z => absurd z (by decide), by decide⟩
        | 1, hy => exact ⟨_, (Option.some.inj hy).symm, .inr rfl, fun z => absurd z (by decide), fun _ => rfl, by decide⟩
      have hsq := hs q
      unfold szP at hsq
      dsimp only at hsq
      have fin : ∀ (L' : List (Int × Int)) (g16 : VD), L'.length ≤ 2 * i + (j + 1) → (∀ z ∈ L', Cand lo hi wq k t (m + 1) z) → (∀ z ∈ L, z ∈ L') → (m + 1 = M0 → i = 1 → X = q → (X, E) ∈ L') → B3 = B3 ∧ ∃ (L : List (Int × Int)) (g15 g16' : VD), [.da (fmP b p low high), .da (Va.num s c e).d, .da (.int s), .da (.int c), .da (.int e), .da (.tuple [ndD x, ndD y, .bool k]), .da (.int (n : Nat)), .da (.int (d : Nat)), .da (.int (t + 1)), .no, .da (.int ((m + 1 : Nat) : Int)), .da (.int a), .da (.int ((10 ^ a.toNat : Nat) : Int)), .da (.int ((10 ^ (-a).toNat : Nat) : Int)), .da (.int fl), .da (.int q), g16, .no, .no, .no] = [.da (fmP b p low high), .da (Va.num s c e).d, .da (.int s), .da (.int c), .da (.int e), .da (.tuple [ndD x, ndD y, .bool k]), .da (.int (n : Nat)), .da (.int (d : Nat)), .da (.int (t + 1)), .no, .da (.int ((m + 1 : Nat) : Int)), .da (.int a), .da (.int ((10 ^ a.toNat : Nat) : Int)), .da (.int ((10 ^ (-a).toNat : Nat) : Int)), .da (.int fl), g15, g16', .no, .no, .no] ∧ L'.map (entP wq) = L.map (entP wq) ∧ L.length ≤ 2 * i + (j + 1) ∧ (∀ z ∈ L, Cand lo hi wq k t (m + 1) z) ∧ (2 ≤ i → m + 1 = M0 → (X, E) ∈ L) ∧ (i = 1 → m + 1 = M0 → (X = fl → 1 ≤ j + 1 → (X, E) ∈ L) ∧ (X = fl + 1 → 2 ≤ j + 1 → (X, E) ∈ L)) := fun L' g16 h1 h2 h3 h4 => by
        refine ⟨rfl, L', _, _, rfl, rfl, h1, h2, fun z1 z2 => h3 _ (hXE z1 z2), fun z1 z2 => ⟨fun z3 _ => ?_, fun z3 _ => ?_⟩⟩
        · by_cases z4 : 1 ≤ j
          · exact h3 _ ((hX1 z1 z2).1 z3 z4)
          · exact h4 z2 z1 (by rw [z3, hj0 (by omega)])
        · by_cases z4 : 2 ≤ j
          · exact h3 _ ((hX1 z1 z2).2 z3 z4)
          · exact h4 z2 z1 (by rw [z3, hj1 (by omega)])
      have hD2 : (0 : Int) < (d : Int) * ((10 ^ (-a).toNat : Nat) : Int) := Int.mul_pos dpos dn0
      by_cases hc : 0 < q ∧ q ≤ ((10 ^ (m + 1) : Nat) : Int)
      · obtain ⟨qp, ql⟩ := hc
        have qb : Bd 5900 q := by unfold Bd at hM ⊢; omega
        have qu := qb.mul up
        have RI := R_inst.mk x y k (q * ((10 ^ a.toNat : Nat) : Int)) ((10 ^ (-a).toNat : Nat) : Int) lo hi ((q : Rat) * pw 10 a) B3 n2.d0 n3.d0 dn0 lv hv hsq (n2.bd.1.le (by decide)) (n2.bd.2.le (by decide)) (n3.bd.1.le (by decide)) (n3.bd.2.le (by decide)) (qu.le (by decide)) (dn.le (by decide))
        refine ow_if (x := inSt lo hi k ((q : Rat) * pw 10 a)) _ (tj_w (wj_and (x := true) (y := inSt lo hi k ((q : Rat) * pw 10 a)) (tj_is (tj_chain ej_int (ej_dat (d := .int q) 15) (ej_call c_l_to (G.le (by decide)) (aj_cons ej_int (aj_cons (ej_dat (d := .int ((m + 1 : Nat) : Int)) 10) aj_nil)) (R_pow.mk 10 (m + 1) B3 (by decide) (by omega))) op_lt op_le rfl rfl) (by rw [decide_eq_true qp, decide_eq_true ql]; rfl)) fun _ => wj_and1 (tj_val (ej_call c_l_is_in (G.le (by decide)) (aj_cons (ej_dat (d := .tuple [ndD x, ndD y, .bool k]) 5) (aj_cons (ej_mul (ej_dat (d := .int q) 15) (ej_dat (d := .int ((10 ^ a.toNat : Nat) : Int)) 12) (cm qb up (by decide))) (aj_cons (ej_dat (d := .int ((10 ^ (-a).toNat : Nat) : Int)) 13) aj_nil))) (RI))))) (fun hin => ?_) (fun hin => ?_) (fun Γ' B' acc' h => ow_nil h)
        · have fz := hfar q
          have av : absQ (((d : Int) * ((10 ^ (-a).toNat : Nat) : Int) : Int) : Rat) = (((d : Int) * ((10 ^ (-a).toNat : Nat) : Int) : Int) : Rat) := by
            have := cast_lt.mpr hD2
            rw [Rat.intCast_zero] at this
            rcases abs_cases (((d : Int) * ((10 ^ (-a).toNat : Nat) : Int) : Int) : Rat) with ⟨_, e⟩ | ⟨p, e⟩
            · exact e
            · exfalso; grind
          rw [av] at fz
          have zb : Bd 11600 (q * ((10 ^ a.toNat : Nat) : Int) * d - n * ((10 ^ (-a).toNat : Nat) : Int)) := (bd_sub1 ((qu.mul d13).le (show _ ≤ 11599 by decide)) ((bn2.mul dn).le (show _ ≤ 11599 by decide)))
          have zf := abs_bd zb
          have dD := (d13.mul dn).le (show _ ≤ 8900 by decide)
          obtain ⟨k1, k2⟩ := rep_bd hD2 fz zf dD
          have f0 : 0 ≤ (if q * ((10 ^ a.toNat : Nat) : Int) * d - n * ((10 ^ (-a).toNat : Nat) : Int) < 0 then -(q * ((10 ^ a.toNat : Nat) : Int) * d - n * ((10 ^ (-a).toNat : Nat) : Int)) else q * ((10 ^ a.toNat : Nat) : Int) * d - n * ((10 ^ (-a).toNat : Nat) : Int)) := by
            generalize q * ((10 ^ a.toNat : Nat) : Int) * d - n * ((10 ^ (-a).toNat : Nat) : Int) = zz
            split <;> omega
          have RF := R_lfrac.mk _ _ _ B3 f0 hD2 fz dD
          refine ow_set 16 (B1 := B3) G.nd (by decide) (ej_abs m_abs (ej_sub (ej_mul (ej_mul (ej_dat (d := .int q) 15) (ej_dat (d := .int ((10 ^ a.toNat : Nat) : Int)) 12) (cm qb up (by decide))) (ej_dat (d := .int (d : Nat)) 7) (cm qu d13 (by decide))) (ej_mul (ej_dat (d := .int (n : Nat)) 6) (ej_dat (d := .int ((10 ^ (-a).toNat : Nat) : Int)) 13) (cm bn2 dn (by decide))))) ?_
          generalize (if q * ((10 ^ a.toNat : Nat) : Int) * d - n * ((10 ^ (-a).toNat : Nat) : Int) < 0 then -(q * ((10 ^ a.toNat : Nat) : Int) * d - n * ((10 ^ (-a).toNat : Nat) : Int)) else q * ((10 ^ a.toNat : Nat) : Int) * d - n * ((10 ^ (-a).toNat : Nat) : Int)) = far at *
          refine ow_app (y := entP wq (q, a)) (B1 := B3) G.nd (ej_tupD (ad_cons (ej_call c_l_fraction (G.le (by decide)) (aj_cons (ej_dat (d := .int far) 16) (aj_cons (ej_mul (ej_dat (d := .int (d : Nat)) 7) (ej_dat (d := .int ((10 ^ (-a).toNat : Nat) : Int)) 13) (cm d13 dn (by decide))) aj_nil)) (RF)) (ad_cons (ej_dat (d := .int q) 15) (ad_cons (ej_dat (d := .int a) 11) ad_nil))) (Nat.le_of_ble_eq_true rfl)) (by rw [List.length_map]; omega) ?_
          rw [show L.map (entP wq) ++ [entP wq (q, a)] = (L ++ [(q, a)]).map (entP wq) by rw [List.map_append]; rfl]
          refine ow_nil (fin (L ++ [(q, a)]) _ (by rw [List.length_append]; show L.length + 1 ≤ _; omega) (fun z hz => ?_) (fun z hz => List.mem_append_left _ hz) (fun h1 h2 h3 => ?_))
          · rcases List.mem_append.mp hz with hz | hz
            · exact hL z hz
            · rw [List.mem_singleton.mp hz]
              exact ⟨qp, ql, hin, cm1 q hq1 ql, by show t - ((m + 1 : Nat) : Int) ≤ a; omega, by show a ≤ t + 2 - ((m + 1 : Nat) : Int); omega, k1.le (by decide), k2.le (by decide)⟩
          · rw [h3, (hxf h2 h1).1.symm]
            exact List.mem_append_right _ (List.mem_singleton.mpr rfl)
        · refine ow_nil (fin L _ (by omega) hL (fun z hz => hz) (fun h1 h2 h3 => ?_))
          exfalso
          rw [h3, (hxf h2 h1).1.symm, hin] at XS
          exact Bool.noConfusion XS
      · have hc' : (decide (0 < q) && decide (q ≤ ((10 ^ (m + 1) : Nat) : Int))) = false := by
          rw [← Bool.decide_and]; exact decide_eq_false hc
        refine ow_if (x := false) _ (tj_w (wj_andF (tj_is (tj_chain ej_int (ej_dat (d := .int q) 15) (ej_call c_l_to (G.le (by decide)) (aj_cons ej_int (aj_cons (ej_dat (d := .int ((m + 1 : Nat) : Int)) 10) aj_nil)) (R_pow.mk 10 (m + 1) B3 (by decide) (by omega))) op_lt op_le rfl rfl) hc'))) (fun h => Bool.noConfusion h) (fun _ => ?_) (fun Γ' B' acc' h => ow_nil h)
        refine ow_nil (fin L _ (by omega) hL (fun z hz => hz) (fun h1 h2 h3 => ?_))
        exfalso
        rw [← h1] at XM
        rw [h3] at X0 XM
        exact hc ⟨X0, XM⟩
    · have hne : L ≠ [] := fun z => by rw [z] at hem; exact Bool.noConfusion hem
      have hm1 : 1 ≤ m := by
        refine Nat.pos_of_ne_zero fun z => hne (hm0 z)
      obtain ⟨z0, L', rfl⟩ : ∃ z0 L', L = z0 :: L' := by
        cases L with
        | nil => exact absurd rfl hne
        | cons z0 L' => exact ⟨z0, L', rfl⟩
      have hMm : m = M0 := by have := Cc.ge hm1 (hL z0 (List.mem_cons_self ..)); omega
      have hX := hXE hMm
      subst hMm
      clear hne hem hXE hm0 hm
      refine ow_end ?_
      show SJ _ [.da (fmP b p low high), .da (Va.num s c e).d, .da (.int s), .da (.int c), .da (.int e), .da (.tuple [ndD x, ndD y, .bool k]), .da (.int (n : Nat)), .da (.int (d : Nat)), .da (.int (t + 1)), .da (.list ((z0 :: L').map (entP wq))), .da (.int (m : Int)), g11, g12, g13, g14, g15, g16, .no, .no, .no] _ _ _
      refine sj_set 17 (d := .da (entP wq z0)) (B1 := B') G.nd (ej_atL (ej_dat (d := .list ((z0 :: L').map (entP wq))) 9) (atI_head rfl)) ?_
      refine sj_forL 18 (ds := cutP ((z0 :: L').map (entP wq)) (some 1) none) (B1 := B') G.nd G.calm (fun i Γ2 B2 => B2 = B' ∧ ∃ (bx : Int × Int) (g18 g19 : VD), Γ2 = [.da (fmP b p low high), .da (Va.num s c e).d, .da (.int s), .da (.int c), .da (.int e), .da (.tuple [ndD x, ndD y, .bool k]), .da (.int (n : Nat)), .da (.int (d : Nat)), .da (.int (t + 1)), .da (.list ((z0 :: L').map (entP wq))), .da (.int (m : Int)), g11, g12, g13, g14, g15, g16, .da (entP wq bx), g18, g19] ∧ bx ∈ z0 :: L' ∧ lexle (dsE wq bx) (vlE bx) (dsE wq z0) (vlE z0) ∧ ∀ (j : Nat) (z : Int × Int), j < i → L'[j]? = some z → lexle (dsE wq bx) (vlE bx) (dsE wq z) (vlE z)) (ej_sliceL (ej_dat (d := .list ((z0 :: L').map (entP wq))) 9) (oj_some ej_int) oj_none) ⟨rfl, z0, _, _, rfl, List.mem_cons_self .., lexle_refl _ _, fun j z h _ => absurd h (Nat.not_lt_zero j)⟩ (fun i ya Γ2 B2 hy hP => ?_) (fun Γ2 B2 hP => ?_)
      · obtain ⟨rfl, bx, g18, g19, rfl, hbx, hb0, hbj⟩ := hP
        rw [cut1_get, List.getElem?_map, List.getElem?_cons_succ] at hy
        obtain ⟨z, hz, rfl⟩ := Option.map_eq_some_iff.mp hy
        have cz := hL z (List.mem_cons_of_mem _ (List.mem_of_getElem? hz))
        have cb := hL bx hbx
        have c1 := crs_lt (den_pos (dsE wq z)) (den_pos (dsE wq bx)) (num_den (dsE wq bx)).symm (num_den (dsE wq z)).symm
        have RC := R_crossW.mk (dsE wq z).num ((dsE wq z).den : Int) (dsE wq bx).num ((dsE wq bx).den : Int) B2 (cz.b1.le (by decide)) (cz.b2.le (by decide)) (cb.b1.le (by decide)) (cb.b2.le (by decide))
        have ok : ∀ u : Int × Int, Cand lo hi wq k t m u → clE u.1 u.2 = u.2 ∧ Bd 5900 u.1 ∧ Bd 60 u.2 ∧ Bd 90000 (szP 10 u.1 u.2).1 ∧ Bd 90000 (szP 10 u.1 u.2).2 := fun u hu => by
          have a1 := hu.a1; have a2 := hu.a2; have q1 := hu.q0; have q2 := hu.qM
          have hMb : Bd 5900 ((10 ^ m : Nat) : Int) := Bd.nat (Nat.lt_of_le_of_lt (Nat.pow_le_pow_right (by decide) (show m ≤ 1705 by omega)) (by decide +kernel))
          have ub : Bd 5900 u.1 := by unfold Bd at hMb ⊢; omega
          have p1 : Bd 1340 ((10 ^ u.2.toNat : Nat) : Int) := Bd.nat (Nat.lt_of_le_of_lt (Nat.pow_le_pow_right (by decide) (show u.2.toNat ≤ 401 by omega)) (by decide +kernel))
          have p2 : Bd 4339 ((10 ^ (-u.2).toNat : Nat) : Int) := Bd.nat (Nat.lt_of_le_of_lt (Nat.pow_le_pow_right (by decide) (show (-u.2).toNat ≤ 1306 by omega)) (by decide +kernel))
          exact ⟨cl_id (by omega) (by omega), ub, Bd.le (n := 20) (by unfold Bd; omega) (by decide), (ub.mul p1).le (by decide), p2.le (by decide)⟩
        obtain ⟨ez, ub1, ub2, ub3, ub4⟩ := ok z cz
        obtain ⟨eb, vb1, vb2, vb3, vb4⟩ := ok bx cb
        have RD1 := R_dsize.mk z.1 z.2 B2 (Int.le_of_lt cz.q0) ub1 ub2
        have RD2 := R_dsize.mk bx.1 bx.2 B2 (Int.le_of_lt cb.q0) vb1 vb2
        rw [ez] at RD1
        rw [eb] at RD2
        have c2 := (crs_lt (sz_pos (b := 10) (by decide) z.1 z.2) (sz_pos (b := 10) (by decide) bx.1 bx.2) (sz_val (b := 10) (by decide) bx.1 bx.2) (sz_val (b := 10) (by decide) z.1 z.2)).1
        have RC2 := R_crossW.mk (szP 10 z.1 z.2).1 (szP 10 z.1 z.2).2 (szP 10 bx.1 bx.2).1 (szP 10 bx.1 bx.2).2 B2 ub3 ub4 vb3 vb4
        have pk := pick_dec c1 c2
        refine sj_set 19 (B1 := B2) G.nd (ej_call c_l_compared_x (G.le (by decide)) (aj_cons (ej_at (y := fq (dsE wq z)) (ej_dat (d := entP wq z) 18)) (aj_cons (ej_at (y := fq (dsE wq bx)) (ej_dat (d := entP wq bx) 17)) aj_nil)) (RC)) ?_
        generalize (dsE wq z).num * ((dsE wq bx).den : Int) - (dsE wq bx).num * ((dsE wq z).den : Int) = mo at *
        generalize hm2 : (szP 10 z.1 z.2).1 * (szP 10 bx.1 bx.2).2 - (szP 10 bx.1 bx.2).1 * (szP 10 z.1 z.2).2 = mo2 at *
        refine sj_when (x := decide (dsE wq z < dsE wq bx ∨ (dsE wq z = dsE wq bx ∧ (z.1 : Rat) * pw 10 z.2 < (bx.1 : Rat) * pw 10 bx.2))) (B1 := B2) (tj_is (tj_w (wj_or (x := decide (mo < 0)) (y := decide (mo = 0) && decide (mo2 < 0)) (tj_lt (ej_dat (d := .int mo) 19) ej_int) fun _ => wj_or1 (tj_w (wj_and (tj_eqI G.hu (ej_dat (d := .int mo) 19) ej_int) fun _ => wj_and1 (tj_lt (ej_call c_l_compared_x (G.le (by decide)) (aj_cons (ej_call c_l_decimal_size (G.le (by decide)) (aj_cons (ej_at (y := .int z.1) (ej_dat (d := entP wq z) 18)) (aj_cons (ej_at (y := .int z.2) (ej_dat (d := entP wq z) 18)) aj_nil)) (RD1)) (aj_cons (ej_call c_l_decimal_size (G.le (by decide)) (aj_cons (ej_at (y := .int bx.1) (ej_dat (d := entP wq bx) 17)) (aj_cons (ej_at (y := .int bx.2) (ej_dat (d := entP wq bx) 17)) aj_nil)) (RD2)) aj_nil)) (RC2)) ej_int))))) pk) (fun h => ?_) (fun h => ?_)
        · have lx := lexle_of (of_decide_eq_true h)
          refine sj_set 17 (d := .da (entP wq z)) (B1 := B2) G.nd (ej_dat (d := entP wq z) 18) (sj_nil (sj_nil ⟨rfl, z, _, _, rfl, List.mem_cons_of_mem _ (List.mem_of_getElem? hz), lexle_trans lx hb0, fun j z' hj hz' => ?_⟩))
          rcases Nat.lt_or_ge j i with hlt | hge
          · exact lexle_trans lx (hbj j z' hlt hz')
          · obtain rfl : j = i := by omega
            rw [hz] at hz'
            obtain rfl := Option.some.inj hz'
            exact lexle_refl _ _
        · have lx := lexle_not (of_decide_eq_false h)
          refine sj_nil ⟨rfl, bx, _, _, rfl, hbx, hb0, fun j z' hj hz' => ?_⟩
          rcases Nat.lt_or_ge j i with hlt | hge
          · exact hbj j z' hlt hz'
          · obtain rfl : j = i := by omega
            rw [hz] at hz'
            obtain rfl := Option.some.inj hz'
            exact lx
      · obtain ⟨rfl, bx, g18, g19, rfl, hbx, hb0, hbj⟩ := hP
        rw [cut1] at hbj
        have cb := hL bx hbx
        have hlx : lexle (dsE wq bx) (vlE bx) (dsE wq (X, E)) (vlE (X, E)) := by
          rcases List.mem_cons.mp hX with h | h
          · rw [h]; exact hb0
          · obtain ⟨j, hj⟩ := List.getElem?_of_mem h
            refine hbj j _ ?_ hj
            have := (List.getElem?_eq_some_iff.mp hj).1
            rw [List.length_drop, List.length_map, List.length_cons]; omega
        have ev := Cc.best cb hlx
        have q0' := cb.q0
        refine sj_ret (ej_call c_l_trimmed (G.le (by decide)) (aj_cons (ej_is (y := dcD s bx.1.toNat bx.2) (ej_tupD (ad_cons (ej_dat (d := .int s) 2) (ad_cons (ej_at (y := .int bx.1) (ej_dat (d := entP wq bx) 17)) (ad_cons (ej_at (y := .int bx.2) (ej_dat (d := entP wq bx) 17)) ad_nil))) (Nat.le_of_ble_eq_true rfl)) (by unfold dcD; rw [show ((bx.1.toNat : Nat) : Int) = bx.1 by omega])) aj_nil) (R_ltrim.mk s bx.1.toNat bx.2 B2 (by omega))) ⟨trP_eq (by omega) (by omega) ?_, rfl⟩
        unfold vlE at ev
        dsimp only at ev
        rw [← Rat.intCast_natCast, ← Rat.intCast_natCast, show ((bx.1.toNat : Nat) : Int) = bx.1 by omega, show ((X.toNat : Nat) : Int) = X by omega]
        exact ev

abbrev s_law : Stmt := topS 66
theorem sc_law : FnScope ["_law_script", "_law_bag_here", "_law_turn", "_law_form", "_law_zero", "_law_number_here", "_law_due"] ["_law_script"] (defScope s_law) := ⟨rfl, rfl, rfl, by decide +kernel, rfl, by decide +kernel, by decide +kernel⟩

theorem ok_law {f : Addr} {fd : FuncData} /-H-/ (m_range : mg "range" = none) (c_l_take : Cal P w K mg base "_law_take" 4 R_take) (c_l_shortest : Cal P w K mg base "_law_shortest" 9 R_lshort) (c_shortest : Cal P w K mg base "shortest" 11 R_short) (c_shortest_x : Cal P w K mg base "shortest" 11 R_shortZ) (c_is_shortest : Cal P w K mg base "is_shortest" 13 R_isshort) (c_read_decimal : Cal P w K mg base "read_decimal" 8 R_read) (c_l_bag : Cal P w K mg base "_law_bag" 4 R_bag) (c_l_format : CalX P w K mg base "_law_format" 6 Pre_cpl Post_tfr) (c_l_some : Cal P w K mg base "_law_some" 5 R_some) (c_l_number_c : CalX P w K mg base "_law_number" 7 Pre_tn Post_tnC) (c_l_alike : Cal P w K mg base "_law_alike" 4 R_alikeX) /-E-/
    (F : Fun K "law" "law" s_law f fd) : FnG P w K mg base 15 f fd ["_law_script"] (spLaw K) := by
  refine fnG_of F sc_law (by rintro vs H Q E ⟨a, ns, rfl, _⟩; rfl) fun cd0 A out s H vs Q E G hsp => ?_
  obtain ⟨a, ns, rfl, hS, hlen, q⟩ := hsp
  have Ev : EnvD K none H (L2.start ["_law_script", "_law_bag_here", "_law_turn", "_law_form", "_law_zero", "_law_number_here", "_law_due"] [.ref a]) ([.scr ns] ++ List.replicate (7 - 1) .no) := start_env (Γ := [.scr ns]) ⟨⟨a, rfl, hS⟩, trivial⟩ (Nat.le_of_ble_eq_true rfl)
  have O : On K none ⟨0, 0, 0, []⟩ H H := ⟨Same.refl _, fun _ _ z => nomatch z⟩
  refine sj_law 1 G.nd (y := 1234567891) (ns := (ns.take 63).map absI) (ej_call c_l_bag (G.le (by decide)) (aj_cons (ej_var 0 (d := .scr ns) rfl (fun z => nomatch z)) aj_nil) (R_bag.mk ns _ hlen)) ?_ (Ev := Ev) (O := O) (q := q)
  generalize hB0 : (⟨0, 1234567891, 0, (ns.take 63).map absI⟩ : Bag) = B0
  have okB : Bok B0 := by rw [← hB0]; show ((ns.take 63).map absI).length ≤ 63; rw [List.length_map, List.length_take]; omega
  clear hB0
  refine sj_forR 2 (n := 8) (B1 := B0) G.nd G.calm m_range (fun _ Γ' B' => Bok B' ∧ ∃ g2 g3 g4 g5 g6, Γ' = [.no, .bag, g2, g3, g4, g5, g6]) ej_int (by decide) ⟨okB, _, _, _, _, _, rfl⟩ (fun tn Γ' B' htn hP => ?_) (fun Γ' B' hP => ?_)
  rotate_left
  · obtain ⟨_, g2, g3, g4, g5, g6, rfl⟩ := hP
    exact sj_ret ej_bl rfl
  obtain ⟨ok1, g2, g3, g4, g5, g6, rfl⟩ := hP
  refine sj_setX 3 G.nd (ex_call c_l_format (G.le (by decide)) (ax_bag 1 (ax_nil ⟨⟨rfl, ok1⟩, fun r1 B1 hp1 => ?_⟩)))
  obtain ⟨ok2, b, p, low, high, rfl, Fm⟩ := hp1
  have b2 := Fm.D.b2; have p2 := Fm.D.p2
  obtain ⟨z, B2, rz, z0, z1, ok3⟩ := tk_ex ok2 2 (by decide) (by decide)
  refine sj_set 4 (d := .da (Va.num z 0 low).d) (B1 := B2) G.nd (ej_tupD (ad_cons ej_str (ad_cons (ej_call c_l_take (G.le (by decide)) (aj_cons (ej_bag 1) (aj_cons ej_int aj_nil)) (rz)) (ad_cons ej_int (ad_cons (ej_at (y := .int low) (ej_dat (d := fmP b p low high) 3)) ad_nil)))) (Nat.le_of_ble_eq_true rfl)) ?_
  refine sj_setX 5 G.nd (ex_mono (Φ := fun y B4 => Bok B4 ∧ ∃ s c e : Int, y = (Va.num s c e).d ∧ (NumC b p low high s c e ∨ ((s = 0 ∨ s = 1) ∧ c = 0 ∧ e = low))) (ex_callD c_l_some (G.le (by decide)) (ax_bag 1 (ax_one (ex_catL (ex_repLn (k := 5) (ex_lst (ax_one (ex_call c_l_number_c (G.le (by decide)) (ax_bag 1 (ax_aj (aj_cons (ej_dat (d := fmP b p low high) 3) aj_nil) ⟨⟨b, p, low, high, rfl, Fm.D, ok3⟩, fun r B4 hr => ?_⟩))))) (by decide)))))) ?_)
  · obtain ⟨ok4, hr⟩ := hr
    obtain ⟨s, c, e, rfl, hn⟩ := hr b p low high rfl
    refine ⟨_, rfl, Nat.le_of_ble_eq_true rfl, ex_ej ej_int ⟨[(Va.num s c e).d], rfl, rfl, Nat.le_of_ble_eq_true rfl, ex_ej (y := .list [(Va.num z 0 low).d]) (ej_lstD (ad_cons (ej_dat (d := (Va.num z 0 low).d) 4) ad_nil) (Nat.le_of_ble_eq_true rfl)) ⟨(List.replicate 5 [(Va.num s c e).d]).flatten, [(Va.num z 0 low).d], rfl, rfl, Nat.le_of_ble_eq_true rfl, ?_⟩⟩⟩
    obtain ⟨x, hx, B5, rs, ok5⟩ := sm_ex ([(s, c, e), (s, c, e), (s, c, e), (s, c, e), (s, c, e), (z, 0, low)] : List (Int × Int × Int)) (fun t => (Va.num t.1 t.2.1 t.2.2).d) (Nat.le_of_ble_eq_true rfl) ok4 (Nat.zero_lt_succ _)
    refine ⟨_, B5, rs, ok5, x.1, x.2.1, x.2.2, rfl, ?_⟩
    simp only [List.mem_cons, List.not_mem_nil, or_false] at hx
    rcases hx with rfl | rfl | rfl | rfl | rfl | rfl
    · exact .inl hn
    · exact .inl hn
    · exact .inl hn
    · exact .inl hn
    · exact .inl hn
    · exact .inr ⟨by omega, rfl, rfl⟩
  rintro y B4 ⟨ok4, s, c, e, rfl, hn⟩
  show SJ _ [.no, .bag, .da (.int (tn : Nat)), .da (fmP b p low high), .da (Va.num z 0 low).d, .da (Va.num s c e).d, g6] _ _ _
  obtain ⟨m, F1, s01, mb, fb, hd1, hd2, hd3⟩ : ∃ (m : Nat) (F1 : Int), (s = 0 ∨ s = 1) ∧ Bd 5900 (m : Int) ∧ Bd 60 F1 ∧ R_lshort [.da (fmP b p low high), .da (Va.num s c e).d] B4 (dcD s m F1) B4 ∧ (R_short [.da (fmP b p low high), .da (Va.num s c e).d] B4 (dcD s m F1) B4 ∨ R_shortZ [.da (fmP b p low high), .da (Va.num s c e).d] B4 (dcD s m F1) B4) ∧ rdV b p low high "even" (dqQ s m F1) s = .num s c e := by
    rcases hn with N | ⟨hs, rfl, rfl⟩
    · obtain ⟨G1, hG, hG1, g1, g2⟩ := st_great Fm N (decide (c % 2 = 0))
      have RS := R_short.mk b p low high s c e G1 B4 Fm N hG hG1
      have RL := R_lshort.mk b p low high s c e G1 B4 Fm N hG hG1 (by omega) (by omega)
      obtain ⟨x0, sx, few, xb, e1, e2⟩ := sh_spec Fm N hG hG1
      generalize (shX (stLo b p low c e) (stHi b c e) ((c : Rat) * pw b e) (decide (c % 2 = 0)) (shE ((c : Rat) * pw b e) G1)).toNat = X1 at *
      generalize shE ((c : Rat) * pw b e) G1 = E1 at *
      obtain ⟨M1, F1, ht1, M0, hv1, Mb, Fb, hM, hMM⟩ := tr_val (s := s) x0 xb e1 e2
      rw [ht1] at RS RL
      rw [← hv1] at sx
      refine ⟨M1, F1, N.D.1, Mb, Fb, RL, .inl RS, ?_⟩
      have h := back_iff (cd := (M1 : Int)) (ed := F1) Fm N (Int.natCast_nonneg _)
      rw [Rat.intCast_natCast, sx, Bool.and_true] at h
      exact of_decide_eq_true (h.trans (decide_eq_true (by omega)))
    · refine ⟨0, 0, hs, by unfold Bd; decide, by unfold Bd; decide, R_lshort.zero b p e high s B4, .inr (R_shortZ.mk b p e high s B4), ?_⟩
      rw [show (((0 : Nat) : Int)) = 0 from rfl, dq_zero, unN_rdV, if_pos rfl, show absQ 0 = 0 by decide +kernel]
      have h1 : unN b p e "even" s 0 = (0, e) := by
        unfold unN
        rw [eQ_of b2 (isE_zero b2 e), (cQ_zero b e).1]
        have hp : pt (rQ b e 0) (Dq b e 0) = 0 := pt_zero.mpr (cQ_zero b e).2
        rw [hp, show outw "even" s 0 0 = false by unfold outw; rw [if_pos (.inl rfl)]]
        rfl
      rw [h1, if_neg (show ¬ high < e by have := Fm.D.lh; omega)]
  refine sj_set 6 (d := .da (dcD s m F1)) (B1 := B4) G.nd (ej_call c_l_shortest (G.le (by decide)) (aj_cons (ej_dat (d := fmP b p low high) 3) (aj_cons (ej_dat (d := (Va.num s c e).d) 5) aj_nil)) (hd1)) ?_
  have RI := R_isshort.mk b p low high s (Va.num s c e).d m F1 B4 s01 hd2
  have dn : NdB 2 40 (dcD s m F1) := (NdB.tuple (NdBA.cons (NdB.int (n := 60) (by unfold Bd; omega) (by decide)) (NdBA.cons (NdB.int mb (by decide)) (NdBA.cons (NdB.int fb (by decide)) (NdBA.nil (W := 0)))))).le (Nat.le_refl _) (by decide)
  have okd : OkB (.list [dcD s m F1, .bool true]) := (NdB.list (D := 2) (NdBA.cons dn (NdBA.cons ((bool_nd _).b.le (by decide) (Nat.le_refl _)) (NdBA.nil (W := 0))))).okb
  refine sj_when (x := false) (B1 := B4) (tj_is (tj_not (x := true) (tj_val (ej_call c_l_alike (G.le (by decide)) (aj_cons (d := .da (.list [dcD s m F1, .bool true])) (ej_lst (ds := [dcD s m F1, .bool true]) (aj_cons (hd2.elim (fun hd2 => (ej_call c_shortest (G.le (by decide)) (aj_cons (ej_dat (d := fmP b p low high) 3) (aj_cons (ej_dat (d := (Va.num s c e).d) 5) aj_nil)) (hd2))) (fun hd2 => (ej_call c_shortest_x (G.le (by decide)) (aj_cons (ej_dat (d := fmP b p low high) 3) (aj_cons (ej_dat (d := (Va.num s c e).d) 5) aj_nil)) (hd2)))) (aj_cons (ej_call c_is_shortest (G.le (by decide)) (aj_cons (ej_dat (d := fmP b p low high) 3) (aj_cons (ej_dat (d := (Va.num s c e).d) 5) (aj_cons (ej_dat (d := dcD s m F1) 6) aj_nil))) (RI)) aj_nil)) (Nat.le_of_ble_eq_true rfl)) (aj_cons (ej_lstD (ad_cons (ej_dat (d := dcD s m F1) 6) (ad_cons ej_bl ad_nil)) (Nat.le_of_ble_eq_true rfl)) aj_nil)) (R_alikeX.mk _ B4 okd (.inl rfl))))) rfl) (fun h => Bool.noConfusion h) (fun _ => ?_)
  have RD := R_read.mk b p low high "even" s m F1 B4 Fm (by decide) s01 (Int.natCast_nonneg _) (mb.le (by decide)) fb
  rw [rdP_eq, hd3] at RD
  generalize words (rdF b p low high "even" (dqQ s m F1) s) = ws at *
  refine sj_when (x := false) (tj_is (tj_ne G.hu (ej_at (y := (Va.num s c e).d) (ej_call c_read_decimal (G.le (by decide)) (aj_cons (ej_dat (d := fmP b p low high) 3) (aj_cons ej_str (aj_cons (ej_dat (d := dcD s m F1) 6) aj_nil))) (RD))) (ej_dat (d := (Va.num s c e).d) 5) (sh_va _).shaped (sh_va _).shaped) (by rw [eqv_refl_of (sh_va _).shaped]; rfl)) (fun h => Bool.noConfusion h) (fun _ => ?_)
  exact sj_nil ⟨ok4, _, _, _, _, _, rfl⟩

end K38
namespace Gd
open PySem PySem.Spec PyProof.Rows L2
theorem bltB_ok {K : PySem.W.Frag} {h : Heap} {mg : Str → Option Value} {x : Str} {b : String} (X : K.In h) (G : h.Ns mainGlobals mg) (c : bltB K x b = true) : mg x = some (.builtin b) :=
  PySem.W.mg_of X G (He.eqO_ok c)
theorem ckM_blt {gl : List (Str × PyData)} {bl : List (Str × String)} {K : PySem.W.Frag} {h : Heap} {mg : Str → Option Value} {x : Str} {b : String} (X : K.In h) (G : h.Ns mainGlobals mg) (c : ckM gl bl K = true) (i : Nat) (e : bl[i]? = some (x, b)) : mg x = some (.builtin b) := by
  have c' : (gl.all (fun p => globB K p.1 p.2) && bl.all (fun p => bltB K p.1 p.2)) = true := c
  rw [Bool.and_eq_true] at c'
  exact bltB_ok X G (List.all_eq_true.1 c'.2 _ (List.mem_of_getElem? e))
theorem obM_eq {fa : List He.Fa} {fn : List He.DefD} {ck : PySem.W.Frag → Bool} (s : PySem.W.SharedT) : obM fa fn ck s = (hkM fa fn ck).obs s.abs := by
  have e : HandSHeadRun.getT s = s.abs.heap.get? := funext (HandSHeadRun.getT_eq s)
  unfold obM hkM
  rw [e]
theorem defD_at {K : PySem.W.Frag} {h : Heap} {mg : Str → Option Value} {fa : List He.Fa} {fn : List He.DefD} (X : K.In h) (G : h.Ns mainGlobals mg) (c : He.SaysD fa fn K) {y x : Str} {st : Stmt} (i : Nat) (e : fn[i]? = some (dfD y x st)) (ef : fa[i]? = some (.glo y)) :
    ∃ (f : Addr) (oc : Value) (od an : Option Addr) (osl : Array (Option Value)) (kV doc pm cdv ct : Value), PySem.W.nsIn K mainGlobals y = some (some (.ref f)) ∧
      K.lookup f = some ⟨oc, od, .func (PySem.W.fnOf x x (defArgs st) (defBody st) (defScope st) .none kV doc pm an cdv ct), osl⟩ ∧ PySem.W.codeIn K cdv x = true ∧ PySem.W.keepIn K (.ref f) = true := by
  have g := He.eqO_ok (c.fact i (f := .glo y) ef)
  obtain ⟨fd, ⟨oc, od, dV, kV, doc, pm, an, cdv, ct, osl, e1, e2, e3, e4, e5⟩, kp⟩ := c.def_ i (d := dfD y x st) e
  have d0 : dV = .none := by
    rcases e4 with ⟨_, z⟩ | ⟨z, _⟩
    · exact z
    · exact absurd rfl z
  subst d0 e1
  exact ⟨_, oc, od, an, osl, kV, doc, pm, cdv, ct, g, e2, e3, kp⟩
theorem at_mkH {K : PySem.W.Frag} {h : Heap} {mg : Str → Option Value} {fa : List He.Fa} {fn : List He.DefD} {x : Str} {st : Stmt} (ps : List Str) (X : K.In h) (G : h.Ns mainGlobals mg) (c : He.SaysD fa fn K) (i : Nat) (e : fn[i]? = some (dfD x x st)) (ef : fa[i]? = some (.glo x))
    (b : ∀ (kV doc pm : Value) (an : Option Addr) (cdv ct : Value) (us : List Value), us.length = ps.length → bindArgs (PySem.W.fnOf x x (defArgs st) (defBody st) (defScope st) .none kV doc pm an cdv ct) ⟨us, []⟩ = pure (ps.zip us)) :
    At K mg x st ps :=
  let ⟨_, _, _, _, _, _, _, _, _, _, a, l, d, k⟩ := defD_at X G c i e ef
  at_mk ps X G a l d k b
theorem law_mkHD {P : Program} {w : World} {K : PySem.W.Frag} {h : Heap} {mg : Str → Option Value} {fas : List He.Fa} {fn : List He.DefD} {st : Stmt} {fa : Addr} {n : Nat}
    (X : K.In h) (G : h.Ns mainGlobals mg) (hfa : mg "law" = some (.ref fa)) (c : He.SaysD fas fn K) (i : Nat) (e : fn[i]? = some (dfD "law" "law" st)) (ef : fas[i]? = some (.glo "law"))
    (b : ∀ (kV doc pm : Value) (an : Option Addr) (cdv ct : Value) (s : Shared) (v : Value), BindsTo s (PySem.W.fnOf "law" "law" (defArgs st) (defBody st) (defScope st) .none kV doc pm an cdv ct) ⟨[v], []⟩ [("_law_script", v)])
    (H : ∀ (base : Heap) (f : Addr) (fd : FuncData), base.NoDigits → Fun K "law" "law" st f fd → FnG P w K mg base n f fd ["_law_script"] (spLaw K)) :
    ∃ fd : FuncData, (∀ (s : Shared) (v : Value), BindsTo s fd ⟨[v], []⟩ [("_law_script", v)]) ∧ ∀ base : Heap, K.In base → base.Ns mainGlobals mg → base.NoDigits → FnG P w K mg base n fa fd ["_law_script"] (spLaw K) :=
  let ⟨_, _, _, _, _, _, _, _, _, _, a, l, d, k⟩ := defD_at X G c i e ef
  law_mkD X G hfa a l d k (fun s v => b _ _ _ _ _ _ s v) H
theorem walk_ofDH {l : PySem.W.OpenLaw} {k : Nat} {q : Program} {loose : List Str} {XP : (Str → Option Value) → Heap → Prop} {d : DefRec} {fas : List He.Fa} {fn : List He.DefD} {ck : PySem.W.Frag → Bool} {x : Str}
    (hn : l.most = some 63) (hdf : d.params.defaults = []) (hr : Room k callerA)
    (F : ∀ (w : World) (K : PySem.W.Frag) (mg : Str → Option Value) (fa : Addr) (h : Heap), K.In h → h.Ns mainGlobals mg → mg d.name = some (.ref fa) → He.SaysD fas fn K → ck K = true →
      ∃ fd : FuncData, (∀ (s : Shared) (u : Value), BindsTo s fd ⟨[u], []⟩ [(x, u)]) ∧ ∀ base : Heap, K.In base → base.Ns mainGlobals mg → base.NoDigits → FnG l.prog w K mg base k fa fd [x] (spLaw K)) :
    PySem.W.WalkO q loose XP (hkM fas fn ck).says l.row.toRowW d [] fun f vs => PySem.call f vs := by
  refine Att.attach_call hn hdf fun w sw sx mg mb fa o pm cd doc a vs ns G Y ho hd hcd hmg hobj hints hlen hg => ?_
  obtain ⟨K, KI, c1, c2⟩ := Y
  have ⟨fd, hb, hF⟩ := F w K mg fa _ KI G.T.g hmg c1 c2
  exact law_callD KI G.T.g G.T.b G.T.builtins G.T.nolimit G.T.nodigits hg hobj hints (Nat.le_trans hlen (by decide)) hr hF hb fun H hS => ⟨a, ns, rfl, hS, hlen, fun _ => rfl⟩
end Gd
namespace Gd
open PySem PySem.Spec PyProof.Rows
theorem endG_ok {M : Nat} {p : Program} {w : World} {s0 : Shared} {s : PySem.W.SharedT} (h : endG (PySem.W.stepT (denote treeTable) p w) M p s0 = some s) :
    PySem.W.topRun treeTable p w s0.heap.objs.size (s0.heap.nsMap mainGlobals (Str.ofString "__annotations__")) M s0 (PySem.W.topStub p) = some s.abs := by
  unfold endG at h
  split at h
  · rename_i t n e
    rw [HandSHeadRun.frNat_eq] at h
    have q := HandSHeadRun.goF_ok h
    have eh := HandSHeadRun.putAll_heap e
    have en : s0.heap.objs.size = n := by rw [← eh]; exact PySem.W.absHeap_size _ _ _
    rw [en]
    have eb : (PySem.W.SharedT.mk t n s0.heap.life s0.gens s0.drawn s0.toks s0.os).abs = s0 := by
      unfold PySem.W.SharedT.abs
      rw [eh]
    rw [eb] at q
    exact q
  · cases h
theorem endG_eq (M : Nat) (p : Program) (w : World) (s0 : Shared) : endG (PySem.W.stepT (denote treeTable) p w) M p s0 = endG (HandSHeadRun.stepQ (HandSHeadRun.denQ HandSHeadRun.tabQ) p w) M p s0 := by
  rw [HandSHeadRun.stepQ_eq, HandSHeadRun.denQ_eq, HandSHeadRun.tabQ_eq]
theorem goI_ok {tb : String → Option Builtin} {p : Program} {w : World} : ∀ (m : Nat) (s s' : PySem.W.SharedT) (t : Thread), goI (PySem.W.stepT (denote tb) p w) m s t = some s' → importEnds tb p w m s.abs t = some s'.abs
  | 0, _, _, _, h => by cases h
  | m + 1, s, s', t, h => by
    unfold goI at h
    unfold importEnds
    split at h
    · rename_i e
      rw [e]
      cases h
      rfl
    · cases h
    · rename_i e
      rw [e]
      split at h
      · rename_i s2 t2 e2
        rw [HandSHeadRun.frS_eq] at h
        have q := PySem.W.stepT_spec e2
        show (match step (denote tb) p w s.abs t with | .go s' t' => importEnds tb p w m s' t' | .halt _ _ => none) = _
        rw [q]
        exact goI_ok m _ _ _ h
      · cases h
theorem openI_ok {N : Nat} {p : Program} {w : World} {s0 : Shared} (h : openI (PySem.W.stepT (denote treeTable) (PySem.W.opening p) w) N p = some s0) : PySem.W.fencedOpening treeTable p w N = some s0 := by
  obtain ⟨s, a, b⟩ := Option.bind_eq_some_iff.mp h
  have q := goI_ok _ _ _ _ a
  unfold PySem.W.fencedOpening
  have e : (PySem.W.SharedT.mk PySem.W.BT.nil 0 {} #[] {} 1 (start (PySem.W.opening p)).1.os).abs = (start (PySem.W.opening p)).1 := by
    unfold PySem.W.SharedT.abs PySem.start
    simp only [HandSHeadRun.abs_nil]
  rw [e] at q
  rw [q]
  exact b
theorem left_two {r : PySem.W.OpenRow} {q : Program} {H : PySem.W.Hook} {ob : PySem.W.SharedT → H.α} {N M : Nat} {loose : List Str} (ho : ∀ s, ob s = H.obs s.abs) (le : M ≤ N) (runA : ∀ w, RunA r q N M loose w) (runB : ∀ w, RunB r H ob N M w) :
    PySem.W.LeftO r.prog q loose (fun s => PySem.W.xlAt q [] s && PySem.W.recOk r.records s) (fun s => H.obs s) H.val N := fun w => by
  obtain ⟨⟨s0, s⟩, hr, hv⟩ := Option.map_eq_some_iff.mp (runA w)
  have l3 : ob s = H.val w := by
    have z := runB w
    unfold RunB at z
    rw [hr] at z
    injection z
  obtain ⟨l1, l2⟩ : ((s0.heap.isNs mainGlobals && s0.gens.size == 0) && HandSHeadRun.looksF r.prog s0.heap s.abs) = true ∧ HandSHeadRun.seenQ q loose (importedModules r.prog.main.body) (fun s => PySem.W.xlAt q [] s && PySem.W.recOk r.records s) s.abs = PySem.W.openGood q loose := by
    injection hv with h1 h2
    exact ⟨h1, h2⟩
  unfold runI at hr
  obtain ⟨s0', a, b⟩ := Option.bind_eq_some_iff.mp hr
  obtain ⟨s', hs, hz⟩ := Option.map_eq_some_iff.mp b
  cases hz
  rw [← endG_eq] at hs
  have a' : openI (PySem.W.stepT (denote treeTable) (PySem.W.opening r.prog) w) N r.prog = some s0 := by
    rw [HandSHeadRun.stepQ_eq, HandSHeadRun.denQ_eq, HandSHeadRun.tabQ_eq]
    exact a
  have a := openI_ok a'
  have t0 := endG_ok hs
  have t1 := PySem.W.topRun_mono (N - M) M _ _ _ t0
  rw [show M + (N - M) = N by omega] at t1
  rw [Bool.and_eq_true] at l1
  have l1' : (PySem.W.staticsOk (importedModules r.prog.main.body) s0.heap s.abs.heap && PySem.W.namesBound r.prog s.abs.heap && PySem.W.gensDone s.abs && PySem.W.laidKept s0.heap s.abs.heap) = true := l1.2
  have tt : PySem.W.topFrom treeTable r.prog w N s0 = some s.abs := by
    unfold PySem.W.topFrom
    rw [l1.1]
    show (PySem.W.topRun _ _ _ _ _ _ _ _).bind _ = _
    rw [t1]
    show (match _ with | true => _ | false => _) = _
    rw [l1']
  show Option.map _ (PySem.W.openEnds treeTable r.prog w N) = _
  unfold PySem.W.openEnds
  rw [a]
  show Option.map _ (PySem.W.topFrom treeTable r.prog w N s0) = _
  rw [tt]
  show some (PySem.W.openSeen q loose _ _ true s.abs, H.obs s.abs) = _
  rw [HandSHeadRun.seenQ_eq, l2, ← ho s, l3]
theorem head_two {r : PySem.W.OpenRow} {q : Program} {H : PySem.W.Hook} {ob : PySem.W.SharedT → H.α} {N M : Nat} {loose : List Str} {d : DefRec} {kwd : List (Str × Expr)} (ho : ∀ s, ob s = H.obs s.abs) (le : M ≤ N) (runA : ∀ w, RunA r q N M loose w) (runB : ∀ w, RunB r H ob N M w)
    (hdef : PySem.W.defOf q r.name = some (d, kwd)) (hp : r.prog.theDef r.name = some (d.params, d.body, d.scope)) (hk : PySem.W.kwWritten? d.params.kwonlyargs d.params.kw_defaults = some kwd)
    (hwr : (!r.writes || List.isEmpty r.records) = true) (k1 : r.wellSaid = true) (ok : (PySem.W.chainsOk q && PySem.W.opensWell r.prog && (PySem.W.frees r.toRowW && r.within.isEmpty)) = true) (hb : r.prog.bare) (hw : r.promised)
    (call : PySem.W.WalkO q loose (PySem.W.XL q []) H.says r.toRowW d kwd fun f vs => PySem.call f vs) : r.Holds :=
  PySem.W.holds_open (left_two ho le runA runB) H.of H.keeps (fun s z => PySem.W.xl_of s (Bool.and_eq_true_iff.mp z).left) PySem.W.XL.keeps hdef hp hk
    (fun s z => PySem.W.recFacts_of (Bool.and_eq_true_iff.mp z).right) hwr k1 ok hb hw call
end Gd
namespace Gd
open PySem PySem.Spec PyProof.Rows L2
end Gd
namespace K38
open PySem PySem.Spec PyProof.Rows L2 Gd Lw K38H
theorem all_mk {w : World} {K : PySem.W.Frag} {h : Heap} {mg : Str → Option Value} {fa : Addr} (X : K.In h) (G : h.Ns mainGlobals mg) (hfa : mg "law" = some (.ref fa)) (c : He.SaysD fas fn K) (kk : ck K = true) :
    ∃ fd : FuncData, (∀ (s : Shared) (v : Value), BindsTo s fd ⟨[v], []⟩ [("_law_script", v)]) ∧ ∀ base : Heap, K.In base → base.Ns mainGlobals mg → base.NoDigits → FnG PySem.Challenge.pw_nearestheld_k38_shortest_decimals w K mg base 15 fa fd ["_law_script"] (spLaw K) := by
  have T_integer_power : At K mg "integer_power" s_integer_power ["base", "e"] := at_mkH ["base", "e"] X G c 0 rfl rfl (fun _ _ _ _ _ _ us hl => match us, hl with | [_, _], _ => rfl)
  have T_is_integer : At K mg "is_integer" s_is_integer ["thing"] := at_mkH ["thing"] X G c 1 rfl rfl (fun _ _ _ _ _ _ us hl => match us, hl with | [_], _ => rfl)
  have T_reduced : At K mg "reduced" s_reduced ["n", "d"] := at_mkH ["n", "d"] X G c 2 rfl rfl (fun _ _ _ _ _ _ us hl => match us, hl with | [_, _], _ => rfl)
  have T_added : At K mg "added" s_added ["one", "other"] := at_mkH ["one", "other"] X G c 3 rfl rfl (fun _ _ _ _ _ _ us hl => match us, hl with | [_, _], _ => rfl)
  have T_lessened : At K mg "lessened" s_lessened ["one", "other"] := at_mkH ["one", "other"] X G c 4 rfl rfl (fun _ _ _ _ _ _ us hl => match us, hl with | [_, _], _ => rfl)
  have T_times : At K mg "times" s_times ["one", "other"] := at_mkH ["one", "other"] X G c 5 rfl rfl (fun _ _ _ _ _ _ us hl => match us, hl with | [_, _], _ => rfl)
  have T_over : At K mg "over" s_over ["one", "other"] := at_mkH ["one", "other"] X G c 6 rfl rfl (fun _ _ _ _ _ _ us hl => match us, hl with | [_, _], _ => rfl)
  have T_size_of : At K mg "size_of" s_size_of ["one"] := at_mkH ["one"] X G c 7 rfl rfl (fun _ _ _ _ _ _ us hl => match us, hl with | [_], _ => rfl)
  have T_power_of : At K mg "power_of" s_power_of ["base", "e"] := at_mkH ["base", "e"] X G c 8 rfl rfl (fun _ _ _ _ _ _ us hl => match us, hl with | [_, _], _ => rfl)
  have T_compared : At K mg "compared" s_compared ["one", "other"] := at_mkH ["one", "other"] X G c 9 rfl rfl (fun _ _ _ _ _ _ us hl => match us, hl with | [_, _], _ => rfl)
  have T_floor_of : At K mg "floor_of" s_floor_of ["one"] := at_mkH ["one"] X G c 10 rfl rfl (fun _ _ _ _ _ _ us hl => match us, hl with | [_], _ => rfl)
  have T_ceiling_of : At K mg "ceiling_of" s_ceiling_of ["one"] := at_mkH ["one"] X G c 11 rfl rfl (fun _ _ _ _ _ _ us hl => match us, hl with | [_], _ => rfl)
  have T_sign_of_fraction : At K mg "sign_of_fraction" s_sign_of_fraction ["one"] := at_mkH ["one"] X G c 12 rfl rfl (fun _ _ _ _ _ _ us hl => match us, hl with | [_], _ => rfl)
  have T_part_of : At K mg "part_of" s_part_of ["left", "whole"] := at_mkH ["left", "whole"] X G c 13 rfl rfl (fun _ _ _ _ _ _ us hl => match us, hl with | [_, _], _ => rfl)
  have T_is_taken_outward : At K mg "is_taken_outward" s_is_taken_outward ["way", "s", "c", "part"] := at_mkH ["way", "s", "c", "part"] X G c 14 rfl rfl (fun _ _ _ _ _ _ us hl => match us, hl with | [_, _, _, _], _ => rfl)
  have T_power_below : At K mg "power_below" s_power_below ["base", "one"] := at_mkH ["base", "one"] X G c 15 rfl rfl (fun _ _ _ _ _ _ us hl => match us, hl with | [_, _], _ => rfl)
  have T_u_power_within : At K mg "_power_within" s_u_power_within ["base", "whole"] := at_mkH ["base", "whole"] X G c 16 rfl rfl (fun _ _ _ _ _ _ us hl => match us, hl with | [_, _], _ => rfl)
  have T_u_twos_in : At K mg "_twos_in" s_u_twos_in ["n"] := at_mkH ["n"] X G c 17 rfl rfl (fun _ _ _ _ _ _ us hl => match us, hl with | [_], _ => rfl)
  have T_is_decimal : At K mg "is_decimal" s_is_decimal ["thing"] := at_mkH ["thing"] X G c 18 rfl rfl (fun _ _ _ _ _ _ us hl => match us, hl with | [_], _ => rfl)
  have T_decimal_worth : At K mg "decimal_worth" s_decimal_worth ["decimal"] := at_mkH ["decimal"] X G c 19 rfl rfl (fun _ _ _ _ _ _ us hl => match us, hl with | [_], _ => rfl)
  have T_trimmed : At K mg "trimmed" s_trimmed ["decimal"] := at_mkH ["decimal"] X G c 20 rfl rfl (fun _ _ _ _ _ _ us hl => match us, hl with | [_], _ => rfl)
  have T_worth : At K mg "worth" s_worth ["form", "number"] := at_mkH ["form", "number"] X G c 21 rfl rfl (fun _ _ _ _ _ _ us hl => match us, hl with | [_, _], _ => rfl)
  have T_zero : At K mg "zero" s_zero ["form", "s"] := at_mkH ["form", "s"] X G c 22 rfl rfl (fun _ _ _ _ _ _ us hl => match us, hl with | [_, _], _ => rfl)
  have T_is_finite : At K mg "is_finite" s_is_finite ["value"] := at_mkH ["value"] X G c 23 rfl rfl (fun _ _ _ _ _ _ us hl => match us, hl with | [_], _ => rfl)
  have T_is_zero : At K mg "is_zero" s_is_zero ["value"] := at_mkH ["value"] X G c 24 rfl rfl (fun _ _ _ _ _ _ us hl => match us, hl with | [_], _ => rfl)
  have T_stretch_of : At K mg "stretch_of" s_stretch_of ["form", "number"] := at_mkH ["form", "number"] X G c 25 rfl rfl (fun _ _ _ _ _ _ us hl => match us, hl with | [_, _], _ => rfl)
  have T_shortest : At K mg "shortest" s_shortest ["form", "number"] := at_mkH ["form", "number"] X G c 26 rfl rfl (fun _ _ _ _ _ _ us hl => match us, hl with | [_, _], _ => rfl)
  have T_is_shortest : At K mg "is_shortest" s_is_shortest ["form", "number", "thing"] := at_mkH ["form", "number", "thing"] X G c 27 rfl rfl (fun _ _ _ _ _ _ us hl => match us, hl with | [_, _, _], _ => rfl)
  have T_u_multiples_in : At K mg "_multiples_in" s_u_multiples_in ["stretch", "e"] := at_mkH ["stretch", "e"] X G c 28 rfl rfl (fun _ _ _ _ _ _ us hl => match us, hl with | [_, _], _ => rfl)
  have T_u_greatest_place : At K mg "_greatest_place" s_u_greatest_place ["stretch"] := at_mkH ["stretch"] X G c 29 rfl rfl (fun _ _ _ _ _ _ us hl => match us, hl with | [_], _ => rfl)
  have T_u_has_multiple : At K mg "_has_multiple" s_u_has_multiple ["stretch", "e"] := at_mkH ["stretch", "e"] X G c 30 rfl rfl (fun _ _ _ _ _ _ us hl => match us, hl with | [_, _], _ => rfl)
  have T_rounded : At K mg "rounded" s_rounded ["form", "way", "x", "s"] := at_mkH ["form", "way", "x", "s"] X G c 31 rfl rfl (fun _ _ _ _ _ _ us hl => match us, hl with | [_, _, _, _], _ => rfl)
  have T_u_spot : At K mg "_spot" s_u_spot ["form", "unsigned"] := at_mkH ["form", "unsigned"] X G c 32 rfl rfl (fun _ _ _ _ _ _ us hl => match us, hl with | [_, _], _ => rfl)
  have T_u_nearest : At K mg "_nearest" s_u_nearest ["form", "way", "s", "spot"] := at_mkH ["form", "way", "s", "spot"] X G c 33 rfl rfl (fun _ _ _ _ _ _ us hl => match us, hl with | [_, _, _, _], _ => rfl)
  have T_u_outcome : At K mg "_outcome" s_u_outcome ["form", "way", "s", "spot"] := at_mkH ["form", "way", "s", "spot"] X G c 34 rfl rfl (fun _ _ _ _ _ _ us hl => match us, hl with | [_, _, _, _], _ => rfl)
  have T_u_too_great : At K mg "_too_great" s_u_too_great ["form", "way", "s"] := at_mkH ["form", "way", "s"] X G c 35 rfl rfl (fun _ _ _ _ _ _ us hl => match us, hl with | [_, _, _], _ => rfl)
  have T_read_decimal : At K mg "read_decimal" s_read_decimal ["form", "way", "decimal"] := at_mkH ["form", "way", "decimal"] X G c 36 rfl rfl (fun _ _ _ _ _ _ us hl => match us, hl with | [_, _, _], _ => rfl)
  have T_l_bag : At K mg "_law_bag" s_l_bag ["_law_script"] := at_mkH ["_law_script"] X G c 37 rfl rfl (fun _ _ _ _ _ _ us hl => match us, hl with | [_], _ => rfl)
  have T_l_take : At K mg "_law_take" s_l_take ["_law_bag_here", "_law_many"] := at_mkH ["_law_bag_here", "_law_many"] X G c 38 rfl rfl (fun _ _ _ _ _ _ us hl => match us, hl with | [_, _], _ => rfl)
  have T_l_some : At K mg "_law_some" s_l_some ["_law_bag_here", "_law_things"] := at_mkH ["_law_bag_here", "_law_things"] X G c 39 rfl rfl (fun _ _ _ _ _ _ us hl => match us, hl with | [_, _], _ => rfl)
  have T_l_alike : At K mg "_law_alike" s_l_alike ["_law_found", "_law_due"] := at_mkH ["_law_found", "_law_due"] X G c 40 rfl rfl (fun _ _ _ _ _ _ us hl => match us, hl with | [_, _], _ => rfl)
  have T_l_format : At K mg "_law_format" s_l_format ["_law_bag_here"] := at_mkH ["_law_bag_here"] X G c 41 rfl rfl (fun _ _ _ _ _ _ us hl => match us, hl with | [_], _ => rfl)
  have T_l_to : At K mg "_law_to" s_l_to ["_law_base", "_law_n"] := at_mkH ["_law_base", "_law_n"] X G c 42 rfl rfl (fun _ _ _ _ _ _ us hl => match us, hl with | [_, _], _ => rfl)
  have T_l_power : At K mg "_law_power" s_l_power ["_law_base", "_law_e"] := at_mkH ["_law_base", "_law_e"] X G c 43 rfl rfl (fun _ _ _ _ _ _ us hl => match us, hl with | [_, _], _ => rfl)
  have T_l_size : At K mg "_law_size" s_l_size ["_law_form", "_law_c_here", "_law_e"] := at_mkH ["_law_form", "_law_c_here", "_law_e"] X G c 44 rfl rfl (fun _ _ _ _ _ _ us hl => match us, hl with | [_, _, _], _ => rfl)
  have T_l_c : At K mg "_law_c" s_l_c ["_law_bag_here", "_law_form", "_law_e"] := at_mkH ["_law_bag_here", "_law_form", "_law_e"] X G c 45 rfl rfl (fun _ _ _ _ _ _ us hl => match us, hl with | [_, _, _], _ => rfl)
  have T_l_number : At K mg "_law_number" s_l_number ["_law_bag_here", "_law_form"] := at_mkH ["_law_bag_here", "_law_form"] X G c 46 rfl rfl (fun _ _ _ _ _ _ us hl => match us, hl with | [_, _], _ => rfl)
  have T_l_next : At K mg "_law_next" s_l_next ["_law_form", "_law_c_here", "_law_e"] := at_mkH ["_law_form", "_law_c_here", "_law_e"] X G c 47 rfl rfl (fun _ _ _ _ _ _ us hl => match us, hl with | [_, _, _], _ => rfl)
  have T_l_compared : At K mg "_law_compared" s_l_compared ["_law_one", "_law_other"] := at_mkH ["_law_one", "_law_other"] X G c 48 rfl rfl (fun _ _ _ _ _ _ us hl => match us, hl with | [_, _], _ => rfl)
  have T_l_decimal_size : At K mg "_law_decimal_size" s_l_decimal_size ["_law_c_here", "_law_e"] := at_mkH ["_law_c_here", "_law_e"] X G c 49 rfl rfl (fun _ _ _ _ _ _ us hl => match us, hl with | [_, _], _ => rfl)
  have T_l_ends : At K mg "_law_ends" s_l_ends ["_law_form", "_law_c_here", "_law_e"] := at_mkH ["_law_form", "_law_c_here", "_law_e"] X G c 50 rfl rfl (fun _ _ _ _ _ _ us hl => match us, hl with | [_, _, _], _ => rfl)
  have T_l_is_in : At K mg "_law_is_in" s_l_is_in ["_law_ends_here", "_law_n", "_law_d"] := at_mkH ["_law_ends_here", "_law_n", "_law_d"] X G c 51 rfl rfl (fun _ _ _ _ _ _ us hl => match us, hl with | [_, _, _], _ => rfl)
  have T_l_gcd : At K mg "_law_gcd" s_l_gcd ["_law_one", "_law_other"] := at_mkH ["_law_one", "_law_other"] X G c 52 rfl rfl (fun _ _ _ _ _ _ us hl => match us, hl with | [_, _], _ => rfl)
  have T_l_fraction : At K mg "_law_fraction" s_l_fraction ["_law_n", "_law_d"] := at_mkH ["_law_n", "_law_d"] X G c 53 rfl rfl (fun _ _ _ _ _ _ us hl => match us, hl with | [_, _], _ => rfl)
  have T_l_trimmed : At K mg "_law_trimmed" s_l_trimmed ["_law_decimal"] := at_mkH ["_law_decimal"] X G c 54 rfl rfl (fun _ _ _ _ _ _ us hl => match us, hl with | [_], _ => rfl)
  have T_l_top : At K mg "_law_top" s_l_top ["_law_n", "_law_d"] := at_mkH ["_law_n", "_law_d"] X G c 55 rfl rfl (fun _ _ _ _ _ _ us hl => match us, hl with | [_, _], _ => rfl)
  have T_l_shortest : At K mg "_law_shortest" s_l_shortest ["_law_form", "_law_number_here"] := at_mkH ["_law_form", "_law_number_here"] X G c 56 rfl rfl (fun _ _ _ _ _ _ us hl => match us, hl with | [_, _], _ => rfl)
  have m_abs : mg "abs" = none := He.free_ok X G (c.fact 58 (f := .free "abs") rfl)
  have m_all : mg "all" = none := He.free_ok X G (c.fact 59 (f := .free "all") rfl)
  have m_bool : mg "bool" = none := He.free_ok X G (c.fact 60 (f := .free "bool") rfl)
  have m_divmod : mg "divmod" = none := He.free_ok X G (c.fact 61 (f := .free "divmod") rfl)
  have m_int : mg "int" = none := He.free_ok X G (c.fact 62 (f := .free "int") rfl)
  have m_isinstance : mg "isinstance" = none := He.free_ok X G (c.fact 63 (f := .free "isinstance") rfl)
  have m_len : mg "len" = none := He.free_ok X G (c.fact 64 (f := .free "len") rfl)
  have m_max : mg "max" = none := He.free_ok X G (c.fact 65 (f := .free "max") rfl)
  have m_min : mg "min" = none := He.free_ok X G (c.fact 66 (f := .free "min") rfl)
  have m_range : mg "range" = none := He.free_ok X G (c.fact 67 (f := .free "range") rfl)
  have m_repr : mg "repr" = none := He.free_ok X G (c.fact 68 (f := .free "repr") rfl)
  have m_rev : mg "reversed" = none := He.free_ok X G (c.fact 69 (f := .free "reversed") rfl)
  have m_str : mg "str" = none := He.free_ok X G (c.fact 70 (f := .free "str") rfl)
  have m_tuple : mg "tuple" = none := He.free_ok X G (c.fact 71 (f := .free "tuple") rfl)
  have m_gcd : mg "gcd" = some (.builtin "math.gcd") := ckM_blt X G kk 0 rfl
  refine law_mkHD (st := s_law) (n := 15) X G hfa c 57 rfl rfl (fun _ _ _ _ _ _ _ _ => .of_eq rfl) (fun base f fd nd F => ?_)
  have c_l_take := c_of_l_take (P := PySem.Challenge.pw_nearestheld_k38_shortest_decimals) (w := w) (base := base) m_int T_l_take
  have c_l_to := c_of_l_to (P := PySem.Challenge.pw_nearestheld_k38_shortest_decimals) (w := w) (base := base) m_int T_l_to
  have c_l_power := c_of_l_power (P := PySem.Challenge.pw_nearestheld_k38_shortest_decimals) (w := w) (base := base) c_l_to T_l_power
  have c_l_size := c_of_l_size (P := PySem.Challenge.pw_nearestheld_k38_shortest_decimals) (w := w) (base := base) c_l_power T_l_size
  have c_l_next := c_of_l_next (P := PySem.Challenge.pw_nearestheld_k38_shortest_decimals) (w := w) (base := base) c_l_to T_l_next
  have c_l_ends := c_of_l_ends (P := PySem.Challenge.pw_nearestheld_k38_shortest_decimals) (w := w) (base := base) m_int m_int c_l_to c_l_size c_l_next T_l_ends
  have c_l_compared := c_of_l_compared (P := PySem.Challenge.pw_nearestheld_k38_shortest_decimals) (w := w) (base := base) T_l_compared
  have c_l_top := c_of_l_top (P := PySem.Challenge.pw_nearestheld_k38_shortest_decimals) (w := w) (base := base) nd m_len m_str c_l_compared c_l_power T_l_top
  have c_l_compared_x := c_of_l_compared_x (P := PySem.Challenge.pw_nearestheld_k38_shortest_decimals) (w := w) (base := base) T_l_compared
  have c_l_is_in := c_of_l_is_in (P := PySem.Challenge.pw_nearestheld_k38_shortest_decimals) (w := w) (base := base) c_l_compared_x T_l_is_in
  have c_l_gcd := c_of_l_gcd (P := PySem.Challenge.pw_nearestheld_k38_shortest_decimals) (w := w) (base := base) m_int T_l_gcd
  have c_l_fraction := c_of_l_fraction (P := PySem.Challenge.pw_nearestheld_k38_shortest_decimals) (w := w) (base := base) m_int m_int m_abs c_l_gcd T_l_fraction
  have c_l_decimal_size := c_of_l_decimal_size (P := PySem.Challenge.pw_nearestheld_k38_shortest_decimals) (w := w) (base := base) nd m_min m_max m_len m_str c_l_power T_l_decimal_size
  have c_l_trimmed := c_of_l_trimmed (P := PySem.Challenge.pw_nearestheld_k38_shortest_decimals) (w := w) (base := base) m_int T_l_trimmed
  have c_l_shortest := c_of_l_shortest (P := PySem.Challenge.pw_nearestheld_k38_shortest_decimals) (w := w) (base := base) m_abs c_l_ends c_l_size c_l_top c_l_power c_l_to c_l_is_in c_l_fraction c_l_compared_x c_l_decimal_size c_l_trimmed T_l_shortest
  have c_is_finite := c_of_is_finite (P := PySem.Challenge.pw_nearestheld_k38_shortest_decimals) (w := w) (base := base) T_is_finite
  have c_is_zero := c_of_is_zero (P := PySem.Challenge.pw_nearestheld_k38_shortest_decimals) (w := w) (base := base) c_is_finite T_is_zero
  have c_size_of := c_of_size_of (P := PySem.Challenge.pw_nearestheld_k38_shortest_decimals) (w := w) (base := base) m_abs T_size_of
  have c_u_twos_in := c_of_u_twos_in (P := PySem.Challenge.pw_nearestheld_k38_shortest_decimals) (w := w) (base := base) T_u_twos_in
  have c_reduced := c_of_reduced (P := PySem.Challenge.pw_nearestheld_k38_shortest_decimals) (w := w) (base := base) m_gcd m_min c_u_twos_in T_reduced
  have c_times := c_of_times (P := PySem.Challenge.pw_nearestheld_k38_shortest_decimals) (w := w) (base := base) c_reduced T_times
  have c_integer_power := c_of_integer_power (P := PySem.Challenge.pw_nearestheld_k38_shortest_decimals) (w := w) (base := base) T_integer_power
  have c_power_of := c_of_power_of (P := PySem.Challenge.pw_nearestheld_k38_shortest_decimals) (w := w) (base := base) c_integer_power T_power_of
  have c_worth := c_of_worth (P := PySem.Challenge.pw_nearestheld_k38_shortest_decimals) (w := w) (base := base) c_times c_power_of T_worth
  have c_added := c_of_added (P := PySem.Challenge.pw_nearestheld_k38_shortest_decimals) (w := w) (base := base) m_gcd c_reduced T_added
  have c_lessened := c_of_lessened (P := PySem.Challenge.pw_nearestheld_k38_shortest_decimals) (w := w) (base := base) c_added T_lessened
  have c_stretch_of := c_of_stretch_of (P := PySem.Challenge.pw_nearestheld_k38_shortest_decimals) (w := w) (base := base) c_size_of c_worth c_times c_power_of c_lessened c_added c_integer_power T_stretch_of
  have c_u_power_within := c_of_u_power_within (P := PySem.Challenge.pw_nearestheld_k38_shortest_decimals) (w := w) (base := base) m_rev T_u_power_within
  have c_power_below := c_of_power_below (P := PySem.Challenge.pw_nearestheld_k38_shortest_decimals) (w := w) (base := base) c_u_power_within T_power_below
  have c_over := c_of_over (P := PySem.Challenge.pw_nearestheld_k38_shortest_decimals) (w := w) (base := base) c_times T_over
  have c_ceiling_of := c_of_ceiling_of (P := PySem.Challenge.pw_nearestheld_k38_shortest_decimals) (w := w) (base := base) T_ceiling_of
  have c_floor_of := c_of_floor_of (P := PySem.Challenge.pw_nearestheld_k38_shortest_decimals) (w := w) (base := base) T_floor_of
  have c_u_multiples_in := c_of_u_multiples_in (P := PySem.Challenge.pw_nearestheld_k38_shortest_decimals) (w := w) (base := base) c_power_of c_over c_ceiling_of c_floor_of T_u_multiples_in
  have c_u_has_multiple := c_of_u_has_multiple (P := PySem.Challenge.pw_nearestheld_k38_shortest_decimals) (w := w) (base := base) c_u_multiples_in T_u_has_multiple
  have c_u_greatest_place := c_of_u_greatest_place (P := PySem.Challenge.pw_nearestheld_k38_shortest_decimals) (w := w) (base := base) c_power_below c_lessened c_u_has_multiple T_u_greatest_place
  have c_trimmed := c_of_trimmed (P := PySem.Challenge.pw_nearestheld_k38_shortest_decimals) (w := w) (base := base) T_trimmed
  have c_compared := c_of_compared (P := PySem.Challenge.pw_nearestheld_k38_shortest_decimals) (w := w) (base := base) T_compared
  have c_shortest := c_of_shortest (P := PySem.Challenge.pw_nearestheld_k38_shortest_decimals) (w := w) (base := base) m_min m_max c_is_zero c_stretch_of c_size_of c_worth c_u_greatest_place c_u_multiples_in c_ceiling_of c_lessened c_over c_power_of c_trimmed c_compared T_shortest
  have c_shortest_x := c_of_shortest_x (P := PySem.Challenge.pw_nearestheld_k38_shortest_decimals) (w := w) (base := base) c_is_zero T_shortest
  have c_is_integer := c_of_is_integer (P := PySem.Challenge.pw_nearestheld_k38_shortest_decimals) (w := w) (base := base) m_isinstance m_int m_bool T_is_integer
  have c_is_decimal := c_of_is_decimal (P := PySem.Challenge.pw_nearestheld_k38_shortest_decimals) (w := w) (base := base) m_isinstance m_tuple m_len m_all c_is_integer T_is_decimal
  have c_is_shortest := c_of_is_shortest (P := PySem.Challenge.pw_nearestheld_k38_shortest_decimals) (w := w) (base := base) c_is_decimal c_shortest c_shortest_x T_is_shortest
  have c_zero := c_of_zero (P := PySem.Challenge.pw_nearestheld_k38_shortest_decimals) (w := w) (base := base) T_zero
  have c_is_taken_outward := c_of_is_taken_outward (P := PySem.Challenge.pw_nearestheld_k38_shortest_decimals) (w := w) (base := base) T_is_taken_outward
  have c_u_nearest := c_of_u_nearest (P := PySem.Challenge.pw_nearestheld_k38_shortest_decimals) (w := w) (base := base) c_is_taken_outward c_integer_power T_u_nearest
  have c_u_too_great := c_of_u_too_great (P := PySem.Challenge.pw_nearestheld_k38_shortest_decimals) (w := w) (base := base) c_integer_power T_u_too_great
  have c_u_outcome := c_of_u_outcome (P := PySem.Challenge.pw_nearestheld_k38_shortest_decimals) (w := w) (base := base) c_u_nearest c_u_too_great c_integer_power T_u_outcome
  have c_sign_of_fraction := c_of_sign_of_fraction (P := PySem.Challenge.pw_nearestheld_k38_shortest_decimals) (w := w) (base := base) T_sign_of_fraction
  have c_part_of := c_of_part_of (P := PySem.Challenge.pw_nearestheld_k38_shortest_decimals) (w := w) (base := base) T_part_of
  have c_u_spot := c_of_u_spot (P := PySem.Challenge.pw_nearestheld_k38_shortest_decimals) (w := w) (base := base) m_max m_divmod c_power_below c_power_of c_part_of T_u_spot
  have c_rounded := c_of_rounded (P := PySem.Challenge.pw_nearestheld_k38_shortest_decimals) (w := w) (base := base) c_zero c_u_outcome c_sign_of_fraction c_u_spot c_size_of T_rounded
  have c_decimal_worth := c_of_decimal_worth (P := PySem.Challenge.pw_nearestheld_k38_shortest_decimals) (w := w) (base := base) c_times c_power_of T_decimal_worth
  have c_read_decimal := c_of_read_decimal (P := PySem.Challenge.pw_nearestheld_k38_shortest_decimals) (w := w) (base := base) m_abs c_zero c_power_below c_rounded c_decimal_worth T_read_decimal
  have c_l_bag := c_of_l_bag (P := PySem.Challenge.pw_nearestheld_k38_shortest_decimals) (w := w) (base := base) m_abs T_l_bag
  have c_l_some := c_of_l_some (P := PySem.Challenge.pw_nearestheld_k38_shortest_decimals) (w := w) (base := base) m_len c_l_take T_l_some
  have c_l_format := c_of_l_format (P := PySem.Challenge.pw_nearestheld_k38_shortest_decimals) (w := w) (base := base) c_l_take c_l_some T_l_format
  have c_l_c_c := c_of_l_c_c (P := PySem.Challenge.pw_nearestheld_k38_shortest_decimals) (w := w) (base := base) m_max m_min c_l_to c_l_take c_l_some T_l_c
  have c_l_number_c := c_of_l_number_c (P := PySem.Challenge.pw_nearestheld_k38_shortest_decimals) (w := w) (base := base) m_max m_min c_l_take c_l_some c_l_c_c T_l_number
  have c_l_alike := c_of_l_alike (P := PySem.Challenge.pw_nearestheld_k38_shortest_decimals) (w := w) (base := base) nd m_repr T_l_alike
  exact ok_law m_range c_l_take c_l_shortest c_shortest c_shortest_x c_is_shortest c_read_decimal c_l_bag c_l_format c_l_some c_l_number_c c_l_alike F
end K38
open PySem PySem.W PySem.Calls PyProof.Rows
set_option maxRecDepth 100000 in
set_option maxHeartbeats 0 in
theorem PySem.Challenge.cw_nearestheld_k38_shortest_decimals_holds : PySem.Challenge.rw_nearestheld_k38_shortest_decimals.Holds := by
  w_on; o_law
  refine Gd.head_two (r := OpenLaw.row PySem.Challenge.rw_nearestheld_k38_shortest_decimals) (q := view (OpenLaw.row PySem.Challenge.rw_nearestheld_k38_shortest_decimals).prog [66]) (H := Gd.hkM K38H.fas K38H.fn K38H.ck) (ob := Gd.obM K38H.fas K38H.fn K38H.ck) (N := 8000) (M := 8000) (loose := K38H.loose) (d := HandSHeadRun.topDef (OpenLaw.row PySem.Challenge.rw_nearestheld_k38_shortest_decimals).prog 66) (kwd := []) Gd.obM_eq (Nat.le_refl _)
    K38H.runA K38H.runB K38H.hdefT K38H.hpT K38H.hkT (by rfl) (by first | assumption | decide +kernel) K38H.okT K38H.hbT ?hw ?hc
  case hw => w_witness2
  case hc =>
    refine Gd.walk_ofDH (l := PySem.Challenge.rw_nearestheld_k38_shortest_decimals) (k := 15) (x := "_law_script") (ck := K38H.ck) (fas := K38H.fas) (fn := K38H.fn) rfl rfl ⟨rfl, by decide, by decide⟩ ?F
    intro w K mg fa h KX G hmg c kk
    have hl : mg ("law" : PySem.Str) = some (.ref fa) := by
      have e : (HandSHeadRun.topDef (OpenLaw.row PySem.Challenge.rw_nearestheld_k38_shortest_decimals).prog 66).name = ("law" : PySem.Str) := K38H.nameT
      rw [← e]
      exact hmg
    exact K38.all_mk KX G hl c kk
