import PyProof.Rows.All
import Wide.All
import OpenK.AllK
import Wide.FinOn
import HandS.ForMost
import HandS.Head0
import HandS.Head1
import HandS.Head2
import HandS.HeadEnd
import HandS.HeadHook1
import HandS.HeadHook2
import HandS.Wide
import HandS.WideBits
import HandS.Gcd
import HandS.TupAny
import HandS.Flow
import HandS.Set
import HandS.SetFor
import HandS.Strs
import HandS.Rev
import HandS.Style
import HandS.TryOnly
import HandS.RaiseMore
import HandS.Deep
import HandS.TupMul
import HandS.Flt
import HandS.Zip
import HandS.IsInst
import HandS.Dict
import KE.KBits
import KE.DataMinMax
import HandS.SortKw
import HandS.More
import KE.GoesEnum
import HandS.Walk
import PyProof.ToksMono
import KE.DataMinKey
import KE.KMathG
import Flt.RightSqrt
import HandS.TupLe
import HandS.Comp
import HandS.CallLocal
import PyProof.AutoSeq1
import HandS.Star
import HandS.IterVal
import HandS.Conv
import KE.KRevSl
import HandS.DictTup
import HandS.Text
import KE.KDictDisplayH
import PyProof.TupleOfSeq
import KE.SortData
import KE.SortKeyHeap
import KE.KSortKey
import HandS.List
import PyProof.Rows.StrOr
import PySem.Challenge.RW_nearestheld_k42_told_digits_and_places
set_option Elab.async false
set_option linter.all false
set_option maxRecDepth 100000
set_option maxHeartbeats 4000001
namespace Gd
open PySem PySem.Spec PyProof.Rows L2
def repAll (f : Value → PyData → Bool) : List Value → List PyData → Bool
  | [], [] => true
  | v :: vs, d :: ds => f v d && repAll f vs ds
  | _, _ => false
def repB (K : PySem.W.Frag) : Nat → Value → PyData → Bool
  | 0, _, _ => false
  | n + 1, .str y _, .str x => decide (y = x)
  | n + 1, .int j _, .int i => decide (j = i)
  | n + 1, .ref a, .tuple ds => match K.lookup a with
    | some ⟨c, _, .seq its _, _⟩ => decide (c = .type "tuple") && (Nat.ble its.size 60 && repAll (repB K n) its.toList ds)
    | _ => false
  | _ + 1, _, _ => false
def globB (K : PySem.W.Frag) (x : Str) (d : PyData) : Bool := match PySem.W.nsIn K mainGlobals x with
  | some (some v) => repB K 5 v d
  | _ => false
def bltB (K : PySem.W.Frag) (x : Str) (b : String) : Bool := He.eqO (PySem.W.nsIn K mainGlobals x) (some (some (.builtin b)))
def ckM (gl : List (Str × PyData)) (bl : List (Str × String)) (K : PySem.W.Frag) : Bool := gl.all (fun p => globB K p.1 p.2) && bl.all (fun p => bltB K p.1 p.2)
def refsAt (g : Addr → Option Obj) (a : Addr) : List Addr := match g a with
  | some o => He.refsO o
  | none => []
def asM (g : Addr → Option Obj) : List Addr := sysModules :: mainGlobals :: (refsAt g mainGlobals ++ (refsAt g mainGlobals).flatMap (refsAt g))
def hkM (fa : List He.Fa) (fn : List He.DefD) (ck : PySem.W.Frag → Bool) : PySem.W.Hook where
  α := He.AlD × Bool
  obs s := (fun K => (He.obsD fa fn K, ck K)) (He.frG s.heap.get? (asM s.heap.get?))
  val _ := (He.valD fn, true)
  says _ h := ∃ K : PySem.W.Frag, K.In h ∧ He.SaysD fa fn K ∧ ck K = true
  of w s h := ⟨_, He.frG_in, congrArg Prod.fst h, congrArg Prod.snd h⟩
  keeps w h h' := fun ⟨K, k, a, b⟩ up => ⟨K, fun x o e => up x o (k x o e), a, b⟩
def obM (fa : List He.Fa) (fn : List He.DefD) (ck : PySem.W.Frag → Bool) (s : PySem.W.SharedT) : He.AlD × Bool :=
  (fun K => (He.obsD fa fn K, ck K)) (He.frG (HandSHeadRun.getT s) (asM (HandSHeadRun.getT s)))
abbrev dfD (y x : Str) (st : Stmt) : He.DefD := ⟨(y, .none), x, x, defArgs st, defBody st, defScope st, [], []⟩
noncomputable def endG (st : PySem.W.SharedT → Thread → Option (PySem.W.SharedT × Thread)) (M : Nat) (p : Program) (s0 : Shared) : Option PySem.W.SharedT :=
  match HandSHeadRun.putAll s0.heap.objs.toList PySem.W.BT.nil 0 with
  | some (t, n) => HandSHeadRun.frNat n fun n0 => HandSHeadRun.goF st n0 (s0.heap.nsMap mainGlobals (Str.ofString "__annotations__")) M ⟨t, n0, s0.heap.life, s0.gens, s0.drawn, s0.toks, s0.os⟩ (PySem.W.topStub p)
  | none => none
def goI (st : PySem.W.SharedT → Thread → Option (PySem.W.SharedT × Thread)) : Nat → PySem.W.SharedT → Thread → Option PySem.W.SharedT
  | 0, _, _ => none
  | m + 1, s, t => match t.atExitBegin with
    | some [] => some s
    | some (_ :: _) => none
    | none => match st s t with
      | some (s', t') => HandSHeadRun.frS s' fun s' => goI st m s' t'
      | none => none
noncomputable def openI (st : PySem.W.SharedT → Thread → Option (PySem.W.SharedT × Thread)) (N : Nat) (p : Program) : Option Shared :=
  (goI st N ⟨PySem.W.BT.nil, 0, {}, #[], {}, 1, (start (PySem.W.opening p)).1.os⟩ (start (PySem.W.opening p)).2).bind fun s => fenceModules? p s.abs
noncomputable def runI (p : Program) (w : World) (N M : Nat) : Option (Shared × PySem.W.SharedT) :=
  (openI (HandSHeadRun.stepQ (HandSHeadRun.denQ HandSHeadRun.tabQ) (PySem.W.opening p) w) N p).bind fun s0 => (endG (HandSHeadRun.stepQ (HandSHeadRun.denQ HandSHeadRun.tabQ) p w) M p s0).map fun s => (s0, s)
def RunA (r : PySem.W.OpenRow) (q : Program) (N M : Nat) (loose : List Str) (w : World) : Prop :=
  (runI r.prog w N M).map (fun s => ((s.1.heap.isNs mainGlobals && s.1.gens.size == 0) && HandSHeadRun.looksF r.prog s.1.heap s.2.abs, HandSHeadRun.seenQ q loose (importedModules r.prog.main.body) (fun s => PySem.W.xlAt q [] s && PySem.W.recOk r.records s) s.2.abs)) = some (true, PySem.W.openGood q loose)
def RunB (r : PySem.W.OpenRow) (H : PySem.W.Hook) (ob : PySem.W.SharedT → H.α) (N M : Nat) (w : World) : Prop :=
  (runI r.prog w N M).map (fun s => ob s.2) = some (H.val w)
end Gd
namespace K42H
open PySem PySem.Spec PyProof.Rows L2 Gd
def topH (i : Nat) : Stmt := PySem.Challenge.pw_nearestheld_k42_told_digits_and_places.main.body.getD i (.Pass ⟨0, 0, 0, 0⟩)
def fn0 : List He.DefD := [dfD "integer_power" "integer_power" (topH 2), dfD "reduced" "reduced" (topH 4), dfD "times" "times" (topH 5), dfD "over" "over" (topH 6), dfD "size_of" "size_of" (topH 7), dfD "power_of" "power_of" (topH 8), dfD "nearest_integer" "nearest_integer" (topH 9), dfD "sign_of_fraction" "sign_of_fraction" (topH 10), dfD "part_of" "part_of" (topH 11), dfD "is_taken_outward" "is_taken_outward" (topH 12), dfD "power_below" "power_below" (topH 13), dfD "_power_within" "_power_within" (topH 14), dfD "_twos_in" "_twos_in" (topH 15), dfD "worth" "worth" (topH 17), dfD "is_finite" "is_finite" (topH 18), dfD "is_zero" "is_zero" (topH 19), dfD "told_digits" "told_digits" (topH 21), dfD "told_places" "told_places" (topH 22), dfD "_told_at" "_told_at" (topH 23), dfD "_law_bag" "_law_bag" (topH 25), dfD "_law_take" "_law_take" (topH 26), dfD "_law_some" "_law_some" (topH 27), dfD "_law_alike" "_law_alike" (topH 28), dfD "_law_format" "_law_format" (topH 29), dfD "_law_to" "_law_to" (topH 30), dfD "_law_power" "_law_power" (topH 31), dfD "_law_size" "_law_size" (topH 32), dfD "_law_c" "_law_c" (topH 33), dfD "_law_number" "_law_number" (topH 34), dfD "_law_compared" "_law_compared" (topH 35)]
def fn1 : List He.DefD := [dfD "_law_top" "_law_top" (topH 36), dfD "_law_way" "_law_way" (topH 37), dfD "_law_integer" "_law_integer" (topH 38), dfD "_law_told_at" "_law_told_at" (topH 39), dfD "_law_told_digits" "_law_told_digits" (topH 40), dfD "law" "law" (topH 41)]
def fn : List He.DefD := fn0 ++ fn1
def fas0 : List He.Fa := [.glo "integer_power", .glo "reduced", .glo "times", .glo "over", .glo "size_of", .glo "power_of", .glo "nearest_integer", .glo "sign_of_fraction", .glo "part_of", .glo "is_taken_outward", .glo "power_below", .glo "_power_within", .glo "_twos_in", .glo "worth", .glo "is_finite", .glo "is_zero", .glo "told_digits", .glo "told_places", .glo "_told_at", .glo "_law_bag", .glo "_law_take", .glo "_law_some", .glo "_law_alike", .glo "_law_format", .glo "_law_to", .glo "_law_power", .glo "_law_size", .glo "_law_c", .glo "_law_number", .glo "_law_compared"]
def fas1 : List He.Fa := [.glo "_law_top", .glo "_law_way", .glo "_law_integer", .glo "_law_told_at", .glo "_law_told_digits", .glo "law", .free "abs", .free "divmod", .free "int", .free "len", .free "max", .free "min", .free "range", .free "repr", .free "reversed", .free "str"]
def fas : List He.Fa := fas0 ++ fas1
def ck (K : PySem.W.Frag) : Bool := ckM [] [("gcd", "math.gcd")] K
def loose0 : List Str := ["gcd", "__name__", "integer_power", "reduced", "times", "over", "size_of", "power_of", "nearest_integer", "sign_of_fraction", "part_of", "is_taken_outward", "power_below", "_power_within", "_twos_in", "worth", "is_finite", "is_zero", "told_digits", "told_places", "_told_at", "_law_bag", "_law_take", "_law_some", "_law_alike", "_law_format", "_law_to", "_law_power", "_law_size", "_law_c"]
def loose1 : List Str := ["_law_number", "_law_compared", "_law_top", "_law_way", "_law_integer", "_law_told_at", "_law_told_digits"]
def loose : List Str := loose0 ++ loose1
theorem runA (w : World) : RunA (PySem.W.OpenLaw.row PySem.Challenge.rw_nearestheld_k42_told_digits_and_places) (PySem.W.view (PySem.W.OpenLaw.row PySem.Challenge.rw_nearestheld_k42_told_digits_and_places).prog [41]) 8000 8000 loose w := by
  unfold RunA
  kernel_rfl
theorem runB (w : World) : RunB (PySem.W.OpenLaw.row PySem.Challenge.rw_nearestheld_k42_told_digits_and_places) (hkM fas fn ck) (obM fas fn ck) 8000 8000 w := by
  unfold RunB
  kernel_rfl
theorem hdefT : PySem.W.defOf (PySem.W.view (PySem.W.OpenLaw.row PySem.Challenge.rw_nearestheld_k42_told_digits_and_places).prog [41]) (PySem.W.OpenLaw.row PySem.Challenge.rw_nearestheld_k42_told_digits_and_places).name = some ((HandSHeadRun.topDef (PySem.W.OpenLaw.row PySem.Challenge.rw_nearestheld_k42_told_digits_and_places).prog 41), []) := by kernel_rfl
theorem hpT : (PySem.W.OpenLaw.row PySem.Challenge.rw_nearestheld_k42_told_digits_and_places).prog.theDef (PySem.W.OpenLaw.row PySem.Challenge.rw_nearestheld_k42_told_digits_and_places).name = some ((HandSHeadRun.topDef (PySem.W.OpenLaw.row PySem.Challenge.rw_nearestheld_k42_told_digits_and_places).prog 41).params, (HandSHeadRun.topDef (PySem.W.OpenLaw.row PySem.Challenge.rw_nearestheld_k42_told_digits_and_places).prog 41).body, (HandSHeadRun.topDef (PySem.W.OpenLaw.row PySem.Challenge.rw_nearestheld_k42_told_digits_and_places).prog 41).scope) := by kernel_rfl
theorem hkT : PySem.W.kwWritten? (HandSHeadRun.topDef (PySem.W.OpenLaw.row PySem.Challenge.rw_nearestheld_k42_told_digits_and_places).prog 41).params.kwonlyargs (HandSHeadRun.topDef (PySem.W.OpenLaw.row PySem.Challenge.rw_nearestheld_k42_told_digits_and_places).prog 41).params.kw_defaults = some [] := by kernel_rfl
theorem okT : (PySem.W.chainsOk (PySem.W.view (PySem.W.OpenLaw.row PySem.Challenge.rw_nearestheld_k42_told_digits_and_places).prog [41]) && PySem.W.opensWell (PySem.W.OpenLaw.row PySem.Challenge.rw_nearestheld_k42_told_digits_and_places).prog && (PySem.W.frees (PySem.W.OpenLaw.row PySem.Challenge.rw_nearestheld_k42_told_digits_and_places).toRowW && (PySem.W.OpenLaw.row PySem.Challenge.rw_nearestheld_k42_told_digits_and_places).within.isEmpty)) = true := by decide +kernel
theorem hbT : (PySem.W.OpenLaw.row PySem.Challenge.rw_nearestheld_k42_told_digits_and_places).prog.bare := ⟨rfl, rfl, rfl, rfl, rfl, by decide +kernel⟩
theorem nameT : (HandSHeadRun.topDef (PySem.W.OpenLaw.row PySem.Challenge.rw_nearestheld_k42_told_digits_and_places).prog 41).name = ("law" : PySem.Str) := by kernel_rfl
end K42H
namespace Gd
open PySem PySem.Spec PyProof.Rows L2
mutual
inductive Rp (K : PySem.W.Frag) (H : Hp) : V → PyData → Prop
  | non : Rp K H .non .none
  | bl (b : Bool) : Rp K H (.bl b) (.bool b)
  | int (i : Int) : Rp K H (.int i) (.int i)
  | str (x : Str) : Rp K H (.str x) (.str x)
  | lst {a xs ds} (h : H a = some (.lst xs)) (r : RpAll K H xs ds) : Rp K H (.ref a) (.list ds)
  | tup {a xs ds} (h : SqT K H a xs) (r : RpAll K H xs ds) : Rp K H (.ref a) (.tuple ds)
  | dct {a} (h : H a = some (.dK [])) : Rp K H (.ref a) (.dict [])
  | dctT {a} (kvs : List (List Int × Int)) (h : H a = some (.dT (kvs.map fun p => (p.1.map .inl, V.int p.2)))) : Rp K H (.ref a) (.dict (kvs.map fun p => (.tuple (p.1.map .int), .int p.2)))
inductive RpAll (K : PySem.W.Frag) (H : Hp) : List V → List PyData → Prop
  | nil : RpAll K H [] []
  | cons {v vs d ds} (h : Rp K H v d) (r : RpAll K H vs ds) : RpAll K H (v :: vs) (d :: ds)
end
section
variable {K : PySem.W.Frag} {H H' : Hp}
theorem seqT (e : Same H H') {a : Addr} {xs : List V} (h : SqT K H a xs) : SqT K H' a xs := by
  rcases h with (hh | ⟨ob, hh⟩) | hh
  · exact .inl (.inl (e _ _ hh))
  · exact .inl (.inr ⟨ob, e _ _ hh⟩)
  · exact .inr hh
mutual
theorem Rp.mono (e : Same H H') : ∀ {v : V} {d : PyData}, Rp K H v d → Rp K H' v d
  | _, _, .non => .non
  | _, _, .bl b => .bl b
  | _, _, .int i => .int i
  | _, _, .str x => .str x
  | _, _, .lst h r => .lst (e _ _ h) (RpAll.mono e r)
  | _, _, .tup h r => .tup (seqT e h) (RpAll.mono e r)
  | _, _, .dct h => .dct (e _ _ h)
  | _, _, .dctT kvs h => .dctT kvs (e _ _ h)
theorem RpAll.mono (e : Same H H') : ∀ {vs : List V} {ds : List PyData}, RpAll K H vs ds → RpAll K H' vs ds
  | _, _, .nil => .nil
  | _, _, .cons h r => .cons (Rp.mono e h) (RpAll.mono e r)
end
mutual
theorem Rp.dp : ∀ {v : V} {d : PyData}, Rp K H v d → d.hasDict = false → Dp K H v d
  | _, _, .non, _ => .non
  | _, _, .bl b, _ => .bl b
  | _, _, .int i, _ => .int i
  | _, _, .str x, _ => .str x
  | _, _, .lst h r, n => .lst (SqL.of h) (RpAll.dp r (by simpa only [PyData.hasDict] using n))
  | _, _, .tup h r, n => .tup h (RpAll.dp r (by simpa only [PyData.hasDict] using n))
  | _, _, .dct h, n => by simp only [PyData.hasDict] at n; cases n
  | _, _, .dctT kvs h, n => by simp only [PyData.hasDict] at n; cases n
theorem RpAll.dp : ∀ {vs : List V} {ds : List PyData}, RpAll K H vs ds → PyData.hasDictAll ds = false → DpAll K H vs ds
  | _, _, .nil, _ => .nil
  | _, _, .cons h r, n => by
    simp only [PyData.hasDictAll, Bool.or_eq_false_iff] at n
    exact .cons (Rp.dp h n.1) (RpAll.dp r n.2)
end
theorem nd_shaped {d : PyData} (h : SeqAt.shaped d = true) : d.hasDict = false := PyData.hasDict_of_canLay d (by unfold SeqAt.shaped at h; exact (Bool.and_eq_true_iff.mp h).1)
theorem RpAll.length : ∀ {vs : List V} {ds : List PyData}, RpAll K H vs ds → vs.length = ds.length
  | _, _, .nil => rfl
  | _, _, .cons _ r => congrArg (· + 1) (RpAll.length r)
theorem RpAll.get : ∀ {vs : List V} {ds : List PyData} {i : Nat} {v : V}, RpAll K H vs ds → vs[i]? = some v → ∃ d, ds[i]? = some d ∧ Rp K H v d
  | _, _, 0, _, .cons h _, e => by cases e; exact ⟨_, rfl, h⟩
  | _, _, i + 1, _, .cons _ r, e => RpAll.get (i := i) r e
  | _, _, i, _, .nil, e => by simp at e
theorem RpAll.getD : ∀ {vs : List V} {ds : List PyData} {i : Nat} {d : PyData}, RpAll K H vs ds → ds[i]? = some d → ∃ v, vs[i]? = some v ∧ Rp K H v d
  | _, _, 0, _, .cons h _, e => by cases e; exact ⟨_, rfl, h⟩
  | _, _, i + 1, _, .cons _ r, e => RpAll.getD (i := i) r e
  | _, _, i, _, .nil, e => by simp at e
theorem RpAll.app : ∀ {vs ws : List V} {ds es : List PyData}, RpAll K H vs ds → RpAll K H ws es → RpAll K H (vs ++ ws) (ds ++ es)
  | _, _, _, _, .nil, q => q
  | _, _, _, _, .cons h r, q => .cons h (RpAll.app r q)
theorem RpAll.take : ∀ {vs : List V} {ds : List PyData} (n : Nat), RpAll K H vs ds → RpAll K H (vs.take n) (ds.take n)
  | _, _, 0, _ => .nil
  | _, _, _ + 1, .nil => .nil
  | _, _, n + 1, .cons h r => .cons h (RpAll.take n r)
theorem RpAll.drop : ∀ {vs : List V} {ds : List PyData} (n : Nat), RpAll K H vs ds → RpAll K H (vs.drop n) (ds.drop n)
  | _, _, 0, r => r
  | _, _, _ + 1, .nil => .nil
  | _, _, n + 1, .cons _ r => RpAll.drop n r
end
structure Bag where
  x : Int
  y : Int
  z : Int
  cs : List Int
abbrev Gh := Option (Addr × Addr)
def bagCells (B : Bag) (l : Addr) : List V := [.int B.x, .int B.y, .int B.z, .ref l]
structure On (K : PySem.W.Frag) (g : Gh) (B : Bag) (H0 H : Hp) : Prop where
  ex : Same H0 H
  bag : ∀ a l, g = some (a, l) → H0 a = none ∧ H a = some (.lst (bagCells B l)) ∧ H0 l = some (.lst (B.cs.map V.int))
def Off (g : Gh) (a : Addr) : Prop := ∀ l, g ≠ some (a, l)
structure To (g : Gh) (H0 H H0' H' : Hp) : Prop where
  ex : Same H0 H0'
  un : ∀ a o, Off g a → H0 a = none → H a = some o → H0' a = none ∧ H' a = some o
theorem To.refl {g : Gh} {H0 H : Hp} : To g H0 H H0 H := ⟨Same.refl _, fun _ _ _ h1 h2 => ⟨h1, h2⟩⟩
theorem To.trans {g : Gh} {H0 H H1 H' H2 H'' : Hp} (s : To g H0 H H1 H') (t : To g H1 H' H2 H'') : To g H0 H H2 H'' :=
  ⟨s.ex.trans t.ex, fun a o f h1 h2 => let ⟨p, q⟩ := s.un a o f h1 h2; t.un a o f p q⟩
inductive VD where
  | no
  | da (d : PyData)
  | bag
  | scr (ns : List Int)
  | dct (kvs : List (Str × PyData))
  | fn (f : Addr)
  | fns (fs : List Addr)
def Rv (K : PySem.W.Frag) (g : Gh) (H0 : Hp) (v : V) : VD → Prop
  | .no => True
  | .da d => Rp K H0 v d
  | .bag => ∃ a l, g = some (a, l) ∧ v = .ref a
  | .scr ns => ∃ a, v = .ref a ∧ SqL K H0 a (ns.map V.int)
  | .dct kvs => ∃ a xs, v = .ref a ∧ H0 a = some (.dK xs) ∧ xs.map (·.1) = kvs.map (fun kv => Sum.inr kv.1) ∧ RpAll K H0 (xs.map (·.2)) (kvs.map (·.2))
  | .fn f => v = .ref f
  | .fns fs => ∃ a, v = .ref a ∧ H0 a = some (.lst (fs.map V.ref))
theorem Rv.mono {K : PySem.W.Frag} {g : Gh} {H0 H1 : Hp} (e : Same H0 H1) {v : V} : ∀ {d : VD}, Rv K g H0 v d → Rv K g H1 v d
  | .no, h => h
  | .da _, h => Rp.mono e h
  | .bag, h => h
  | .scr _, ⟨a, h1, h2⟩ => ⟨a, h1, e.seq h2⟩
  | .dct _, ⟨a, xs, h1, h2, h3, h4⟩ => ⟨a, xs, h1, e _ _ h2, h3, h4.mono e⟩
  | .fn _, h => h
  | .fns _, ⟨a, h1, h2⟩ => ⟨a, h1, e _ _ h2⟩
def RvAll (K : PySem.W.Frag) (g : Gh) (H0 : Hp) : List V → List VD → Prop
  | [], [] => True
  | v :: vs, d :: ds => Rv K g H0 v d ∧ RvAll K g H0 vs ds
  | _, _ => False
theorem RvAll.mono {K : PySem.W.Frag} {g : Gh} {H0 H1 : Hp} (e : Same H0 H1) : ∀ {vs : List V} {ds : List VD}, RvAll K g H0 vs ds → RvAll K g H1 vs ds
  | [], [], h => h
  | _ :: _, _ :: _, h => ⟨h.1.mono e, RvAll.mono e h.2⟩
  | [], _ :: _, h => h.elim
  | _ :: _, [], h => h.elim
theorem RvAll.length {K : PySem.W.Frag} {g : Gh} {H0 : Hp} : ∀ {vs : List V} {ds : List VD}, RvAll K g H0 vs ds → vs.length = ds.length
  | [], [], _ => rfl
  | _ :: _, _ :: _, h => congrArg (· + 1) (RvAll.length h.2)
  | [], _ :: _, h => h.elim
  | _ :: _, [], h => h.elim
structure EnvD (K : PySem.W.Frag) (g : Gh) (H0 : Hp) (σ : L2.St) (Γ : List VD) : Prop where
  len : σ.length = Γ.length
  at' : ∀ (i : Nat) (d : VD), Γ[i]? = some d → d ≠ .no → ∃ v : V, σ[i]? = some (some v) ∧ Rv K g H0 v d
theorem EnvD.mono {K : PySem.W.Frag} {g : Gh} {H0 H1 : Hp} {σ : L2.St} {Γ : List VD} (e : Same H0 H1) (h : EnvD K g H0 σ Γ) : EnvD K g H1 σ Γ :=
  ⟨h.len, fun i d h1 h2 => let ⟨v, p, q⟩ := h.at' i d h1 h2; ⟨v, p, q.mono e⟩⟩
theorem EnvD.set {K : PySem.W.Frag} {g : Gh} {H0 : Hp} {σ : L2.St} {Γ : List VD} {v : V} {d : VD} (h : EnvD K g H0 σ Γ) (i : Nat) (r : Rv K g H0 v d) : EnvD K g H0 (σ.set i (some v)) (Γ.set i d) := by
  refine ⟨by rw [List.length_set, List.length_set, h.len], fun j e h1 h2 => ?_⟩
  by_cases hj : i = j
  · subst hj
    have hi : i < Γ.length := by
      have := (List.getElem?_eq_some_iff.mp h1).1
      rwa [List.length_set] at this
    rw [List.getElem?_set_self hi] at h1
    cases h1
    exact ⟨v, List.getElem?_set_self (by rw [h.len]; exact hi), r⟩
  · rw [List.getElem?_set_ne hj] at h1 ⊢
    exact h.at' j e h1 h2
def WE (X : Cx) (e : Expr) : TE := fun σ H Q => ∃ t, PE X e t ∧ t σ H Q
def WT (X : Cx) (e : Expr) : TT := fun σ H Q => ∃ t, PT X e t ∧ t σ H Q
def WA (X : Cx) (es : List Expr) : TA := fun σ H Q => ∃ t, PA X es t ∧ t σ H Q
def WS (X : Cx) (ss : List Stmt) : TS := fun D σ H => ∃ t, PSs X ss t ∧ t D σ H
theorem we {X : Cx} (e : Expr) : PE X e (WE X e) := ⟨fun p s σ H Q I ⟨_, ht, h⟩ => ht.run p s σ H Q I h⟩
theorem wt {X : Cx} (e : Expr) : PT X e (WT X e) := ⟨fun p s σ H Q I ⟨_, ht, h⟩ => ht.run p s σ H Q I h⟩
theorem wa {X : Cx} (es : List Expr) : PA X es (WA X es) := ⟨fun o p s σ H Q I ⟨_, ht, h⟩ => ht.run o p s σ H Q I h⟩
theorem ws {X : Cx} (ss : List Stmt) : PSs X ss (WS X ss) := ⟨fun p s σ H D I ⟨_, ht, h⟩ => ht.run p s σ H D I h⟩
def EJ (X : Cx) (Γ : List VD) (B : Bag) (e : Expr) (d : VD) (B' : Bag) : Prop :=
  ∀ g σ H0 H, EnvD X.K g H0 σ Γ → On X.K g B H0 H → ∀ Q : VK,
    (∀ v H0' H', To g H0 H H0' H' → On X.K g B' H0' H' → Rv X.K g H0' v d → Q v H') → WE X e σ H Q
def TJ (X : Cx) (Γ : List VD) (B : Bag) (e : Expr) (b : Bool) (B' : Bag) : Prop :=
  ∀ g σ H0 H, EnvD X.K g H0 σ Γ → On X.K g B H0 H → ∀ Q : Bool → Hp → Prop,
    (∀ H0' H', To g H0 H H0' H' → On X.K g B' H0' H' → Q b H') → WT X e σ H Q
def AJ (X : Cx) (Γ : List VD) (B : Bag) (es : List Expr) (ds : List VD) (B' : Bag) : Prop :=
  ∀ g σ H0 H, EnvD X.K g H0 σ Γ → On X.K g B H0 H → ∀ Q : List V → Hp → Prop,
    (∀ vs H0' H', To g H0 H H0' H' → On X.K g B' H0' H' → RvAll X.K g H0' vs ds → Q vs H') → WA X es σ H Q
structure En where
  nx : List VD → Bag → Prop
  rt : PyData → Bag → Prop
  bk : List VD → Bag → Prop := fun _ _ => False
  ct : List VD → Bag → Prop := fun _ _ => False
structure Gets (X : Cx) (E : En) (g : Gh) (H0 H : Hp) (D : Ends) : Prop where
  nx : ∀ Γ B σ H1 H', E.nx Γ B → To g H0 H H1 H' → EnvD X.K g H1 σ Γ → On X.K g B H1 H' → D.nx σ H'
  rt : ∀ r B v H1 H', E.rt r B → To g H0 H H1 H' → On X.K g B H1 H' → Rp X.K H1 v r → D.rt v H'
  bk : ∀ Γ B σ H1 H', E.bk Γ B → To g H0 H H1 H' → EnvD X.K g H1 σ Γ → On X.K g B H1 H' → D.bk σ H'
  ct : ∀ Γ B σ H1 H', E.ct Γ B → To g H0 H H1 H' → EnvD X.K g H1 σ Γ → On X.K g B H1 H' → D.ct σ H'
theorem Gets.on {X : Cx} {E : En} {g : Gh} {H0 H H1 H' : Hp} {D : Ends} (G : Gets X E g H0 H D) (t : To g H0 H H1 H') : Gets X E g H1 H' D :=
  ⟨fun Γ B σ a b e u => G.nx Γ B σ a b e (t.trans u), fun r B v a b e u => G.rt r B v a b e (t.trans u),
   fun Γ B σ a b e u => G.bk Γ B σ a b e (t.trans u), fun Γ B σ a b e u => G.ct Γ B σ a b e (t.trans u)⟩
def SJ (X : Cx) (Γ : List VD) (B : Bag) (ss : List Stmt) (E : En) : Prop :=
  ∀ g σ H0 H, EnvD X.K g H0 σ Γ → On X.K g B H0 H → ∀ D : Ends, Gets X E g H0 H D → WS X ss D σ H
section
variable {X : Cx} {Γ : List VD} {B B1 B2 B' : Bag} {e a b c : Expr} {es : List Expr} {d da db dc : VD} {pos p : Pos}
theorem laid {K : PySem.W.Frag} {g : Gh} {B : Bag} {H0 H : Hp} {p : Addr} {o : HO} (O : On K g B H0 H) (n : H p = none) :
    To g H0 H (upd H0 p o) (upd H p o) ∧ On K g B (upd H0 p o) (upd H p o) := by
  have n0 : H0 p = none := O.ex.free n
  refine ⟨⟨fun q u h => ?_, fun q u f h1 h2 => ?_⟩, ⟨fun q u h => ?_, fun q l h => ?_⟩⟩
  · rw [upd_ne (ne_of_none h n0)]; exact h
  · have hq := ne_of_none h2 n
    rw [upd_ne hq, upd_ne hq]; exact ⟨h1, h2⟩
  · by_cases hq : q = p
    · subst hq; rw [upd_same] at h ⊢; exact h
    · rw [upd_ne hq] at h ⊢; exact O.ex _ _ h
  · obtain ⟨h1, h2, h3⟩ := O.bag q l h
    have hq := ne_of_none h2 n
    have hl := ne_of_none h3 n0
    rw [upd_ne hq, upd_ne hq, upd_ne hl]; exact ⟨h1, h2, h3⟩
theorem ej_c {v : V} {d : PyData} (h : PE X e (tC v)) (r : ∀ H0, Rp X.K H0 v d) : EJ X Γ B e (.da d) B :=
  fun g σ H0 H _ O Q q => ⟨_, h, q v H0 H To.refl O (r H0)⟩
theorem ej_int {i : Int} {j} : EJ X Γ B (.Constant (.int i) j pos) (.da (.int i)) B := ej_c pe_int fun _ => .int i
theorem ej_bl {i : Bool} {j} : EJ X Γ B (.Constant (.bool i) j pos) (.da (.bool i)) B := ej_c pe_bl fun _ => .bl i
theorem ej_str {i : Str} {j} : EJ X Γ B (.Constant (.str i) j pos) (.da (.str i)) B := ej_c pe_str fun _ => .str i
theorem ej_var (i : Nat) {x : Str} (h : Γ[i]? = some d) (hd : d ≠ .no) (hN : X.N[i]? = some x := by rfl)
    (hv : Vis X.env.scope x := by first | exact Or.inl rfl | exact Or.inr (Or.inl rfl) | exact Or.inr (Or.inr rfl))
    (h1 : (x == ("__debug__" : Str)) = false := by decide) (h2 : (x == ("__classdict__" : Str)) = false := by decide) : EJ X Γ B (.Name x pos) d B :=
  fun g σ H0 H E O Q q => let ⟨v, hs, r⟩ := E.at' i d h hd; ⟨_, pe_var hN hv h1 h2, v, hs, q v H0 H To.refl O r⟩
theorem ej_dat (i : Nat) {x : Str} {d : PyData} (h : Γ[i]? = some (.da d) := by rfl) (hN : X.N[i]? = some x := by rfl)
    (hv : Vis X.env.scope x := by first | exact Or.inl rfl | exact Or.inr (Or.inl rfl) | exact Or.inr (Or.inr rfl))
    (h1 : (x == ("__debug__" : Str)) = false := by decide) (h2 : (x == ("__classdict__" : Str)) = false := by decide) : EJ X Γ B (.Name x pos) (.da d) B :=
  ej_var i h (fun z => nomatch z) hN hv h1 h2
theorem ej_bag (i : Nat) {x : Str} (h : Γ[i]? = some .bag := by rfl) (hN : X.N[i]? = some x := by rfl)
    (hv : Vis X.env.scope x := by first | exact Or.inl rfl | exact Or.inr (Or.inl rfl) | exact Or.inr (Or.inr rfl))
    (h1 : (x == ("__debug__" : Str)) = false := by decide) (h2 : (x == ("__classdict__" : Str)) = false := by decide) : EJ X Γ B (.Name x pos) .bag B :=
  ej_var i h (fun z => nomatch z) hN hv h1 h2
theorem ej_un {r : V → Hp → VK → Prop} (ha : EJ X Γ B a da B1) (hp : ∀ t, PE X a t → PE X e (tUn r t))
    (hr : ∀ g v H0 H, On X.K g B1 H0 H → Rv X.K g H0 v da → ∀ Q : VK, (∀ z H0' H', To g H0 H H0' H' → On X.K g B1 H0' H' → Rv X.K g H0' z d → Q z H') → r v H Q) :
    EJ X Γ B e d B1 := fun g σ H0 H E O Q q =>
  ⟨_, hp _ (we a), ha g σ H0 H E O _ fun v H1 H' t o rv => hr g v H1 H' o rv Q fun z H2 H'' t2 o2 r2 => q z H2 H'' (t.trans t2) o2 r2⟩
theorem ej_bin {r : R2} (ha : EJ X Γ B a da B1) (hb : EJ X Γ B1 b db B2) (hp : ∀ t u, PE X a t → PE X b u → PE X e (tOp r t u))
    (hr : ∀ g v w H0 H, On X.K g B2 H0 H → Rv X.K g H0 v da → Rv X.K g H0 w db → ∀ Q : VK, (∀ z H0' H', To g H0 H H0' H' → On X.K g B2 H0' H' → Rv X.K g H0' z d → Q z H') → r v w H Q) :
    EJ X Γ B e d B2 := fun g σ H0 H E O Q q =>
  ⟨_, hp _ _ (we a) (we b), ha g σ H0 H E O _ fun v H1 H' t o rv => hb g σ H1 H' (E.mono t.ex) o _ fun w H2 H'' t2 o2 rw' =>
    hr g v w H2 H'' o2 (rv.mono t2.ex) rw' Q fun z H3 H3' t3 o3 r3 => q z H3 H3' ((t.trans t2).trans t3) o3 r3⟩
theorem rvI {K : PySem.W.Frag} {g : Gh} {H0 : Hp} {v : V} {i : Int} (h : Rv K g H0 v (.da (.int i))) : v = .int i := by
  have h : Rp K H0 v (.int i) := h
  cases h; rfl
theorem rvB {K : PySem.W.Frag} {g : Gh} {H0 : Hp} {v : V} {i : Bool} (h : Rv K g H0 v (.da (.bool i))) : v = .bl i := by
  have h : Rp K H0 v (.bool i) := h
  cases h; rfl
theorem rvS {K : PySem.W.Frag} {g : Gh} {H0 : Hp} {v : V} {i : Str} (h : Rv K g H0 v (.da (.str i))) : v = .str i := by
  have h : Rp K H0 v (.str i) := h
  cases h; rfl
theorem rvL {K : PySem.W.Frag} {g : Gh} {H0 : Hp} {v : V} {ds : List PyData} (h : Rv K g H0 v (.da (.list ds))) : ∃ a xs, v = .ref a ∧ H0 a = some (.lst xs) ∧ RpAll K H0 xs ds := by
  have h : Rp K H0 v (.list ds) := h
  cases h with
  | lst h1 r => exact ⟨_, _, rfl, h1, r⟩
theorem rvT {K : PySem.W.Frag} {g : Gh} {H0 : Hp} {v : V} {ds : List PyData} (h : Rv K g H0 v (.da (.tuple ds))) : ∃ a xs, v = .ref a ∧ SqT K H0 a xs ∧ RpAll K H0 xs ds := by
  have h : Rp K H0 v (.tuple ds) := h
  cases h with
  | tup h1 r => exact ⟨_, _, rfl, h1, r⟩
theorem ej_ii {i j : Int} {z : Int → Int → V} {y : PyData} {op : Operator} (ha : EJ X Γ B a (.da (.int i)) B1) (hb : EJ X Γ B1 b (.da (.int j)) B2)
    (ho : OpR X (binaryOp op) (rI0 z)) (hz : ∀ H0, Rp X.K H0 (z i j) y) : EJ X Γ B (.BinOp a op b pos) (.da y) B2 :=
  ej_bin ha hb (fun _ _ h1 h2 => pe_op ho h1 h2) fun g v w H0 H O r1 r2 Q q => ⟨i, j, rvI r1, rvI r2, q _ H0 H To.refl O (hz H0)⟩
theorem ej_iic {i j : Int} {C : Int → Int → Prop} {z : Int → Int → V} {y : PyData} {op : Operator} (ha : EJ X Γ B a (.da (.int i)) B1) (hb : EJ X Γ B1 b (.da (.int j)) B2)
    (ho : OpR X (binaryOp op) (rI C z)) (hc : C i j) (hz : ∀ H0, Rp X.K H0 (z i j) y) : EJ X Γ B (.BinOp a op b pos) (.da y) B2 :=
  ej_bin ha hb (fun _ _ h1 h2 => pe_op ho h1 h2) fun g v w H0 H O r1 r2 Q q => ⟨i, j, rvI r1, rvI r2, hc, q _ H0 H To.refl O (hz H0)⟩
theorem ej_add {i j : Int} (ha : EJ X Γ B a (.da (.int i)) B1) (hb : EJ X Γ B1 b (.da (.int j)) B2) : EJ X Γ B (.BinOp a .Add b pos) (.da (.int (i + j))) B2 :=
  ej_ii ha hb op_add fun _ => .int _
theorem ej_sub {i j : Int} (ha : EJ X Γ B a (.da (.int i)) B1) (hb : EJ X Γ B1 b (.da (.int j)) B2) : EJ X Γ B (.BinOp a .Sub b pos) (.da (.int (i - j))) B2 :=
  ej_ii ha hb op_sub fun _ => .int _
theorem ej_mul {i j : Int} (ha : EJ X Γ B a (.da (.int i)) B1) (hb : EJ X Γ B1 b (.da (.int j)) B2) (hc : CMulW i j) : EJ X Γ B (.BinOp a .Mult b pos) (.da (.int (i * j))) B2 :=
  ej_iic ha hb op_mulW hc fun _ => .int _
theorem ej_fdiv {i j : Int} (ha : EJ X Γ B a (.da (.int i)) B1) (hb : EJ X Γ B1 b (.da (.int j)) B2) (hc : CDivW i j) : EJ X Γ B (.BinOp a .FloorDiv b pos) (.da (.int (i / j))) B2 :=
  ej_iic ha hb op_fdivW hc fun _ => .int _
theorem ej_mod {i j : Int} (ha : EJ X Γ B a (.da (.int i)) B1) (hb : EJ X Γ B1 b (.da (.int j)) B2) (hc : 0 < j) : EJ X Γ B (.BinOp a .Mod b pos) (.da (.int (i % j))) B2 :=
  ej_iic ha hb op_mod hc fun _ => .int _
theorem ej_pow {i j : Int} (ha : EJ X Γ B a (.da (.int i)) B1) (hb : EJ X Γ B1 b (.da (.int j)) B2) (hc : CPow i j) : EJ X Γ B (.BinOp a .Pow b pos) (.da (.int (i ^ j.toNat))) B2 :=
  ej_iic ha hb op_pow hc fun _ => .int _
theorem ej_neg {i : Int} (ha : EJ X Γ B a (.da (.int i)) B1) : EJ X Γ B (.UnaryOp .USub a pos) (.da (.int (-i))) B1 :=
  ej_un ha (fun _ h => pe_un un_neg h) fun g v H0 H O r Q q => ⟨i, rvI r, q _ H0 H To.refl O (Rp.int _)⟩
theorem ej_cmpI {i j : Int} {z : Int → Int → V} {y : PyData} {op : CmpOp} (ha : EJ X Γ B a (.da (.int i)) B1) (hb : EJ X Γ B1 b (.da (.int j)) B2)
    (ho : OpR X (compareOp op) (rI0 z)) (hz : ∀ H0, Rp X.K H0 (z i j) y) (hm : behindInMarks op b = false) : EJ X Γ B (.Compare a [op] [b] pos) (.da y) B2 :=
  ej_bin ha hb (fun _ _ h1 h2 => pe_cmpR ho h1 h2 hm) fun g v w H0 H O r1 r2 Q q => ⟨i, j, rvI r1, rvI r2, q _ H0 H To.refl O (hz H0)⟩
theorem ej_gt {i j : Int} (ha : EJ X Γ B a (.da (.int i)) B1) (hb : EJ X Γ B1 b (.da (.int j)) B2) : EJ X Γ B (.Compare a [.Gt] [b] pos) (.da (.bool (decide (j < i)))) B2 :=
  ej_cmpI ha hb op_gt (fun _ => .bl _) (nomark _)
theorem ej_eq {x y : PyData} (hu : X.A.units + 64 < cLine) (ha : EJ X Γ B a (.da x) B1) (hb : EJ X Γ B1 b (.da y) B2) (hx : SeqAt.shaped x = true) (hy : SeqAt.shaped y = true) :
    EJ X Γ B (.Compare a [.Eq] [b] pos) (.da (.bool (PyData.eqv x y))) B2 :=
  ej_bin ha hb (fun _ _ h1 h2 => pe_cmpR (op_eqD hu) h1 h2 (nomark _)) fun g v w H0 H O r1 r2 Q q =>
    ⟨x, y, (Rp.mono O.ex r1).dp (nd_shaped hx), (Rp.mono O.ex r2).dp (nd_shaped hy), hx, hy, q _ H0 H To.refl O (Rp.bl _)⟩
theorem ej_eqI {i j : Int} (hu : X.A.units + 64 < cLine) (ha : EJ X Γ B a (.da (.int i)) B1) (hb : EJ X Γ B1 b (.da (.int j)) B2) : EJ X Γ B (.Compare a [.Eq] [b] pos) (.da (.bool (decide (i = j)))) B2 := by
  have h := ej_eq (pos := pos) hu ha hb rfl rfl
  have e : PyData.eqv (.int i) (.int j) = decide (i = j) := by simp only [PyData.eqv]; exact Bool.beq_eq_decide_eq i j
  rw [e] at h; exact h
theorem ej_eqS {i j : Str} (ha : EJ X Γ B a (.da (.str i)) B1) (hb : EJ X Γ B1 b (.da (.str j)) B2) : EJ X Γ B (.Compare a [.Eq] [b] pos) (.da (.bool (decide (i = j)))) B2 :=
  ej_bin ha hb (fun _ _ h1 h2 => pe_cmpR op_eq h1 h2 (nomark _)) fun g v w H0 H O r1 r2 Q q => by
    rw [rvS r1, rvS r2]
    have e : decide (V.str i = V.str j) = decide (i = j) := by
      by_cases h : i = j
      · subst h; simp
      · rw [decide_eq_false h, decide_eq_false fun z => h (V.str.inj z)]
    refine ⟨rfl, ?_⟩
    rw [e]; exact q _ H0 H To.refl O (Rp.bl _)
theorem ej_ixT {ds : List PyData} {i : Int} {y : PyData} (ha : EJ X Γ B a (.da (.tuple ds)) B1) (hb : EJ X Γ B1 b (.da (.int i)) B2) (h : atI ds i = some y) (hs : PlainIx b) :
    EJ X Γ B (.Subscript a b pos) (.da y) B2 :=
  ej_bin ha hb (fun _ _ h1 h2 => pe_ix ix_tup h1 h2 hs) fun g v w H0 H O r1 r2 Q q => by
    obtain ⟨p, xs, rfl, hx, rs⟩ := rvT r1
    obtain ⟨j, h1, h2⟩ := Option.bind_eq_some_iff.mp h
    rw [← rs.length] at h1
    obtain ⟨z, h3, h4⟩ := rs.getD h2
    exact ⟨p, xs, i, z, rfl, rvI r2, seqT O.ex hx, Option.bind_eq_some_iff.mpr ⟨j, h1, h3⟩, q z H0 H To.refl O h4⟩
theorem ej_ixL {ds : List PyData} {i : Int} {y : PyData} (ha : EJ X Γ B a (.da (.list ds)) B1) (hb : EJ X Γ B1 b (.da (.int i)) B2) (h : atI ds i = some y) (hs : PlainIx b) :
    EJ X Γ B (.Subscript a b pos) (.da y) B2 :=
  ej_bin ha hb (fun _ _ h1 h2 => pe_ix ix_list h1 h2 hs) fun g v w H0 H O r1 r2 Q q => by
    obtain ⟨p, xs, rfl, hx, rs⟩ := rvL r1
    obtain ⟨j, h1, h2⟩ := Option.bind_eq_some_iff.mp h
    rw [← rs.length] at h1
    obtain ⟨z, h3, h4⟩ := rs.getD h2
    exact ⟨p, xs, i, z, rfl, rvI r2, SqL.of (O.ex _ _ hx), Option.bind_eq_some_iff.mpr ⟨j, h1, h3⟩, q z H0 H To.refl O h4⟩
theorem aj_nil : AJ X Γ B [] [] B := fun g σ H0 H _ O Q q => ⟨_, pa_nil, q [] H0 H To.refl O trivial⟩
theorem aj_cons {ds : List VD} (h : EJ X Γ B e d B1) (r : AJ X Γ B1 es ds B2) (hs : starEach (e :: es) X.env = (false, eval e X.env) :: starEach es X.env := by rfl) :
    AJ X Γ B (e :: es) (d :: ds) B2 := fun g σ H0 H E O Q q =>
  ⟨_, pa_cons (we e) (wa es) hs, h g σ H0 H E O _ fun v H1 H' t o rv => r g σ H1 H' (E.mono t.ex) o _ fun vs H2 H'' t2 o2 rs => q (v :: vs) H2 H'' (t.trans t2) o2 ⟨rv.mono t2.ex, rs⟩⟩
theorem RvAll.dat {K : PySem.W.Frag} {g : Gh} {H0 : Hp} : ∀ {vs : List V} {ds : List PyData}, RvAll K g H0 vs (ds.map .da) → RpAll K H0 vs ds
  | [], [], _ => .nil
  | _ :: _, _ :: _, h => .cons h.1 (RvAll.dat h.2)
  | [], _ :: _, h => h.elim
  | _ :: _, [], h => h.elim
theorem ej_tup {ds : List PyData} {k} (h : AJ X Γ B es (ds.map .da) B1) (hl : ds.length ≤ 1000) : EJ X Γ B (.Tuple es k pos) (.da (.tuple ds)) B1 := fun g σ H0 H E O Q q =>
  ⟨_, pe_tup (wa es), h g σ H0 H E O _ fun vs H1 H' t o rs => by
    have rs := RvAll.dat rs
    refine ⟨by rw [rs.length]; exact Nat.le_of_lt (small1000 hl), fun p n => ?_⟩
    obtain ⟨t2, o2⟩ := laid (o := .tup vs) o n
    exact q _ _ _ (t.trans t2) o2 (Rp.tup (SqT.of upd_same) (rs.mono t2.ex))⟩
theorem ej_lst {ds : List PyData} (h : AJ X Γ B es (ds.map .da) B1) (hl : ds.length ≤ 1000) : EJ X Γ B (.List es pos) (.da (.list ds)) B1 := fun g σ H0 H E O Q q =>
  ⟨_, pe_lst (wa es), h g σ H0 H E O _ fun vs H1 H' t o rs => by
    have rs := RvAll.dat rs
    refine ⟨by rw [rs.length]; exact Nat.le_of_lt (small1000 hl), fun p n => ?_⟩
    obtain ⟨t2, o2⟩ := laid (o := .lst vs) o n
    exact q _ _ _ (t.trans t2) o2 (Rp.lst upd_same (rs.mono t2.ex))⟩
theorem ej_catL {ds es' : List PyData} (ha : EJ X Γ B a (.da (.list ds)) B1) (hb : EJ X Γ B1 b (.da (.list es')) B2) (hl : ds.length + es'.length ≤ 1000) :
    EJ X Γ B (.BinOp a .Add b pos) (.da (.list (ds ++ es'))) B2 :=
  ej_bin ha hb (fun _ _ h1 h2 => pe_op op_cat h1 h2) fun g v w H0 H O r1 r2 Q q => by
    obtain ⟨p, xs, rfl, hx, rs⟩ := rvL r1
    obtain ⟨p2, ys, rfl, hy, rs2⟩ := rvL r2
    refine ⟨p, p2, xs, ys, rfl, rfl, O.ex _ _ hx, O.ex _ _ hy, by rw [rs.length, rs2.length]; exact Nat.le_of_lt (small1000 hl), fun n hn => ?_⟩
    obtain ⟨t2, o2⟩ := laid (o := .lst (xs ++ ys)) O hn
    exact q _ _ _ t2 o2 (Rp.lst upd_same ((rs.app rs2).mono t2.ex))
end
end Gd
namespace Gd
open PySem PySem.Spec PyProof.Rows L2
structure FnG (P : Program) (w : World) (K : PySem.W.Frag) (mg : Str → Option Value)
    (base : Heap) (k : Nat) (f : Addr) (fd : FuncData) (ps : List Str) (sp : Sp) : Prop where
  len : ∀ vs H Q E, sp vs H Q E → List.length vs = ps.length
  run : ∀ (A : Around) (out : List Env) (s : Shared) (H : Hp) (args : Args) (us : List Value) (vs : List V) (Q : VK) (E : XK),
    A.guards = some [] → Room k A → Env0 P w K mg base A out s H → BindsTo s fd args (ps.zip us) →
    Vals vs us → sp vs H Q E → codeAny (model P w) A (.call (.ref f) args) (CR CX0 out P w H s Q E) s
theorem FnG.le {P : Program} {w : World} {K : PySem.W.Frag} {mg : Str → Option Value} {base : Heap} {j k : Nat} {f : Addr} {fd : FuncData} {ps : List Str} {sp : Sp}
    (F : FnG P w K mg base j f fd ps sp) (h : j ≤ k) : FnG P w K mg base k f fd ps sp :=
  ⟨F.len, fun A o s H ar us vs Q E hg hr => F.run A o s H ar us vs Q E hg (hr.mono h)⟩
structure Gx (k : Nat) (X : Cx) : Prop where
  gd : X.A.guards = some []
  rm : Room k X.A
  nd : X.N.Nodup
  calm : X.calm = true
theorem Gx.hu {k : Nat} {X : Cx} (g : Gx k X) : X.A.units + 64 < cLine := g.rm.units
theorem Gx.le {j k : Nat} {X : Cx} (g : Gx k X) (h : j ≤ k) : Gx j X := ⟨g.gd, g.rm.mono h, g.nd, g.calm⟩
theorem runG {X : Cx} {k : Nat} {f : Addr} {fd : FuncData} {ps : List Str} {sp : Sp} {E : XK} {pins : List (Addr × Obj)} {σ : L2.St} {H : Hp} {s : Shared}
    {Q : VK} {us : List Value} {vs : List V} (F : FnG X.prog X.w X.K X.mg X.base k f fd ps sp) (g : Gx k X) (hb : Binds X.K fd ps [])
    (I : Inv X pins σ H s) (r : Vals vs us) (h : sp vs H Q E) : wpAny (model X.prog X.w) X.A (call (.ref f) us) (EP X pins σ Q) X.xe s := by
  have e : us.length = ps.length := r.length.symm.trans (F.len _ _ _ _ h)
  have hz := hb s us I.kIn (by rw [List.append_nil]; exact e)
  rw [List.append_nil] at hz
  have cc := F.run X.A X.stack s H ⟨us, []⟩ us vs Q E g.gd g.rm I.env0 hz r h
  refine wpAny_call (codeAny_mono cc fun res s2 q => ?_)
  match res, q with
  | .ok (.ret _), q => exact I.after q
  | .ok .next, q => exact q.elim
  | .ok .brk, q => exact q.elim
  | .ok .cont, q => exact q.elim
  | .error _, q => exact q.elim
theorem fnG_of {P : Program} {w : World} {K : PySem.W.Frag} {mg : Str → Option Value} {base : Heap} {x qual : Str} {st : Stmt} {f : Addr} {fd : FuncData}
    {N ps : List Str} {k : Nat} {sp : Sp} (F : Fun K x qual st f fd) (S : FnScope N ps (defScope st)) (len : ∀ vs H Q E, sp vs H Q E → vs.length = ps.length)
    (body : ∀ (cdv : Value) (A : Around) (out : List Env) (s : Shared) (H : Hp) (vs : List V) (Q : VK) (E : XK),
      Gx k (cxOf CX0 P w K mg base N qual (defScope st) f cdv A out s H E).nox → sp vs H Q E →
      WS (cxOf CX0 P w K mg base N qual (defScope st) f cdv A out s H E).nox (defBody st) { nx := fun _ H' => Q .non H', rt := Q } (L2.start N vs) H) :
    FnG P w K mg base (k + 1) f fd ps sp := by
  obtain ⟨c1, c2, c3, c4, c5, c6, cdv, c8, c9, rfl, lk, hcd⟩ := F.ex
  refine ⟨len, ?_⟩
  intro A out s H args us vs Q E hg hr e0 hb r hsp
  have up : ∀ b o, base.get? b = some o → s.heap.get? b = some o := fun b o e => (e0.bs b o e).1
  have KX : K.In s.heap := e0.mod.kin.keeps up
  have lim : s.heap.NoLimit := e0.mod.nolimit.keeps up
  have kinds : ∀ y ∈ ps.zip us, (defScope st).names.lookup y.1 = some .local ∨
      ((defScope st).names.lookup y.1 = some .cell ∧ ((cellsFrom (s.heap.objs.size + 1) (defScope st).names []).lookup y.1).isSome = true) := by
    rintro ⟨n, v⟩ hy
    cases S.par n (List.of_mem_zip hy).1 with
    | inl q => exact .inl q
    | inr q => exact .inr ⟨q, PySem.W.cellsFrom_some _ _ _ (.inl q)⟩
  have recd := PySem.W.codeRec_of KX hcd
  refine codeAny_call_function hr.depth (KX _ _ lk) rfl S.co S.gen rfl recd (hb _ _ _ _ ?_)
  refine wpAny_newFunctionEnv_cells S.kind kinds fun env he s1 x1 => ?_
  subst he
  refine ⟨lim.keeps x1.toInCall.keep, codeAny_func ?_⟩
  have I := inv_start (CX := CX0) (E := E) (qual := qual) (f := f) (cd := cdv) S hr.hd e0 (len _ _ _ _ hsp) r x1
  have G : Gx k (cxOf CX0 P w K mg base N qual (defScope st) f cdv A out s H E).nox := ⟨hg, hr.deeper _, S.nd, rfl⟩
  obtain ⟨t, ht, hq⟩ := body cdv A out s H vs Q E G hsp
  refine wpAny_mono (ht.nox.run [] s1 (L2.start N vs) H _ I hq) (fun fl s2 q => ?_) (fun _ _ q => q)
  match fl, q with
  | .ret u, ⟨v, σ', H', J, rv, q⟩ => exact ⟨v, H', J.os, J.bare, J.base, J.hok, rv, q⟩
  | .next, ⟨σ', H', J, q⟩ => exact ⟨.non, H', J.os, J.bare, J.base, J.hok, rfl, q⟩
  | .brk, ⟨_, _, _, q⟩ => exact q.elim
  | .cont, ⟨_, _, _, q⟩ => exact q.elim
abbrev Rel := List VD → Bag → PyData → Bag → Prop
def DefSp (K : PySem.W.Frag) (R : Rel) : Sp := fun vs H Q _ =>
  ∃ g Γ B H0 r B', RvAll K g H0 vs Γ ∧ On K g B H0 H ∧ R Γ B r B' ∧
    ∀ v H0' H', To g H0 H H0' H' → On K g B' H0' H' → Rp K H0' v r → Q v H'
def Cal (P : Program) (w : World) (K : PySem.W.Frag) (mg : Str → Option Value) (base : Heap) (x : Str) (k : Nat) (R : Rel) : Prop :=
  ∃ f fd ps, FnG P w K mg base k f fd ps (DefSp K R) ∧ mg x = some (.ref f) ∧ PySem.W.keepIn K (.ref f) = true ∧ Binds K fd ps []
theorem start_env {K : PySem.W.Frag} {g : Gh} {H0 : Hp} {N : List Str} {vs : List V} {Γ : List VD} (h : RvAll K g H0 vs Γ) (hl : Γ.length ≤ N.length) :
    EnvD K g H0 (L2.start N vs) (Γ ++ List.replicate (N.length - Γ.length) .no) := by
  have e := h.length
  refine ⟨?_, ?_⟩
  · unfold L2.start; rw [List.length_append, List.length_append, List.length_map, List.length_replicate, List.length_replicate]; omega
  · have : ∀ (vs : List V) (Γ : List VD) (m n : Nat), RvAll K g H0 vs Γ → ∀ (i : Nat) (d : VD), (Γ ++ List.replicate m .no)[i]? = some d → d ≠ .no →
        ∃ v : V, (vs.map some ++ List.replicate n (none : Option V))[i]? = some (some v) ∧ Rv K g H0 v d := by
      intro vs
      induction vs with
      | nil =>
        intro Γ m n h i d h1 h2
        cases Γ with
        | nil =>
          rw [List.nil_append, List.getElem?_replicate] at h1
          split at h1
          · cases h1; exact absurd rfl h2
          · cases h1
        | cons _ _ => exact h.elim
      | cons v vs ih =>
        intro Γ m n h i d h1 h2
        cases Γ with
        | nil => exact h.elim
        | cons d' Γ =>
          cases i with
          | zero => cases h1; exact ⟨v, rfl, h.1⟩
          | succ i => exact ih Γ m n h.2 i d h1 h2
    unfold L2.start
    exact this vs Γ _ _ h
theorem cal_of {P : Program} {w : World} {K : PySem.W.Frag} {mg : Str → Option Value} {base : Heap} {x qual : Str} {st : Stmt} {f : Addr} {fd : FuncData}
    {N ps : List Str} {k : Nat} {R : Rel} (F : Fun K x qual st f fd) (hm : mg x = some (.ref f)) (hb : Binds K fd ps []) (S : FnScope N ps (defScope st))
    (len : ∀ Γ B r B', R Γ B r B' → Γ.length = ps.length)
    (body : ∀ (cdv : Value) (A : Around) (out : List Env) (s : Shared) (H : Hp) (E : XK),
      Gx k (cxOf CX0 P w K mg base N qual (defScope st) f cdv A out s H E).nox → ∀ Γ B r B', R Γ B r B' →
      SJ (cxOf CX0 P w K mg base N qual (defScope st) f cdv A out s H E).nox (Γ ++ List.replicate (N.length - ps.length) .no) B (defBody st)
        { nx := fun _ B2 => r = .none ∧ B2 = B', rt := fun d B2 => d = r ∧ B2 = B' }) :
    Cal P w K mg base x (k + 1) R := by
  have hpl : ps.length ≤ N.length := by
    have := congrArg List.length S.pre
    rw [List.length_take] at this; omega
  refine ⟨f, fd, ps, fnG_of F S ?_ ?_, hm, F.kp, hb⟩
  · rintro vs H Q E ⟨g, Γ, B, H0, r, B', a, b, c, d⟩
    rw [a.length]; exact len _ _ _ _ c
  · intro cdv A out s H vs Q E G ⟨g, Γ, B, H0, r, B', a, b, c, d⟩
    have hl := len _ _ _ _ c
    have E0' := start_env (N := N) a (by rw [hl]; exact hpl)
    rw [hl] at E0'
    refine body cdv A out s H E G Γ B r B' c g _ H0 H E0' b _ ⟨?_, ?_, ?_, ?_⟩
    · rintro Γ2 B2 σ H1 H' ⟨rfl, rfl⟩ t _ o
      exact d _ _ _ t o .non
    · rintro r2 B2 v H1 H' ⟨rfl, rfl⟩ t o rv
      exact d _ _ _ t o rv
    · intro _ _ _ _ _ z; exact z.elim
    · intro _ _ _ _ _ z; exact z.elim
section
variable {X : Cx} {Γ : List VD} {B B1 B2 B' : Bag} {e a b c : Expr} {es : List Expr} {d da db dc : VD} {pos p pos' : Pos} {rest ss s1 s2 : List Stmt} {E : En}
theorem ej_call {x : Str} {k : Nat} {R : Rel} {ds : List VD} {r : PyData} (c : Cal X.prog X.w X.K X.mg X.base x k R) (g : Gx k X) (ha : AJ X Γ B (e :: es) ds B1) (hR : R ds B1 r B2)
    (hg : Gl X x := by rfl) (hdb : (x == ("__debug__" : Str)) = false := by decide) (he : starEach (e :: es) X.env = (false, eval e X.env) :: starEach es X.env := by rfl)
    (hpl : (backTo pos (starEach es X.env)).any (·.1) = false := by rfl) : EJ X Γ B (.Call (.Name x p) (e :: es) [] pos) (.da r) B2 := by
  obtain ⟨f, fd, ps, F, hm, hk, hb⟩ := c
  intro gh σ H0 H E O Q q
  refine ⟨fun σ H Q => WA X (e :: es) σ H fun vs H1 => DefSp X.K R vs H1 Q E0, ⟨fun pins s σ H Q I h => ?_⟩, ?_⟩
  · refine wpAny_Call_Name_kw (ld_glob I hg hm ?_ hdb)
    refine PySem.W.callWith_K (h₀ := X.base) I.ok.mod.kin hk (thn ((wa (e :: es)).run pos pins s σ H _ I h) ?_) he hpl
    rintro us s1 ⟨vs, H1, I1, r1, q1⟩
    exact ⟨I1.kIn, runG F g hb I1 r1 q1⟩
  · refine ha gh σ H0 H E O _ fun vs H1 H' t o rs => ?_
    exact ⟨gh, ds, B1, H1, r, B2, rs, o, hR, fun v H2 H'' t2 o2 rv => q v H2 H'' (t.trans t2) o2 rv⟩
theorem ej_callB {x : Str} {id : String} {r : List V → Hp → VK → Prop} {ds : List VD} (hc : CallR X (.builtin id) r) (hm : X.mg x = none) (ha : AJ X Γ B (e :: es) ds B1)
    (hr : ∀ g vs H0 H, On X.K g B1 H0 H → RvAll X.K g H0 vs ds → ∀ Q : VK, (∀ z H0' H', To g H0 H H0' H' → On X.K g B1 H0' H' → Rv X.K g H0' z d → Q z H') → r vs H Q)
    (hv : bootBuiltins x = some (.builtin id) := by decide +kernel) (hg : Gl X x := by rfl) (hn : x ≠ "__name__" := by decide) (hdb : (x == ("__debug__" : Str)) = false := by decide)
    (hpl : (backTo pos (starEach es X.env)).any (·.1) = false := by rfl) (he : starEach (e :: es) X.env = (false, eval e X.env) :: starEach es X.env := by rfl) :
    EJ X Γ B (.Call (.Name x p) (e :: es) [] pos) d B1 := fun g σ H0 H E O Q q =>
  ⟨_, pe_callB hc hg hm hv (wa (e :: es)) hn hdb he hpl, ha g σ H0 H E O _ fun vs H1 H' t o rs => hr g vs H1 H' o rs Q fun z H2 H'' t2 o2 rz => q z H2 H'' (t.trans t2) o2 rz⟩
theorem ej_callTy {x : Str} {T : String} {r : List V → Hp → VK → Prop} {ds : List VD} (hc : CallR X (.type T) r) (hm : X.mg x = none) (ha : AJ X Γ B (e :: es) ds B1)
    (hr : ∀ g vs H0 H, On X.K g B1 H0 H → RvAll X.K g H0 vs ds → ∀ Q : VK, (∀ z H0' H', To g H0 H H0' H' → On X.K g B1 H0' H' → Rv X.K g H0' z d → Q z H') → r vs H Q)
    (hv : bootBuiltins x = some (.type T) := by decide +kernel) (hg : Gl X x := by rfl) (hn : x ≠ "__name__" := by decide) (hdb : (x == ("__debug__" : Str)) = false := by decide)
    (hpl : (backTo pos (starEach es X.env)).any (·.1) = false := by rfl) (he : starEach (e :: es) X.env = (false, eval e X.env) :: starEach es X.env := by rfl) :
    EJ X Γ B (.Call (.Name x p) (e :: es) [] pos) d B1 := fun g σ H0 H E O Q q =>
  ⟨_, pe_callTy hc hg hm hv (wa (e :: es)) hn hdb he hpl, ha g σ H0 H E O _ fun vs H1 H' t o rs => hr g vs H1 H' o rs Q fun z H2 H'' t2 o2 rz => q z H2 H'' (t.trans t2) o2 rz⟩
theorem rv1 {K : PySem.W.Frag} {g : Gh} {H0 : Hp} {vs : List V} {d : VD} (h : RvAll K g H0 vs [d]) : ∃ v, vs = [v] ∧ Rv K g H0 v d := by
  match vs, h with
  | [v], h => exact ⟨v, rfl, h.1⟩
theorem rv2 {K : PySem.W.Frag} {g : Gh} {H0 : Hp} {vs : List V} {d d' : VD} (h : RvAll K g H0 vs [d, d']) : ∃ v v', vs = [v, v'] ∧ Rv K g H0 v d ∧ Rv K g H0 v' d' := by
  match vs, h with
  | [v, v'], h => exact ⟨v, v', rfl, h.1, h.2.1⟩
theorem ej_abs {i : Int} (hm : X.mg "abs" = none) (ha : EJ X Γ B a (.da (.int i)) B1) (hs : starEach [a] X.env = [(false, eval a X.env)] := by rfl) (hg : Gl X "abs" := by rfl) :
    EJ X Γ B (.Call (.Name "abs" p) [a] [] pos) (.da (.int (if i < 0 then -i else i))) B1 :=
  ej_callB call_abs hm (aj_cons ha aj_nil hs) (fun g vs H0 H O r Q q => by
    obtain ⟨v, rfl, h⟩ := rv1 r
    exact ⟨i, by rw [rvI h], q _ _ _ To.refl O (Rp.int _)⟩) (hg := hg) (he := hs)
theorem ej_int1 {i : Int} (hm : X.mg "int" = none) (ha : EJ X Γ B a (.da (.int i)) B1) (hs : starEach [a] X.env = [(false, eval a X.env)] := by rfl) (hg : Gl X "int" := by rfl) :
    EJ X Γ B (.Call (.Name "int" p) [a] [] pos) (.da (.int i)) B1 :=
  ej_callTy call_int1 hm (aj_cons ha aj_nil hs) (fun g vs H0 H O r Q q => by
    obtain ⟨v, rfl, h⟩ := rv1 r
    exact .inl ⟨i, by rw [rvI h], q _ _ _ To.refl O (Rp.int _)⟩) (hg := hg) (he := hs)
theorem ej_intB {i : Bool} (hm : X.mg "int" = none) (ha : EJ X Γ B a (.da (.bool i)) B1) (hs : starEach [a] X.env = [(false, eval a X.env)] := by rfl) (hg : Gl X "int" := by rfl) :
    EJ X Γ B (.Call (.Name "int" p) [a] [] pos) (.da (.int (if i then 1 else 0))) B1 :=
  ej_callTy call_int1 hm (aj_cons ha aj_nil hs) (fun g vs H0 H O r Q q => by
    obtain ⟨v, rfl, h⟩ := rv1 r
    exact .inr ⟨i, by rw [rvB h], q _ _ _ To.refl O (Rp.int _)⟩) (hg := hg) (he := hs)
theorem ej_lenL {ds : List PyData} (hm : X.mg "len" = none) (ha : EJ X Γ B a (.da (.list ds)) B1) (hs : starEach [a] X.env = [(false, eval a X.env)] := by rfl) (hg : Gl X "len" := by rfl) :
    EJ X Γ B (.Call (.Name "len" p) [a] [] pos) (.da (.int ds.length)) B1 :=
  ej_callB call_len_seq hm (aj_cons ha aj_nil hs) (fun g vs H0 H O r Q q => by
    obtain ⟨v, rfl, h⟩ := rv1 r
    obtain ⟨p, xs, rfl, hx, rs⟩ := rvL h
    refine ⟨p, xs, rfl, .inl (SqL.of (O.ex _ _ hx)), ?_⟩
    rw [rs.length]; exact q _ _ _ To.refl O (Rp.int _)) (hg := hg) (he := hs)
def boxed : PyData → Bool
  | .list _ => true
  | .tuple _ => true
  | _ => false
theorem tj_val {x : Bool} (h : EJ X Γ B e (.da (.bool x)) B1) (he : ∀ whole, isTrue e X.env whole = (do let v ← whole; standAt e.pos; holding [v] (truthy v)) := by intro _; rfl) :
    TJ X Γ B e x B1 := fun g σ H0 H E O Q q => ⟨_, pt_val (we e) he, h g σ H0 H E O _ fun v H1 H' t o r => ⟨x, rvB r, q H1 H' t o⟩⟩
theorem tj_cmp {op : CmpOp} {x : Bool} {r : R2} (ha : EJ X Γ B a da B1) (hb : EJ X Γ B1 b db B2) (ho : OpR X (compareOp op) r) (hm : behindInMarks op b = false)
    (hr : ∀ g v w H0 H, On X.K g B2 H0 H → Rv X.K g H0 v da → Rv X.K g H0 w db → ∀ Q : VK, (∀ H0' H', To g H0 H H0' H' → On X.K g B2 H0' H' → Q (.bl x) H') → r v w H Q) :
    TJ X Γ B (.Compare a [op] [b] pos) x B2 := fun g σ H0 H E O Q q =>
  ⟨_, pt_cmpR ho (we a) (we b) hm, ha g σ H0 H E O _ fun v H1 H' t o rv => hb g σ H1 H' (E.mono t.ex) o _ fun w H2 H'' t2 o2 rw' =>
    hr g v w H2 H'' o2 (rv.mono t2.ex) rw' _ fun H3 H3' t3 o3 => ⟨x, rfl, q H3 H3' ((t.trans t2).trans t3) o3⟩⟩
theorem tj_cmpI {i j : Int} {z : Int → Int → V} {y : Bool} {op : CmpOp} (ha : EJ X Γ B a (.da (.int i)) B1) (hb : EJ X Γ B1 b (.da (.int j)) B2)
    (ho : OpR X (compareOp op) (rI0 z)) (hz : z i j = .bl y) (hm : behindInMarks op b = false) : TJ X Γ B (.Compare a [op] [b] pos) y B2 :=
  tj_cmp ha hb ho hm fun g v w H0 H O r1 r2 Q q => ⟨i, j, rvI r1, rvI r2, by rw [hz]; exact q H0 H To.refl O⟩
theorem tj_lt {i j : Int} (ha : EJ X Γ B a (.da (.int i)) B1) (hb : EJ X Γ B1 b (.da (.int j)) B2) : TJ X Γ B (.Compare a [.Lt] [b] pos) (decide (i < j)) B2 := tj_cmpI ha hb op_lt rfl (nomark _)
theorem tj_le {i j : Int} (ha : EJ X Γ B a (.da (.int i)) B1) (hb : EJ X Γ B1 b (.da (.int j)) B2) : TJ X Γ B (.Compare a [.LtE] [b] pos) (decide (i ≤ j)) B2 := tj_cmpI ha hb op_le rfl (nomark _)
theorem tj_gt {i j : Int} (ha : EJ X Γ B a (.da (.int i)) B1) (hb : EJ X Γ B1 b (.da (.int j)) B2) : TJ X Γ B (.Compare a [.Gt] [b] pos) (decide (j < i)) B2 := tj_cmpI ha hb op_gt rfl (nomark _)
theorem tj_ge {i j : Int} (ha : EJ X Γ B a (.da (.int i)) B1) (hb : EJ X Γ B1 b (.da (.int j)) B2) : TJ X Γ B (.Compare a [.GtE] [b] pos) (decide (j ≤ i)) B2 := tj_cmpI ha hb op_ge rfl (nomark _)
theorem tj_eq {x y : PyData} (hu : X.A.units + 64 < cLine) (ha : EJ X Γ B a (.da x) B1) (hb : EJ X Γ B1 b (.da y) B2) (hx : SeqAt.shaped x = true) (hy : SeqAt.shaped y = true) :
    TJ X Γ B (.Compare a [.Eq] [b] pos) (PyData.eqv x y) B2 :=
  tj_cmp ha hb (op_eqD hu) (nomark _) fun g v w H0 H O r1 r2 Q q => ⟨x, y, (Rp.mono O.ex r1).dp (nd_shaped hx), (Rp.mono O.ex r2).dp (nd_shaped hy), hx, hy, q H0 H To.refl O⟩
theorem tj_ne {x y : PyData} (hu : X.A.units + 64 < cLine) (ha : EJ X Γ B a (.da x) B1) (hb : EJ X Γ B1 b (.da y) B2) (hx : SeqAt.shaped x = true) (hy : SeqAt.shaped y = true) :
    TJ X Γ B (.Compare a [.NotEq] [b] pos) (!PyData.eqv x y) B2 :=
  tj_cmp ha hb (op_neD hu) (nomark _) fun g v w H0 H O r1 r2 Q q => ⟨x, y, (Rp.mono O.ex r1).dp (nd_shaped hx), (Rp.mono O.ex r2).dp (nd_shaped hy), hx, hy, q H0 H To.refl O⟩
theorem eqv_int (i j : Int) : PyData.eqv (.int i) (.int j) = decide (i = j) := by
  simp only [PyData.eqv]; exact Bool.beq_eq_decide_eq i j
theorem tj_eqI {i j : Int} (hu : X.A.units + 64 < cLine) (ha : EJ X Γ B a (.da (.int i)) B1) (hb : EJ X Γ B1 b (.da (.int j)) B2) : TJ X Γ B (.Compare a [.Eq] [b] pos) (decide (i = j)) B2 := by
  rw [← eqv_int]; exact tj_eq hu ha hb rfl rfl
theorem tj_neI {i j : Int} (hu : X.A.units + 64 < cLine) (ha : EJ X Γ B a (.da (.int i)) B1) (hb : EJ X Γ B1 b (.da (.int j)) B2) : TJ X Γ B (.Compare a [.NotEq] [b] pos) (!decide (i = j)) B2 := by
  rw [← eqv_int]; exact tj_ne hu ha hb rfl rfl
theorem tj_eqS {i j : Str} (ha : EJ X Γ B a (.da (.str i)) B1) (hb : EJ X Γ B1 b (.da (.str j)) B2) : TJ X Γ B (.Compare a [.Eq] [b] pos) (decide (i = j)) B2 :=
  tj_cmp ha hb op_eq (nomark _) fun g v w H0 H O r1 r2 Q q => by
    rw [rvS r1, rvS r2]
    have e : decide (V.str i = V.str j) = decide (i = j) := by
      by_cases h : i = j
      · subst h; simp
      · rw [decide_eq_false h, decide_eq_false fun z => h (V.str.inj z)]
    refine ⟨rfl, ?_⟩
    rw [e]; exact q H0 H To.refl O
theorem tj_is {x y : Bool} (h : TJ X Γ B e x B1) (hxy : x = y) : TJ X Γ B e y B1 := hxy ▸ h
theorem ej_is {x y : PyData} (h : EJ X Γ B e (.da x) B1) (hxy : x = y) : EJ X Γ B e (.da y) B1 := hxy ▸ h
theorem tj_not {x : Bool} (h : TJ X Γ B e x B1) : TJ X Γ B (.UnaryOp .Not e pos) (!x) B1 := fun g σ H0 H E O Q q =>
  ⟨_, pt_not (wt e), h g σ H0 H E O _ fun H1 H' t o => q H1 H' t o⟩
def WW (X : Cx) (e : Expr) : TT := fun σ H Q => ∃ t, PW X e t ∧ t σ H Q
theorem ww {X : Cx} (e : Expr) : PW X e (WW X e) := ⟨fun w p s σ H Q I ⟨_, ht, h⟩ => ht.run w p s σ H Q I h⟩
def WJ (X : Cx) (Γ : List VD) (B : Bag) (e : Expr) (b : Bool) (B' : Bag) : Prop :=
  ∀ g σ H0 H, EnvD X.K g H0 σ Γ → On X.K g B H0 H → ∀ Q : Bool → Hp → Prop, (∀ H0' H', To g H0 H H0' H' → On X.K g B' H0' H' → Q b H') → WW X e σ H Q
theorem tj_w {x : Bool} (h : WJ X Γ B e x B1) : TJ X Γ B e x B1 := fun g σ H0 H E O Q q => let ⟨t, h1, h2⟩ := h g σ H0 H E O Q q; ⟨t, h1.pt, h2⟩
theorem wj_and1 {x : Bool} (h : TJ X Γ B e x B1) : WJ X Γ B (.BoolOp .And [e] pos) x B1 := fun g σ H0 H E O Q q => ⟨_, pw_and1 (wt e), h g σ H0 H E O Q q⟩
theorem wj_or1 {x : Bool} (h : TJ X Γ B e x B1) : WJ X Γ B (.BoolOp .Or [e] pos) x B1 := fun g σ H0 H E O Q q => ⟨_, pw_or1 (wt e), h g σ H0 H E O Q q⟩
theorem wj_and {x y : Bool} (h : TJ X Γ B e x B) (hr : x = true → WJ X Γ B (.BoolOp .And (a :: es) pos) y B) : WJ X Γ B (.BoolOp .And (e :: a :: es) pos) (x && y) B := fun g σ H0 H E O Q q =>
  ⟨_, pw_and (wt e) (ww _), h g σ H0 H E O _ fun H1 H' t o => by
    cases x with
    | true => exact iteT (hr rfl g σ H1 H' (E.mono t.ex) o Q fun H2 H'' t2 o2 => q H2 H'' (t.trans t2) o2)
    | false => exact iteF (q H1 H' t o)⟩
theorem wj_or {x y : Bool} (h : TJ X Γ B e x B) (hr : x = false → WJ X Γ B (.BoolOp .Or (a :: es) pos) y B) : WJ X Γ B (.BoolOp .Or (e :: a :: es) pos) (x || y) B := fun g σ H0 H E O Q q =>
  ⟨_, pw_or (wt e) (ww _), h g σ H0 H E O _ fun H1 H' t o => by
    cases x with
    | true => exact iteT (q H1 H' t o)
    | false => exact iteF (hr rfl g σ H1 H' (E.mono t.ex) o Q fun H2 H'' t2 o2 => q H2 H'' (t.trans t2) o2)⟩
theorem ej_one {op} (h : EJ X Γ B e d B1) : EJ X Γ B (.BoolOp op [e] pos) d B1 := fun g σ H0 H E O Q q => ⟨_, pe_one (we e), h g σ H0 H E O Q q⟩
theorem ej_and {x y : Bool} (h : EJ X Γ B e (.da (.bool x)) B1) (hr : x = true → EJ X Γ B1 (.BoolOp .And (a :: es) pos) (.da (.bool y)) B1) : EJ X Γ B (.BoolOp .And (e :: a :: es) pos) (.da (.bool (x && y))) B1 := fun g σ H0 H E O Q q =>
  ⟨_, pe_and (we e) (we _), h g σ H0 H E O _ fun v H1 H' t o r => ⟨x, rvB r, by
    cases x with
    | true => exact iteT (hr rfl g σ H1 H' (E.mono t.ex) o Q fun z H2 H'' t2 o2 r2 => q z H2 H'' (t.trans t2) o2 r2)
    | false => exact iteF (q _ H1 H' t o (Rp.bl _))⟩⟩
theorem ej_or {x y : Bool} (h : EJ X Γ B e (.da (.bool x)) B1) (hr : x = false → EJ X Γ B1 (.BoolOp .Or (a :: es) pos) (.da (.bool y)) B1) : EJ X Γ B (.BoolOp .Or (e :: a :: es) pos) (.da (.bool (x || y))) B1 := fun g σ H0 H E O Q q =>
  ⟨_, pe_or (we e) (we _), h g σ H0 H E O _ fun v H1 H' t o r => ⟨x, rvB r, by
    cases x with
    | true => exact iteT (q _ H1 H' t o (Rp.bl _))
    | false => exact iteF (hr rfl g σ H1 H' (E.mono t.ex) o Q fun z H2 H'' t2 o2 r2 => q z H2 H'' (t.trans t2) o2 r2)⟩⟩
theorem ej_if {x : Bool} (h : TJ X Γ B c x B1) (h1 : x = true → EJ X Γ B1 a d B2) (h2 : x = false → EJ X Γ B1 b d B2) : EJ X Γ B (.IfExp c a b pos) d B2 := fun g σ H0 H E O Q q =>
  ⟨_, pe_ifExp (wt c) (we a) (we b), h g σ H0 H E O _ fun H1 H' t o => by
    cases x with
    | true => exact iteT (h1 rfl g σ H1 H' (E.mono t.ex) o Q fun z H2 H'' t2 o2 r2 => q z H2 H'' (t.trans t2) o2 r2)
    | false => exact iteF (h2 rfl g σ H1 H' (E.mono t.ex) o Q fun z H2 H'' t2 o2 r2 => q z H2 H'' (t.trans t2) o2 r2)⟩
theorem sj_nil (h : E.nx Γ B) : SJ X Γ B [] E := fun g σ H0 H Ev O D G => ⟨_, pss_nil, G.nx Γ B σ H0 H h To.refl Ev O⟩
theorem sj_ret (h : EJ X Γ B e (.da da') B1) (hr : E.rt da' B1) : SJ X Γ B (.Return (some e) pos :: rest) E := fun g σ H0 H Ev O D G =>
  ⟨_, pss_cons (ps_ret (we e)) (ws rest), h g σ H0 H Ev O _ fun v H1 H' t o r => G.rt _ B1 v H1 H' hr t o r⟩
theorem sj_set (i : Nat) {x : Str} (nd : X.N.Nodup) (h : EJ X Γ B e d B1) (k : SJ X (Γ.set i d) B1 rest E) (hi : X.N[i]? = some x := by rfl)
    (hx : Loc X.env.scope x := by first | exact Or.inl rfl | exact Or.inr rfl) (hs : swapsWith e (some (.Name x pos')) pos.line X.env = pure false := by rfl)
    (hf : X.fn x = true ∨ X.env.scope.names.lookup x = some .local := by first | exact Or.inl rfl | exact Or.inr rfl) : SJ X Γ B (.Assign [.Name x pos'] e pos :: rest) E := fun g σ H0 H Ev O D G =>
  ⟨_, pss_cons (ps_set nd hi hx (we e) hs hf) (ws rest), h g σ H0 H Ev O _ fun v H1 H' t o r => k g _ H1 H' ((Ev.mono t.ex).set i r) o D (G.on t)⟩
theorem sj_if {x : Bool} (h : TJ X Γ B c x B1) (h1 : x = true → SJ X Γ B1 s1 { E with nx := fun Γ' B' => SJ X Γ' B' rest E }) (h2 : x = false → SJ X Γ B1 s2 { E with nx := fun Γ' B' => SJ X Γ' B' rest E }) :
    SJ X Γ B (.If c s1 s2 pos :: rest) E := fun g σ H0 H Ev O D G =>
  ⟨_, pss_cons (ps_if (wt c) (ws s1) (ws s2)) (ws rest), h g σ H0 H Ev O _ fun H1 H' t o => by
    have G' : Gets X { E with nx := fun Γ' B' => SJ X Γ' B' rest E } g H1 H' { D with nx := WS X rest D } :=
      ⟨fun Γ2 B2 σ2 H2 H'' q t2 ev o2 => q g σ2 H2 H'' ev o2 D (G.on (t.trans t2)), (G.on t).rt, (G.on t).bk, (G.on t).ct⟩
    cases x with
    | true => exact iteT (h1 rfl g σ H1 H' (Ev.mono t.ex) o _ G')
    | false => exact iteF (h2 rfl g σ H1 H' (Ev.mono t.ex) o _ G')⟩
theorem sj_when {x : Bool} (h : TJ X Γ B c x B1) (h1 : x = true → SJ X Γ B1 s1 { E with nx := fun Γ' B' => SJ X Γ' B' rest E }) (h2 : x = false → SJ X Γ B1 rest E) :
    SJ X Γ B (.If c s1 [] pos :: rest) E := sj_if h h1 fun e => sj_nil (h2 e)
theorem sj_mono {E' : En} (h : SJ X Γ B ss E) (h1 : ∀ Γ B, E.nx Γ B → E'.nx Γ B) (h2 : ∀ r B, E.rt r B → E'.rt r B) (h3 : ∀ Γ B, E.bk Γ B → E'.bk Γ B) (h4 : ∀ Γ B, E.ct Γ B → E'.ct Γ B) : SJ X Γ B ss E' :=
  fun g σ H0 H Ev O D G => h g σ H0 H Ev O D ⟨fun Γ B σ a b q => G.nx Γ B σ a b (h1 _ _ q), fun r B v a b q => G.rt r B v a b (h2 _ _ q), fun Γ B σ a b q => G.bk Γ B σ a b (h3 _ _ q), fun Γ B σ a b q => G.ct Γ B σ a b (h4 _ _ q)⟩
end
end Gd
namespace Gd
open PySem PySem.Spec PyProof.Rows L2
def cutP (ds : List PyData) (lo hi : Option Int) : List PyData := (ds.drop (HT.sIx ds.length 0 lo)).take (HT.sIx ds.length ds.length hi - HT.sIx ds.length 0 lo)
theorem RpAll.cut {K : PySem.W.Frag} {H : Hp} {xs : List V} {ds : List PyData} (r : RpAll K H xs ds) (lo hi : Option Int) : RpAll K H (cutV xs lo hi) (cutP ds lo hi) := by
  unfold cutV cutP
  rw [r.length]
  exact (r.drop _).take _
theorem RpAll.ints {K : PySem.W.Frag} {H : Hp} : ∀ ns : List Int, RpAll K H (ns.map V.int) (ns.map PyData.int)
  | [] => .nil
  | n :: ns => .cons (.int n) (RpAll.ints ns)
theorem RpAll.ints_of {K : PySem.W.Frag} {H : Hp} : ∀ {xs : List V} {ns : List Int}, RpAll K H xs (ns.map PyData.int) → xs = ns.map V.int
  | [], [], _ => rfl
  | _ :: _, n :: ns, .cons h r => by
    cases h
    rw [RpAll.ints_of r]; rfl
section
variable {X : Cx} {Γ : List VD} {B B1 B2 B3 B' : Bag} {e a b c : Expr} {es : List Expr} {d da db dc : VD} {pos p pos' : Pos} {rest ss s1 s2 : List Stmt} {E : En}
def OJ (X : Cx) (Γ : List VD) (B : Bag) (o : Option Expr) (v : Option Int) (B' : Bag) : Prop :=
  ∀ g σ H0 H, EnvD X.K g H0 σ Γ → On X.K g B H0 H → ∀ Q : Option Int → Hp → Prop,
    (∀ H0' H', To g H0 H H0' H' → On X.K g B' H0' H' → Q v H') → ∃ t, PO X o t ∧ t σ H Q
theorem oj_none : OJ X Γ B none none B := fun g σ H0 H _ O Q q => ⟨_, po_none, q H0 H To.refl O⟩
theorem oj_some {i : Int} (h : EJ X Γ B e (.da (.int i)) B1) : OJ X Γ B (some e) (some i) B1 := fun g σ H0 H E O Q q =>
  ⟨_, po_some (we e), h g σ H0 H E O _ fun v H1 H' t o r => ⟨i, rvI r, q H1 H' t o⟩⟩
def WO (X : Cx) (o : Option Expr) : TO := fun σ H Q => ∃ t, PO X o t ∧ t σ H Q
theorem wo (o : Option Expr) : PO X o (WO X o) := ⟨fun p s σ H Q I ⟨_, ht, h⟩ => ht.run p s σ H Q I h⟩
theorem ej_slice {r : V → Option Int → Option Int → Hp → VK → Prop} {lo hi : Option Expr} {l u : Option Int} {p2 : Pos} (hr : SlR X r) (ha : EJ X Γ B a da B1) (hl : OJ X Γ B1 lo l B2) (hu : OJ X Γ B2 hi u B3)
    (k : ∀ g v H0 H, On X.K g B3 H0 H → Rv X.K g H0 v da → ∀ Q : VK, (∀ z H0' H', To g H0 H H0' H' → On X.K g B3 H0' H' → Rv X.K g H0' z d → Q z H') → r v l u H Q) :
    EJ X Γ B (.Subscript a (.Slice lo hi none p2) pos) d B3 := fun g σ H0 H E O Q q =>
  ⟨_, pe_slice hr (we a) (wo lo) (wo hi), ha g σ H0 H E O _ fun v H1 H' t o rv => hl g σ H1 H' (E.mono t.ex) o _ fun H2 H'' t2 o2 =>
    hu g σ H2 H'' (E.mono (t.trans t2).ex) o2 _ fun H3 H3' t3 o3 => k g v H3 H3' o3 (rv.mono (t2.trans t3).ex) Q fun z H4 H4' t4 o4 r4 => q z H4 H4' (((t.trans t2).trans t3).trans t4) o4 r4⟩
theorem ej_sliceL {lo hi : Option Expr} {l u : Option Int} {p2 : Pos} {ds : List PyData} (ha : EJ X Γ B a (.da (.list ds)) B1) (hl : OJ X Γ B1 lo l B2) (hu : OJ X Γ B2 hi u B3) :
    EJ X Γ B (.Subscript a (.Slice lo hi none p2) pos) (.da (.list (cutP ds l u))) B3 :=
  ej_slice sl_list ha hl hu fun g v H0 H O r Q q => by
    obtain ⟨p, xs, rfl, hx, rs⟩ := rvL r
    refine ⟨p, xs, rfl, SqL.of (O.ex _ _ hx), fun n hn => ?_⟩
    obtain ⟨t2, o2⟩ := laid (o := .lst (cutV xs l u)) O hn
    exact q _ _ _ t2 o2 (Rp.lst upd_same ((rs.cut l u).mono t2.ex))
theorem ej_sliceT {lo hi : Option Expr} {l u : Option Int} {p2 : Pos} {ds : List PyData} (ha : EJ X Γ B a (.da (.tuple ds)) B1) (hl : OJ X Γ B1 lo l B2) (hu : OJ X Γ B2 hi u B3) :
    EJ X Γ B (.Subscript a (.Slice lo hi none p2) pos) (.da (.tuple (cutP ds l u))) B3 :=
  ej_slice sl_tupA ha hl hu fun g v H0 H O r Q q => by
    obtain ⟨p, xs, rfl, hx, rs⟩ := rvT r
    refine ⟨p, xs, rfl, seqT O.ex hx, fun w => ?_, fun _ n hn => ?_⟩
    · have e : cutP ds l u = ds := by
        rw [rs.length] at w
        unfold cutP
        rw [w.1, w.2]
        simp
      have q := q (.ref p) H0 H To.refl O
      rw [e] at q
      exact q (Rp.tup hx rs)
    · obtain ⟨t2, o2⟩ := laid (o := .tup (cutV xs l u)) O hn
      exact q _ _ _ t2 o2 (Rp.tup (SqT.of upd_same) ((rs.cut l u).mono t2.ex))
theorem ej_sliceScr {lo hi : Option Expr} {l u : Option Int} {p2 : Pos} {ns : List Int} (ha : EJ X Γ B a (.scr ns) B1) (hl : OJ X Γ B1 lo l B2) (hu : OJ X Γ B2 hi u B3) :
    EJ X Γ B (.Subscript a (.Slice lo hi none p2) pos) (.da (.list (cutP (ns.map .int) l u))) B3 :=
  ej_slice sl_list ha hl hu fun g v H0 H O r Q q => by
    obtain ⟨p, rfl, hx⟩ := r
    refine ⟨p, _, rfl, O.ex.seq hx, fun n hn => ?_⟩
    obtain ⟨t2, o2⟩ := laid (o := .lst (cutV (ns.map V.int) l u)) O hn
    exact q _ _ _ t2 o2 (Rp.lst upd_same ((RpAll.ints ns).cut l u))
theorem ej_bagAt {i : Int} {y : PyData} {k : Nat} (ha : EJ X Γ B a .bag B1) (hb : EJ X Γ B1 b (.da (.int i)) B2) (hi : i = (k : Int)) (hk : k = 0 ∧ y = .int B2.x ∨ k = 1 ∧ y = .int B2.y ∨ k = 2 ∧ y = .int B2.z ∨ k = 3 ∧ y = .list (B2.cs.map .int)) (hs : PlainIx b) :
    EJ X Γ B (.Subscript a b pos) (.da y) B2 :=
  ej_bin ha hb (fun _ _ h1 h2 => pe_ix ix_list h1 h2 hs) fun g v w H0 H O r1 r2 Q q => by
    obtain ⟨p, l, hg, rfl⟩ := r1
    obtain ⟨_, h2, h3⟩ := O.bag p l hg
    subst hi
    rcases hk with ⟨rfl, rfl⟩ | ⟨rfl, rfl⟩ | ⟨rfl, rfl⟩ | ⟨rfl, rfl⟩
    · exact ⟨p, _, _, _, rfl, rvI r2, SqL.of h2, rfl, q _ _ _ To.refl O (Rp.int _)⟩
    · exact ⟨p, _, _, _, rfl, rvI r2, SqL.of h2, rfl, q _ _ _ To.refl O (Rp.int _)⟩
    · exact ⟨p, _, _, _, rfl, rvI r2, SqL.of h2, rfl, q _ _ _ To.refl O (Rp.int _)⟩
    · exact ⟨p, _, _, _, rfl, rvI r2, SqL.of h2, rfl, q _ _ _ To.refl O (Rp.lst h3 (RpAll.ints _))⟩
theorem bagged {K : PySem.W.Frag} {g : Gh} {B B' : Bag} {H0 H : Hp} {a l : Addr} (O : On K g B H0 H) (hg : g = some (a, l)) (hc : B'.cs = B.cs) :
    To g H0 H H0 (upd H a (.lst (bagCells B' l))) ∧ On K g B' H0 (upd H a (.lst (bagCells B' l))) := by
  obtain ⟨h1, h2, h3⟩ := O.bag a l hg
  refine ⟨⟨Same.refl _, fun q u f e1 e2 => ⟨e1, ?_⟩⟩, ⟨fun q u e => ?_, fun q m e => ?_⟩⟩
  · rw [upd_ne (fun z => f l (by rw [z]; exact hg))]; exact e2
  · rw [upd_ne (ne_of_none e h1)]; exact O.ex _ _ e
  · rw [hg] at e; cases e
    exact ⟨h1, upd_same, by rw [hc]; exact h3⟩
theorem sj_bagSet {i n : Int} {k : Nat} {px : Pos} (hv : EJ X Γ B e (.da (.int n)) B1) (ha : EJ X Γ B1 a .bag B2) (hb : EJ X Γ B2 b (.da (.int i)) B3) (hi : i = (k : Int))
    (hk : k = 0 ∧ B' = { B3 with x := n } ∨ k = 1 ∧ B' = { B3 with y := n } ∨ k = 2 ∧ B' = { B3 with z := n }) (q : SJ X Γ B' rest E)
    (h1 : swapsWithSole [.Subscript a b px] e pos.line X.env = pure false := by rfl) (h2 : swappedStores [.Subscript a b px] e X.env = pure none := by rfl)
    (h3 : (assignEach [.Subscript a b px] X.env).map (·.2) = [assign (.Subscript a b px) X.env] := by rfl)
    (h4 : ∀ v, assign (.Subscript a b px) X.env v = (do
      let ov ← holding [v] (eval a X.env)
      let iv ← holding [v, ov] (eval b X.env)
      standAt px; holding [v, ov, iv] (setItem ov iv v)
      release [v, ov, iv] []) := by intro _; rfl) :
    SJ X Γ B (.Assign [.Subscript a b px] e pos :: rest) E := fun g σ H0 H Ev O D G =>
  ⟨_, pss_cons (ps_asg (we e) (pg_sub (we a) (we b) set_list h4) h1 h2 h3) (ws rest), hv g σ H0 H Ev O _ fun v H1 H' t o rv => ha g σ H1 H' (Ev.mono t.ex) o _ fun w H2 H'' t2 o2 rw' =>
    hb g σ H2 H'' (Ev.mono (t.trans t2).ex) o2 _ fun u H3 H3' t3 o3 ru => by
      obtain ⟨p, l, hg, rfl⟩ := rw'
      rw [rvI ru, rvI rv]
      subst hi
      obtain ⟨_, e2, _⟩ := o3.bag p l hg
      have tt := (t.trans t2).trans t3
      have fin : ∀ (H4 : Hp), H4 = upd H3' p (.lst (bagCells B' l)) → B'.cs = B3.cs → WS X rest D σ H4 := by
        rintro H4 rfl hc
        obtain ⟨t4, o4⟩ := bagged o3 hg hc
        exact q g σ H3 _ (Ev.mono tt.ex) o4 D (G.on (tt.trans t4))
      rcases hk with ⟨rfl, rfl⟩ | ⟨rfl, rfl⟩ | ⟨rfl, rfl⟩
      · exact ⟨p, _, _, 0, rfl, rfl, e2, rfl, fin _ rfl rfl⟩
      · exact ⟨p, _, _, 1, rfl, rfl, e2, rfl, fin _ rfl rfl⟩
      · exact ⟨p, _, _, 2, rfl, rfl, e2, rfl, fin _ rfl rfl⟩⟩
def rGetL : V → V → Hp → VK → Prop := fun o i H Q => ∃ p xs k v, o = .ref p ∧ i = .int ((k : Nat) : Int) ∧ H p = some (.lst xs) ∧ xs[k]? = some v ∧ k < 1000 ∧ Q v H
theorem get_list : PGet X rGetL := by
  intro pins s σ H o i ov iv Q I r1 r2 h
  obtain ⟨p, xs, k, v, rfl, rfl, hp, hv, hk, q⟩ := h
  cases (show ov = Value.ref p from r1)
  obtain ⟨t, rfl⟩ := r2
  obtain ⟨its, r, pl, hz⟩ := I.list (SqL.of hp)
  obtain ⟨u, hu, ru⟩ := r.get hv
  refine wpAny_getItem_list pl.isList (Int.natCast_nonneg k) (by omega) ?_ ⟨v, H, I, ru, q⟩
  rw [Int.toNat_natCast]; simpa using hu
theorem sj_bagAug {n : Int} {px : Pos} (ha : EJ X Γ B a .bag B1) (hb : EJ X Γ B1 b (.da (.int 2)) B2) (hv : EJ X Γ B2 e (.da (.int n)) B3) (hz : B3.z = B2.z) (q : SJ X Γ { B3 with z := B3.z + n } rest E)
    (h1 : ∀ ov iv new, augStore b ov iv new = (do holding [new, ov, iv] (setItem ov iv new); release [new, ov, iv] []; pure .next) := by intros; rfl) :
    SJ X Γ B (.AugAssign (.Subscript a b px) .Add e pos :: rest) E := fun g σ H0 H Ev O D G =>
  ⟨_, pss_cons (ps_augS (we a) (we b) get_list (we e) ip_add set_list h1) (ws rest), ha g σ H0 H Ev O _ fun w H1 H' t o rw' => hb g σ H1 H' (Ev.mono t.ex) o _ fun u H2 H'' t2 o2 ru => by
    obtain ⟨p, l, hg, rfl⟩ := rw'
    rw [rvI ru]
    obtain ⟨_, e2, _⟩ := o2.bag p l hg
    refine ⟨p, _, 2, .int B2.z, rfl, rfl, e2, rfl, by omega, ?_⟩
    refine hv g σ H2 H'' (Ev.mono (t.trans t2).ex) o2 _ fun v H3 H3' t3 o3 rv => ?_
    rw [rvI rv]
    obtain ⟨_, e3, _⟩ := o3.bag p l hg
    have tt := (t.trans t2).trans t3
    refine ⟨B2.z, n, rfl, rfl, p, _, 2, 2, rfl, rfl, e3, rfl, ?_⟩
    obtain ⟨t4, o4⟩ := bagged (B' := { B3 with z := B3.z + n }) o3 hg rfl
    rw [← hz]
    exact q g σ H3 _ (Ev.mono tt.ex) o4 D (G.on (tt.trans t4))⟩
theorem sj_while (nd : X.N.Nodup) (P : List VD → Bag → Prop) (μ : List VD → Bag → Nat) (h0 : P Γ B)
    (hs : ∀ Γ B, P Γ B → ∃ x, TJ X Γ B c x B ∧
      (x = true → SJ X Γ B s1 { nx := fun Γ' B' => P Γ' B' ∧ μ Γ' B' < μ Γ B, ct := fun Γ' B' => P Γ' B' ∧ μ Γ' B' < μ Γ B, bk := fun Γ' B' => SJ X Γ' B' rest E, rt := E.rt }) ∧
      (x = false → SJ X Γ B rest E))
    (hp : PassesOwn (model X.prog X.w) X.A X.env X.xe := by exact PassesOwn.never) : SJ X Γ B (.While c s1 [] pos :: rest) E := fun g σ H0 H Ev O D G =>
  ⟨_, pss_cons (ps_while hp (wt c) (ws s1)) (ws rest), by
    refine ⟨fun m σ' H' => ∃ Γ' B' H1, P Γ' B' ∧ μ Γ' B' = m ∧ To g H0 H H1 H' ∧ EnvD X.K g H1 σ' Γ' ∧ On X.K g B' H1 H', ⟨_, Γ, B, H0, h0, rfl, To.refl, Ev, O⟩, ?_⟩
    rintro m σ' H' ⟨Γ', B', H1, hP, rfl, t, ev, o⟩
    obtain ⟨x, ht, hb, hd⟩ := hs Γ' B' hP
    refine ht g σ' H1 H' ev o _ fun H2 H'' t2 o2 => ?_
    have tt := t.trans t2
    cases x with
    | true =>
      refine iteT ⟨fun σ2 H3' => ∃ m', m' < μ Γ' B' ∧ ∃ Γ2 B2 H3, P Γ2 B2 ∧ μ Γ2 B2 = m' ∧ To g H0 H H3 H3' ∧ EnvD X.K g H3 σ2 Γ2 ∧ On X.K g B2 H3 H3', fun _ _ z => z, ?_⟩
      refine hb rfl g σ' H2 H'' (ev.mono t2.ex) o2 _ ⟨?_, ?_, ?_, ?_⟩
      · rintro Γ3 B3 σ3 H3 H3' ⟨q1, q2⟩ t3 e3 o3
        exact ⟨_, q2, Γ3, B3, H3, q1, rfl, tt.trans t3, e3, o3⟩
      · intro r B3 v H3 H3' q t3 o3 rv
        exact (G.on tt).rt r B3 v H3 H3' q t3 o3 rv
      · intro Γ3 B3 σ3 H3 H3' q t3 e3 o3
        exact q g σ3 H3 H3' e3 o3 D (G.on (tt.trans t3))
      · rintro Γ3 B3 σ3 H3 H3' ⟨q1, q2⟩ t3 e3 o3
        exact ⟨_, q2, Γ3, B3, H3, q1, rfl, tt.trans t3, e3, o3⟩
    | false => exact iteF (hd rfl g σ' H2 H'' (ev.mono t2.ex) o2 D (G.on tt))⟩
theorem sj_forT (j : Nat) {x : Str} {ds : List PyData} {px : Pos} (nd : X.N.Nodup) (hc : X.calm = true) (P : Nat → List VD → Bag → Prop) (hi : EJ X Γ B e (.da (.tuple ds)) B1) (h0 : P 0 Γ B1)
    (hs : ∀ i y Γ' B', ds[i]? = some y → P i Γ' B' → SJ X (Γ'.set j (.da y)) B' s1 { nx := P (i + 1), ct := P (i + 1), bk := fun Γ' B' => SJ X Γ' B' rest E, rt := E.rt })
    (hd : ∀ Γ' B', P ds.length Γ' B' → SJ X Γ' B' rest E) (hN : X.N[j]? = some x := by rfl) (hx : Loc X.env.scope x := by first | exact Or.inl rfl | exact Or.inr rfl)
    (hf : X.fn x = true ∨ X.env.scope.names.lookup x = some .local := by first | exact Or.inl rfl | exact Or.inr rfl)
    (hp : PassesOwn (model X.prog X.w) X.A X.env X.xe := by exact PassesOwn.never) (hq : ∀ x, foldedSetIterable e X.env x = pure x := by intro _; rfl) :
    SJ X Γ B (.For (.Name x px) e s1 [] pos :: rest) E := fun g σ H0 H Ev O D G =>
  ⟨_, pss_cons (ps_for hp hc (pi_tup (we e)) (pg_name nd hN hx hf) (ws s1) hq) (ws rest), hi g σ H0 H Ev O _ fun v H1 H' t o r => by
    obtain ⟨p, xs, rfl, hxs, rs⟩ := rvT r
    refine ⟨p, rfl, ⟨xs, seqT o.ex hxs⟩, ?_⟩
    refine for_tup (xs := xs) (fun i σ' H'' => ∃ Γ' B' H2, P i Γ' B' ∧ To g H1 H' H2 H'' ∧ EnvD X.K g H2 σ' Γ' ∧ On X.K g B' H2 H'') ⟨Γ, B1, H1, h0, To.refl, Ev.mono t.ex, o⟩ ?_ ?_ ?_
    · rintro i σ' H'' _ ⟨Γ', B', H2, _, t2, _, o2⟩
      exact seqT o2.ex (seqT t2.ex hxs)
    · rintro i y σ' H'' hy ⟨Γ', B', H2, hP, t2, e2, o2⟩
      obtain ⟨d, hdi, rd⟩ := rs.get hy
      refine hs i d Γ' B' hdi hP g _ H2 H'' (e2.set j (Rp.mono t2.ex rd)) o2 _ ⟨?_, ?_, ?_, ?_⟩
      · intro Γ3 B3 σ3 H3 H3' q t3 e3 o3
        exact ⟨Γ3, B3, H3, q, t2.trans t3, e3, o3⟩
      · intro r B3 v H3 H3' q t3 o3 rv
        exact (G.on (t.trans t2)).rt r B3 v H3 H3' q t3 o3 rv
      · intro Γ3 B3 σ3 H3 H3' q t3 e3 o3
        exact q g σ3 H3 H3' e3 o3 D (G.on ((t.trans t2).trans t3))
      · intro Γ3 B3 σ3 H3 H3' q t3 e3 o3
        exact ⟨Γ3, B3, H3, q, t2.trans t3, e3, o3⟩
    · rintro σ' H'' ⟨Γ', B', H2, hP, t2, e2, o2⟩
      rw [rs.length] at hP
      exact hd Γ' B' hP g σ' H2 H'' e2 o2 D (G.on (t.trans t2))⟩
theorem sj_par (i j : Nat) {x y : Str} {px py pt : Pos} {kt k2 pt2} {d1 d2 : VD} (nd : X.N.Nodup) (hc : X.calm = true) (h : AJ X Γ B [a, b] [d1, d2] B1) (k : SJ X ((Γ.set i d1).set j d2) B1 rest E)
    (hij : i ≠ j) (hw : swappedStores [.Tuple [.Name x px, .Name y py] kt pt] (.Tuple [a, b] k2 pt2) X.env = pure (some [x, y])) (hi : X.N[i]? = some x := by rfl) (hj : X.N[j]? = some y := by rfl)
    (hx : X.env.scope.names.lookup x = some .local := by rfl) (hy : X.env.scope.names.lookup y = some .local := by rfl)
    (hsw : swapsWithSole [.Tuple [.Name x px, .Name y py] kt pt] (.Tuple [a, b] k2 pt2) pos.line X.env = pure false := by rfl) :
    SJ X Γ B (.Assign [.Tuple [.Name x px, .Name y py] kt pt] (.Tuple [a, b] k2 pt2) pos :: rest) E := fun g σ H0 H Ev O D G =>
  ⟨_, pss_cons (ps_par hc nd hi hj hij hx hy (wa [a, b]) hw hsw) (ws rest), h g σ H0 H Ev O _ fun vs H1 H' t o r => by
    obtain ⟨v, w, rfl, r1, r2⟩ := rv2 r
    exact ⟨v, w, rfl, k g _ H1 H' (((Ev.mono t.ex).set i r1).set j r2) o D (G.on t)⟩⟩
def gNames : List Nat → TGs
  | [] => gNil
  | i :: is => gCons (gName i) (gNames is)
def setAll (Γ : List VD) : List Nat → List PyData → List VD
  | i :: is, d :: ds => setAll (Γ.set i (.da d)) is ds
  | _, _ => Γ
theorem gNames_run {K : PySem.W.Frag} {g : Gh} {H0 H : Hp} {Q : L2.St → Hp → Prop} : ∀ (is : List Nat) (vs : List V) (ds : List PyData) (σ : L2.St) (Γ : List VD), RpAll K H0 vs ds → is.length = ds.length → EnvD K g H0 σ Γ →
    (∀ σ', EnvD K g H0 σ' (setAll Γ is ds) → Q σ' H) → gNames is vs σ H Q
  | [], _, _, σ, Γ, .nil, _, e, q => ⟨rfl, q σ e⟩
  | i :: is, _, _, σ, Γ, .cons h r, hl, e, q => ⟨_, _, rfl, gNames_run is _ _ _ _ r (Nat.succ.inj hl) (e.set (d := .da _) i h) q⟩
theorem sj_unpack (is : List Nat) {ts : List Expr} {k} {pt : Pos} {ds : List PyData} (hc : X.calm = true) (h : EJ X Γ B e (.da (.tuple ds)) B1) (hg : PGs X ts (gNames is)) (hl : is.length = ds.length)
    (q : SJ X (setAll Γ is ds) B1 rest E) (hn : (assignEach ts X.env).length = ds.length := by rfl) (hst : (assignEach ts X.env).findIdx? (·.1) = none := by rfl)
    (h1 : swapsWithSole [.Tuple ts k pt] e pos.line X.env = pure false := by rfl) (h2 : swappedStores [.Tuple ts k pt] e X.env = pure none := by rfl)
    (h3 : (assignEach [.Tuple ts k pt] X.env).map (·.2) = [assign (.Tuple ts k pt) X.env] := by rfl) : SJ X Γ B (.Assign [.Tuple ts k pt] e pos :: rest) E := fun g σ H0 H Ev O D G =>
  ⟨_, pss_cons (ps_asg (we e) (pg_tup hc hg hn hst) h1 h2 h3) (ws rest), h g σ H0 H Ev O _ fun v H1 H' t o r => by
    obtain ⟨p, xs, rfl, hxs, rs⟩ := rvT r
    exact ⟨p, xs, rfl, seqT o.ex hxs, rs.length, gNames_run is xs ds σ Γ rs hl (Ev.mono t.ex) fun σ' e' => q g σ' H1 H' e' o D (G.on t)⟩⟩
def Blk (X : Cx) (scope : Scope) (J : Cx → Prop) : Prop := ∀ (s : Shared) (H : Hp) (C : Addr) (cl : List (Str × Addr)) (fp : List Addr), J (X.blk s H scope (compEnvC scope cl C X.env) fp)
def WB (X : Cx) (scope : Scope) (e : Expr) : TE := fun σ H Q => ∀ (s : Shared) (H' : Hp) (C : Addr) (cl : List (Str × Addr)) (fp : List Addr), WE (X.blk s H' scope (compEnvC scope cl C X.env) fp) e σ H Q
theorem wb (scope : Scope) (e : Expr) (s : Shared) (H : Hp) (C : Addr) (cl : List (Str × Addr)) (fp : List Addr) : PE (X.blk s H scope (compEnvC scope cl C X.env) fp) e (WB X scope e) :=
  ⟨fun pins s' σ H' Q I h => (we e).run pins s' σ H' Q I (h s H C cl fp)⟩
structure LcI (K : PySem.W.Frag) (g : Gh) (H1 H' : Hp) (A : Addr) (acc : List PyData) (B : Bag) (H2 H'' : Hp) : Prop where
  to : To g H1 H' H2 H''
  new : H' A = none
  no : H2 A = none
  at' : ∃ zs, H'' A = some (.lst zs) ∧ RpAll K H2 zs acc
  on : On K g B H2 H''
theorem lcI_start {K : PySem.W.Frag} {g : Gh} {H1 H' : Hp} {A : Addr} (o : On K g B H1 H') (h : H' A = none) : Off g A ∧ LcI K g H1 H' A [] B H1 (upd H' A (.lst [])) := by
  have h1 : H1 A = none := o.ex.free h
  have off : Off g A := fun l e => by
    obtain ⟨_, q, _⟩ := o.bag A l e
    rw [h] at q; cases q
  refine ⟨off, ⟨⟨Same.refl _, fun q u f e1 e2 => ⟨e1, ?_⟩⟩, h, h1, ⟨[], upd_same, .nil⟩, ⟨fun q u e => ?_, fun q l e => ?_⟩⟩⟩
  · rw [upd_ne (ne_of_none e2 h)]; exact e2
  · rw [upd_ne (ne_of_none e h1)]; exact o.ex _ _ e
  · obtain ⟨q1, q2, q3⟩ := o.bag q l e
    exact ⟨q1, by rw [upd_ne (ne_of_none q2 h)]; exact q2, q3⟩
theorem lcI_app {K : PySem.W.Frag} {g : Gh} {H1 H' : Hp} {A : Addr} {acc : List PyData} {H2 H'' H3 H3' : Hp} {v : V} {y : PyData} (off : Off g A) (I : LcI K g H1 H' A acc B1 H2 H'') (t : To g H2 H'' H3 H3') (o : On K g B2 H3 H3') (r : Rp K H3 v y) :
    ∃ zs, H3' A = some (.lst zs) ∧ zs.length = acc.length ∧ LcI K g H1 H' A (acc ++ [y]) B2 H3 (upd H3' A (.lst (zs ++ [v]))) := by
  obtain ⟨zs, h1, h2⟩ := I.at'
  obtain ⟨h3, h4⟩ := t.un A _ off I.no h1
  refine ⟨zs, h4, h2.length, ⟨⟨I.to.ex.trans t.ex, fun q u f e1 e2 => ?_⟩, I.new, h3, ⟨_, upd_same, (h2.mono t.ex).app (.cons r .nil)⟩, ⟨fun q u e => ?_, fun q l e => ?_⟩⟩⟩
  · by_cases hq : q = A
    · subst hq
      have z := I.new
      rw [e2] at z; cases z
    · obtain ⟨q1, q2⟩ := I.to.un q u f e1 e2
      obtain ⟨q3, q4⟩ := t.un q u f q1 q2
      exact ⟨q3, by rw [upd_ne hq]; exact q4⟩
  · rw [upd_ne (ne_of_none e h3)]; exact o.ex _ _ e
  · obtain ⟨q1, q2, q3⟩ := o.bag q l e
    have hq : q ≠ A := fun z => off l (by rw [← z]; exact e)
    exact ⟨q1, by rw [upd_ne hq]; exact q2, q3⟩
theorem lcI_end {K : PySem.W.Frag} {g : Gh} {H0 H H1 H' : Hp} {A : Addr} {acc : List PyData} {H2 H'' : Hp} (off : Off g A) (t : To g H0 H H1 H') (I : LcI K g H1 H' A acc B H2 H'') :
    ∃ H3, To g H0 H H3 H'' ∧ On K g B H3 H'' ∧ Rp K H3 (.ref A) (.list acc) := by
  obtain ⟨zs, h1, h2⟩ := I.at'
  have tt := t.trans I.to
  have up : Same H2 (upd H2 A (.lst zs)) := fun q u e => by rw [upd_ne (ne_of_none e I.no)]; exact e
  refine ⟨upd H2 A (.lst zs), ⟨tt.ex.trans up, fun q u f e1 e2 => ?_⟩, ⟨fun q u e => ?_, fun q l e => ?_⟩, Rp.lst upd_same (h2.mono up)⟩
  · obtain ⟨q1, q2⟩ := tt.un q u f e1 e2
    have hq : q ≠ A := fun z => by
      subst z
      obtain ⟨_, q3⟩ := t.un q u f e1 e2
      rw [I.new] at q3; cases q3
    exact ⟨by rw [upd_ne hq]; exact q1, q2⟩
  · by_cases hq : q = A
    · subst hq; rw [upd_same] at e; cases e; exact h1
    · rw [upd_ne hq] at e; exact I.on.ex _ _ e
  · obtain ⟨q1, q2, q3⟩ := I.on.bag q l e
    have hq : q ≠ A := fun z => off l (by rw [← z]; exact e)
    have hl : l ≠ A := fun z => by rw [z, I.no] at q3; cases q3
    exact ⟨by rw [upd_ne hq]; exact q1, q2, by rw [upd_ne hl]; exact q3⟩
theorem wipe1 {σ : L2.St} {j : Nat} {v : Option V} : wipe ((wipe σ [j]).set j v) [j] = wipe σ [j] := by
  show (((σ.set j none).set j v).set j none) = σ.set j none
  rw [List.set_set, List.set_set]
theorem wipe_env {K : PySem.W.Frag} {g : Gh} {H0 : Hp} {σ : L2.St} {j : Nat} {v : V} {d : PyData} (Ev : EnvD K g H0 σ Γ) (r : Rp K H0 v d) : EnvD K g H0 ((wipe σ [j]).set j (some v)) (Γ.set j (.da d)) := by
  show EnvD K g H0 ((σ.set j none).set j (some v)) (Γ.set j (.da d))
  rw [List.set_set]
  exact Ev.set (d := .da d) j r
def RJ (X : Cx) (Γ : List VD) (B : Bag) (t : TE) (d : VD) (B' : Bag) : Prop :=
  ∀ g σ H0 H, EnvD X.K g H0 σ Γ → On X.K g B H0 H → ∀ Q : VK,
    (∀ v H0' H', To g H0 H H0' H' → On X.K g B' H0' H' → Rv X.K g H0' v d → Q v H') → t σ H Q
theorem ej_of {t : TE} (h : PE X e t) (r : RJ X Γ B t d B1) : EJ X Γ B e d B1 := fun g σ H0 H E O Q q => ⟨t, h, r g σ H0 H E O Q q⟩
section
variable {elt : Expr} {scope : Scope} {j : Nat} {x : Str} {px : Pos} {ds ys : List PyData}
theorem lc_turn {g : Gh} {H1 H' : Hp} {A : Addr} {acc : List PyData} {H'' H2 : Hp} {σ : L2.St} {v : V} {y z : PyData} {Nx : Hp → Prop} (off : Off g A) (Ev : EnvD X.K g H1 σ Γ) (I : LcI X.K g H1 H' A acc B1 H2 H'') (r : Rp X.K H2 v y)
    (hz : acc.length < 1000) (he : Blk X scope fun Y => EJ Y (Γ.set j (.da y)) B1 elt (.da z) B2) (k : ∀ H3 H3', LcI X.K g H1 H' A (acc ++ [z]) B2 H3 H3' → Nx H3') :
    gName j v (wipe σ [j]) H'' fun σ2 H2 => wipe σ2 [j] = wipe σ [j] ∧ tYes σ2 H2 fun b H3 => if b = true then WB X scope elt σ2 H3 fun y H4 => ∃ acc, H4 A = some (.lst acc) ∧ acc.length < sizeLine ∧ Nx (upd H4 A (.lst (acc ++ [y]))) else Nx H3 := by
  refine ⟨wipe1, ?_⟩
  unfold tYes
  refine iteT ?_
  intro s hH C cl fp
  refine he s hH C cl fp g _ H2 H'' (wipe_env (Ev.mono I.to.ex) r) I.on _ fun w H3 H3' t o rw' => ?_
  obtain ⟨zs, h1, h2, J⟩ := lcI_app off I t o rw'
  exact ⟨zs, h1, by rw [h2]; exact small1000 (Nat.le_of_lt hz), k _ _ J⟩
theorem rj_lc (Bs : Nat → Bag) (hi : EJ X Γ B e (.da (.list ds)) (Bs 0)) (hl : ys.length = ds.length) (hz : ds.length ≤ 1000)
    (hs : ∀ i y z, ds[i]? = some y → ys[i]? = some z → Blk X scope fun Y => EJ Y (Γ.set j (.da y)) (Bs i) elt (.da z) (Bs (i + 1))) :
    RJ X Γ B (tLc (iList X.K (WE X e)) (gName j) tYes (WB X scope elt) [j]) (.da (.list ys)) (Bs ds.length) := fun g σ H0 H Ev O Q q =>
  hi g σ H0 H Ev O _ fun v H1 H' t o r => by
    obtain ⟨p, xs, rfl, hxs, rs⟩ := rvL r
    refine ⟨p, rfl, ⟨xs, SqL.of (o.ex _ _ hxs)⟩, fun A hA => ?_⟩
    obtain ⟨off, I0⟩ := lcI_start o hA
    refine lc_list (xs := xs) (fun i H'' => ∃ H2, LcI X.K g H1 H' A (ys.take i) (Bs i) H2 H'') ⟨_, I0⟩ ?_ ?_ ?_
    · rintro i H'' _ ⟨H2, I⟩
      exact SqL.of (I.on.ex _ _ (I.to.ex _ _ hxs))
    · rintro i w H'' hw ⟨H2, I⟩
      obtain ⟨y, hy, ry⟩ := rs.get hw
      have hi2 : i < ys.length := by rw [hl]; exact (List.getElem?_eq_some_iff.mp hy).1
      have hyz : ys[i]? = some ys[i] := List.getElem?_eq_getElem hi2
      refine lc_turn off (Ev.mono t.ex) I (ry.mono I.to.ex) (by rw [List.length_take]; omega) (hs i y _ hy hyz) fun H3 H3' J => ⟨H3, ?_⟩
      rw [List.take_add_one, hyz]; exact J
    · rintro H'' ⟨H2, I⟩
      rw [rs.length, ← hl, List.take_length] at I
      obtain ⟨H3, t3, o3, r3⟩ := lcI_end off t I
      rw [hl] at o3
      exact q _ H3 H'' t3 o3 r3
theorem ej_lc (nd : X.N.Nodup) (hc : X.calm = true) (ok : BlkOk X.N X.env.scope scope [(x, j)])
    (hg : ∀ (s : Shared) (H : Hp) (C : Addr) (cl : List (Str × Addr)) (fp : List Addr), PG (X.blk s H scope (compEnvC scope cl C X.env) fp) (.Name x px) (gName j))
    (r : RJ X Γ B (tLc (iList X.K (WE X e)) (gName j) tYes (WB X scope elt) [j]) d B1) (hq : ∀ x, foldedSetIterable e X.env x = pure x := by intro _; rfl) :
    EJ X Γ B (.ListComp elt [⟨.Name x px, e, [], 0⟩] scope pos) d B1 := ej_of (pe_lc (own := [(x, j)]) hc nd (pi_list (we e)) ok hg (fun _ _ _ _ _ => pts_nil) (wb scope elt) hq) r
end
end
end Gd
namespace Gd
open PySem PySem.Spec PyProof.Rows L2
section
variable {X : Cx} {Γ : List VD} {B B1 B2 B3 B' : Bag} {e a b c : Expr} {es : List Expr} {d da db dc : VD} {pos p pos' : Pos} {rest ss s1 s2 : List Stmt} {E : En}
def CDivX (_ j : Int) : Prop := j ≠ 0 ∧ j.natAbs.log2 < 9000
theorem op_fdivX : OpR X (binaryOp .FloorDiv) (rI CDivX fun i j => .int (i.fdiv j)) :=
  opI fun i j _ _ _ _ _ hc q => PyProof.Rows.floordiv_int hc.1 q (.inl (PyProof.noPylong_of_log2 hc.2))
theorem ej_fdivX {i j : Int} (ha : EJ X Γ B a (.da (.int i)) B1) (hb : EJ X Γ B1 b (.da (.int j)) B2) (hc : CDivX i j) : EJ X Γ B (.BinOp a .FloorDiv b pos) (.da (.int (i.fdiv j))) B2 :=
  ej_iic ha hb op_fdivX hc fun _ => .int _
theorem ej_gcd {i j : Int} (hm : X.mg "gcd" = some (.builtin "math.gcd")) (ha : EJ X Γ B a (.da (.int i)) B1) (hb : EJ X Γ B1 b (.da (.int j)) B2) (hg : Gl X "gcd" := by rfl)
    (h1 : starEach [a, b] X.env = (false, eval a X.env) :: starEach [b] X.env := by rfl) (h2 : starEach [b] X.env = (false, eval b X.env) :: starEach [] X.env := by rfl)
    (hpl : (backTo pos (starEach [b] X.env)).any (·.1) = false := by rfl) :
    EJ X Γ B (.Call (.Name "gcd" p) [a, b] [] pos) (.da (.int (Nat.gcd i.natAbs j.natAbs : Nat))) B2 := fun g σ H0 H E O Q q =>
  ⟨_, pe_callBfun cr_gcd hg hm (wa [a, b]) (by decide) h1 hpl, (aj_cons ha (aj_cons hb aj_nil h2) h1) g σ H0 H E O _ fun vs H1 H' t o r => by
    obtain ⟨v, w, rfl, r1, r2⟩ := rv2 r
    exact ⟨i, j, by rw [rvI r1, rvI r2], q _ _ _ t o (Rp.int _)⟩⟩
theorem RpAll.rep {K : PySem.W.Frag} {H : Hp} {xs : List V} {ds : List PyData} (r : RpAll K H xs ds) : ∀ n : Nat, RpAll K H (List.replicate n xs).flatten (List.replicate n ds).flatten
  | 0 => .nil
  | n + 1 => by
    rw [List.replicate_succ, List.flatten_cons, List.replicate_succ, List.flatten_cons]
    exact r.app (RpAll.rep r n)
theorem sj_augI (i : Nat) {x : Str} {m n : Int} (nd : X.N.Nodup) (h0 : Γ[i]? = some (.da (.int m))) (h : EJ X Γ B e (.da (.int n)) B1) (k : SJ X (Γ.set i (.da (.int (m + n)))) B1 rest E) (hi : X.N[i]? = some x := by rfl)
    (hx : Loc X.env.scope x := by first | exact Or.inl rfl | exact Or.inr rfl) (hf : X.fn x = true ∨ X.env.scope.names.lookup x = some .local := by first | exact Or.inl rfl | exact Or.inr rfl) :
    SJ X Γ B (.AugAssign (.Name x pos') .Add e pos :: rest) E := fun g σ H0 H Ev O D G =>
  ⟨_, pss_cons (ps_aug nd hi hx (we e) ip_add hf) (ws rest), by
    obtain ⟨v, hv, r⟩ := Ev.at' i _ h0 (fun z => nomatch z)
    refine ⟨v, hv, h g σ H0 H Ev O _ fun w H1 H' t o r2 => ⟨m, n, rvI r, rvI r2, ?_⟩⟩
    exact k g _ H1 H' ((Ev.mono t.ex).set (d := .da _) i (Rp.int _)) o D (G.on t)⟩
end
theorem sj_law {X : Cx} {Γ : List VD} {B B1 : Bag} {e : Expr} {x : Str} {pos pos' : Pos} {rest : List Stmt} {ns : List Int} {y : Int} (i : Nat) (nd : X.N.Nodup)
    (h : EJ X Γ B e (.da (.list [.int 0, .int y, .int 0, .list (ns.map .int)])) B1)
    (k : SJ X ((List.replicate Γ.length VD.no).set i .bag) ⟨0, y, 0, ns⟩ rest { nx := fun _ _ => False, rt := fun r _ => r = .bool true })
    (hi : X.N[i]? = some x := by rfl) (hx : Loc X.env.scope x := by first | exact Or.inl rfl | exact Or.inr rfl) (hs : swapsWith e (some (.Name x pos')) pos.line X.env = pure false := by rfl)
    (hf : X.fn x = true ∨ X.env.scope.names.lookup x = some .local := by first | exact Or.inl rfl | exact Or.inr rfl)
    {σ : L2.St} {H0 H : Hp} (Ev : EnvD X.K none H0 σ Γ) (O : On X.K none B H0 H) {Q : VK} (q : ∀ H', Q (.bl true) H') :
    WS X (.Assign [.Name x pos'] e pos :: rest) { nx := fun _ H' => Q .non H', rt := Q } σ H :=
  ⟨_, pss_cons (ps_set nd hi hx (we e) hs hf) (ws rest), h none σ H0 H Ev O _ fun v H1 H' t o r => by
    obtain ⟨p, xs, rfl, hp, rs⟩ := rvL r
    cases rs with
    | cons r0 rs =>
    cases rs with
    | cons r1 rs =>
    cases rs with
    | cons r2 rs =>
    cases rs with
    | cons r3 rs =>
    cases rs
    cases r0; cases r1; cases r2
    cases r3 with
    | lst hl rl =>
    rename_i l zs
    have ez := rl.ints_of
    subst ez
    have hlp : l ≠ p := by
      intro z
      rw [z, hp] at hl
      have e1 := HO.lst.inj (Option.some.inj hl)
      cases ns with
      | nil => cases e1
      | cons n ns =>
        cases ns with
        | nil => cases e1
        | cons m ns =>
          cases ns with
          | nil => cases e1
          | cons m2 ns =>
            cases ns with
            | nil => cases e1
            | cons m3 ns => cases e1
    refine k (some (p, l)) _ (fun b => if b = p then none else H1 b) H' ⟨?_, ?_⟩ ⟨fun b u hb => ?_, fun b m hb => ?_⟩ _ ⟨?_, ?_, ?_, ?_⟩
    · rw [List.length_set, List.length_set, List.length_replicate]; exact Ev.len
    · intro j dd hj hne
      by_cases hij : i = j
      · subst hij
        have hlt : i < Γ.length := by
          have := (List.getElem?_eq_some_iff.mp hj).1
          rwa [List.length_set, List.length_replicate] at this
        rw [List.getElem?_set_self (by rw [List.length_replicate]; exact hlt)] at hj
        cases hj
        exact ⟨.ref p, List.getElem?_set_self (by rw [Ev.len]; exact hlt), p, l, rfl, rfl⟩
      · rw [List.getElem?_set_ne hij, List.getElem?_replicate] at hj
        split at hj
        · cases hj; exact absurd rfl hne
        · cases hj
    · by_cases hb2 : b = p
      · rw [if_pos hb2] at hb; cases hb
      · rw [if_neg hb2] at hb; exact o.ex _ _ hb
    · cases hb
      refine ⟨if_pos rfl, o.ex _ _ hp, ?_⟩
      rw [if_neg hlp]; exact hl
    · intro _ _ _ _ _ z; exact z.elim
    · rintro r2 B2 v H2 H2' rfl _ _ rv
      cases rv; exact q _
    · intro _ _ _ _ _ z; exact z.elim
    · intro _ _ _ _ _ z; exact z.elim⟩
def spLaw (K : PySem.W.Frag) : Sp := fun vs H Q _ => ∃ (a : Addr) (ns : List Int), vs = [.ref a] ∧ SqL K H a (ns.map V.int) ∧ ns.length ≤ 63 ∧ ∀ H', Q (.bl true) H'
end Gd
namespace Gd
open PySem PySem.Spec PyProof.Rows L2
def Bd (n : Nat) (i : Int) : Prop := i.natAbs < 2 ^ n
theorem Bd.le {n m : Nat} {i : Int} (h : Bd n i) (e : n ≤ m) : Bd m i := Nat.lt_of_lt_of_le h (Nat.pow_le_pow_right (by decide) e)
theorem Bd.mul {n m : Nat} {i j : Int} (h : Bd n i) (k : Bd m j) : Bd (n + m) (i * j) := wide_lt h k
theorem Bd.add {n m : Nat} {i j : Int} (h : Bd n i) (k : Bd m j) : Bd (n + m + 1) (i + j) := by
  have h1 := h.le (Nat.le_add_right n m)
  have h2 := k.le (Nat.le_add_left m n)
  have := Int.natAbs_add_le i j
  unfold Bd at *
  rw [Nat.pow_succ]; omega
theorem Bd.neg {n : Nat} {i : Int} (h : Bd n i) : Bd n (-i) := by unfold Bd; rw [Int.natAbs_neg]; exact h
theorem Bd.abs {n : Nat} {i : Int} (h : Bd n i) : Bd n (if i < 0 then -i else i) := by
  split
  · exact h.neg
  · exact h
theorem Bd.mod {n : Nat} {i j : Int} (k : Bd n j) (h : 0 < j) : Bd n (i % j) := by
  have h1 := Int.emod_nonneg i (Int.ne_of_gt h)
  have h2 := Int.emod_lt_of_pos i h
  unfold Bd at *; omega
theorem Bd.div {n : Nat} {i j : Int} (h : Bd n i) : Bd n (i / j) := by
  unfold Bd at *
  exact Nat.lt_of_le_of_lt (Int.natAbs_ediv_le_natAbs i j) h
theorem Bd.nat {n a : Nat} (h : a < 2 ^ n) : Bd n (a : Int) := h
theorem cm {n m : Nat} {i j : Int} (h : Bd n i) (k : Bd m j) (e : n + m + 2 ≤ 1000000 := by decide) : CMulW i j :=
  wide_mul (h.le (Nat.le_succ n)) (k.le (Nat.le_succ m)) (Nat.succ_pos _) (Nat.succ_pos _) (by omega)
theorem cdv {n : Nat} {i j : Int} (k : Bd n j) (h : 0 < j) (e : n + 1 ≤ 9000 := by decide) : CDivW i j := wide_div h (k.le (Nat.le_succ n)) (Nat.succ_pos _) e
theorem cdx {n : Nat} {i j : Int} (k : Bd n j) (h : j ≠ 0) (e : n + 1 ≤ 9000 := by decide) : CDivX i j := ⟨h, (wide_div (i := i) (j := ((j.natAbs : Nat) : Int)) (by omega) (by rw [Int.natAbs_natCast]; exact k.le (Nat.le_succ n)) (Nat.succ_pos _) e).2⟩
theorem lg {n : Nat} {j : Int} (k : Bd n j) (e : n + 1 ≤ 9000 := by decide) : j.natAbs.log2 < 9000 := Nat.lt_of_lt_of_le (PySem.Flt.log2_lt_of (Nat.succ_pos _) (k.le (Nat.le_succ n))) e
section
variable {X : Cx} {Γ : List VD} {B B1 B2 B3 B' : Bag} {e a b c : Expr} {es : List Expr} {d da db dc : VD} {pos p pos' : Pos} {rest ss s1 s2 : List Stmt} {E : En}
def AD (X : Cx) (Γ : List VD) (B : Bag) (es : List Expr) (ds : List PyData) (B' : Bag) : Prop := AJ X Γ B es (ds.map .da) B'
theorem ad_nil : AD X Γ B [] [] B := aj_nil
theorem ad_cons {y : PyData} {ds : List PyData} (h : EJ X Γ B e (.da y) B1) (r : AD X Γ B1 es ds B2) (hs : starEach (e :: es) X.env = (false, eval e X.env) :: starEach es X.env := by rfl) : AD X Γ B (e :: es) (y :: ds) B2 := aj_cons h r hs
theorem ej_tupD {ds : List PyData} {k} (h : AD X Γ B es ds B1) (hl : ds.length ≤ 1000 := by decide) : EJ X Γ B (.Tuple es k pos) (.da (.tuple ds)) B1 := ej_tup h hl
theorem ej_lstD {ds : List PyData} (h : AD X Γ B es ds B1) (hl : ds.length ≤ 1000 := by decide) : EJ X Γ B (.List es pos) (.da (.list ds)) B1 := ej_lst h hl
theorem ej_at {ds : List PyData} {i : Int} {y : PyData} {j} (ha : EJ X Γ B a (.da (.tuple ds)) B1) (h : atI ds i = some y := by rfl) : EJ X Γ B (.Subscript a (.Constant (.int i) j p) pos) (.da y) B1 :=
  ej_ixT ha ej_int h fun _ _ => rfl
theorem ej_ifI {x : Bool} {u v : Int} (h : TJ X Γ B c x B1) (h1 : x = true → EJ X Γ B1 a (.da (.int u)) B2) (h2 : x = false → EJ X Γ B1 b (.da (.int v)) B2) : EJ X Γ B (.IfExp c a b pos) (.da (.int (bif x then u else v))) B2 :=
  ej_if h (fun e => by subst e; exact h1 rfl) fun e => by subst e; exact h2 rfl
theorem sj_ifM {x : Bool} (M : List VD → Bag → Prop) (h : TJ X Γ B c x B1) (h1 : x = true → SJ X Γ B1 s1 { E with nx := M }) (h2 : x = false → SJ X Γ B1 s2 { E with nx := M }) (k : ∀ Γ' B', M Γ' B' → SJ X Γ' B' rest E) :
    SJ X Γ B (.If c s1 s2 pos :: rest) E :=
  sj_if h (fun e => sj_mono (h1 e) (fun Γ' B' q => k Γ' B' q) (fun _ _ q => q) (fun _ _ q => q) (fun _ _ q => q)) (fun e => sj_mono (h2 e) (fun Γ' B' q => k Γ' B' q) (fun _ _ q => q) (fun _ _ q => q) (fun _ _ q => q))
theorem ej_mulC {i j : Int} (ha : EJ X Γ B a (.da (.int i)) B1) (hb : EJ X Γ B1 b (.da (.int j)) B2) (hc : CMul i j) : EJ X Γ B (.BinOp a .Mult b pos) (.da (.int (i * j))) B2 :=
  ej_iic ha hb op_mul hc fun _ => .int _
theorem eqv_refl_of {y : PyData} (h : SeqAt.shaped y = true) : PyData.eqv y y = true := SeqAt.eqv_refl y (SeqAt.canLay_of_shaped h)
end
def At (K : PySem.W.Frag) (mg : Str → Option Value) (x : Str) (st : Stmt) (ps : List Str) : Prop :=
  ∃ f fd, Fun K x x st f fd ∧ mg x = some (.ref f) ∧ Binds K fd ps []
theorem cal_at {P : Program} {w : World} {K : PySem.W.Frag} {mg : Str → Option Value} {base : Heap} {x : Str} {st : Stmt}
    {N ps : List Str} {k : Nat} {R : Rel} (T : At K mg x st ps) (S : FnScope N ps (defScope st))
    (len : ∀ Γ B r B', R Γ B r B' → Γ.length = ps.length)
    (body : ∀ (f : Addr) (cdv : Value) (A : Around) (out : List Env) (s : Shared) (H : Hp) (E : XK),
      Gx k (cxOf CX0 P w K mg base N x (defScope st) f cdv A out s H E).nox → ∀ Γ B r B', R Γ B r B' →
      SJ (cxOf CX0 P w K mg base N x (defScope st) f cdv A out s H E).nox (Γ ++ List.replicate (N.length - ps.length) .no) B (defBody st)
        { nx := fun _ B2 => r = .none ∧ B2 = B', rt := fun d B2 => d = r ∧ B2 = B' }) :
    Cal P w K mg base x (k + 1) R := by
  obtain ⟨f, fd, F, hm, hb⟩ := T
  exact cal_of F hm hb S len fun cdv A out s H E G => body f cdv A out s H E G
end Gd
namespace Fr
open Gd PySem
open scoped Rat
def fq (q : Rat) : PyData := .tuple [.int q.num, .int (q.den : Int)]
def com (n d : Int) : Int := if d < 0 then -((Nat.gcd n.natAbs d.natAbs : Nat) : Int) else ((Nat.gcd n.natAbs d.natAbs : Nat) : Int)
theorem com_ne {n d : Int} (h : d ≠ 0) : com n d ≠ 0 := by
  have : 0 < Nat.gcd n.natAbs d.natAbs := Nat.gcd_pos_of_pos_right _ (by omega)
  unfold com; split <;> omega
theorem com_bd {n d : Int} {k : Nat} (h : d ≠ 0) (b : Bd k d) : Bd k (com n d) := by
  have h1 : Nat.gcd n.natAbs d.natAbs ≤ d.natAbs := Nat.gcd_le_right _ (by omega)
  unfold Bd com at *; split <;> omega
theorem red_num {n d : Int} (h : d ≠ 0) : n.fdiv (com n d) = (n /. d).num := by
  rw [Rat.num_divInt]
  have hg : (d.gcd n : Int) = (Nat.gcd n.natAbs d.natAbs : Nat) := by rw [Int.gcd_comm]; rfl
  rw [hg]
  unfold com
  by_cases hd : d < 0
  · rw [if_pos hd, Int.sign_eq_neg_one_of_neg hd, Int.neg_one_mul]
    have := Int.neg_fdiv_neg (-n) ((Nat.gcd n.natAbs d.natAbs : Nat) : Int)
    rw [Int.neg_neg] at this
    rw [this, Int.fdiv_eq_ediv_of_nonneg _ (Int.natCast_nonneg _)]
  · rw [if_neg hd, Int.sign_eq_one_of_pos (by omega), Int.one_mul, Int.fdiv_eq_ediv_of_nonneg _ (Int.natCast_nonneg _)]
theorem red_den {n d : Int} (h : d ≠ 0) : d.fdiv (com n d) = ((n /. d).den : Int) := by
  rw [Rat.den_divInt, if_neg h]
  have hg : d.gcd n = Nat.gcd n.natAbs d.natAbs := by rw [Int.gcd_comm]; rfl
  rw [hg]
  unfold com
  by_cases hd : d < 0
  · rw [if_pos hd]
    have := Int.neg_fdiv_neg (-d) ((Nat.gcd n.natAbs d.natAbs : Nat) : Int)
    rw [Int.neg_neg] at this
    rw [this, Int.fdiv_eq_ediv_of_nonneg _ (Int.natCast_nonneg _)]
    rw [Int.natCast_ediv]
    have : -d = (d.natAbs : Int) := by omega
    rw [this]
  · rw [if_neg hd, Int.fdiv_eq_ediv_of_nonneg _ (Int.natCast_nonneg _), Int.natCast_ediv]
    have : d = (d.natAbs : Int) := by omega
    conv => lhs; lhs; rw [this]
theorem divInt_bd {n d : Int} {a b : Nat} (h : d ≠ 0) (ha : Bd a n) (hb : Bd b d) : Bd a (n /. d).num ∧ Bd b ((n /. d).den : Int) := by
  constructor
  · rw [← red_num h]
    unfold Bd at *
    refine Nat.lt_of_le_of_lt ?_ ha
    rw [red_num h, Rat.num_divInt]
    refine Nat.le_trans (Int.natAbs_ediv_le_natAbs _ _) ?_
    rw [Int.natAbs_mul, Int.natAbs_sign_of_ne_zero h, Nat.one_mul]
    exact Nat.le_refl _
  · unfold Bd at *
    rw [Int.natAbs_natCast, Rat.den_divInt, if_neg h]
    exact Nat.lt_of_le_of_lt (Nat.div_le_self _ _) hb
theorem den_pos (q : Rat) : (0 : Int) < (q.den : Int) := Int.natCast_pos.mpr q.den_pos
theorem den_ne (q : Rat) : (q.den : Int) ≠ 0 := Int.ne_of_gt (den_pos q)
theorem self_div (q : Rat) : q.num /. (q.den : Int) = q := Rat.num_divInt_den q
theorem add_div (x y : Rat) : (x.num * (y.den : Int) + y.num * (x.den : Int)) /. ((x.den : Int) * (y.den : Int)) = x + y := by
  rw [← Rat.divInt_add_divInt _ _ (den_ne x) (den_ne y), self_div, self_div]
theorem mul_div (x y : Rat) : (x.num * y.num) /. ((x.den : Int) * (y.den : Int)) = x * y := by
  rw [← Rat.divInt_mul_divInt, self_div, self_div]
theorem div_div (x y : Rat) (h : y ≠ 0) : (x.num * (y.den : Int)) /. ((x.den : Int) * y.num) = x / y := by
  rw [← Rat.divInt_mul_divInt, self_div, Rat.div_def, Rat.inv_def]
end Fr
namespace Gd
open PySem PySem.Spec PyProof.Rows L2
mutual
def nice : PyData → Bool
  | .none => true
  | .bool _ => true
  | .int i => decide (Nat.log2 i.natAbs < 1920)
  | .str x => x.cps.all fun c => c < 0x110000
  | .list xs => niceAll xs
  | .tuple xs => niceAll xs
  | .dict _ => false
def niceAll : List PyData → Bool
  | [] => true
  | x :: xs => nice x && niceAll xs
end
mutual
theorem nice_lay : ∀ d : PyData, nice d = true → d.canLay0 = true
  | .none, _ => by simp only [PyData.canLay0]
  | .bool _, _ => by simp only [PyData.canLay0]
  | .int i, h => by simp only [PyData.canLay0]
  | .str _, h => by simp only [nice] at h; simp only [PyData.canLay0]; exact h
  | .list xs, h => by simp only [nice] at h; simp only [PyData.canLay0]; exact nice_layA xs h
  | .tuple xs, h => by simp only [nice] at h; simp only [PyData.canLay0]; exact nice_layA xs h
  | .dict _, h => by simp only [nice] at h; cases h
theorem nice_layA : ∀ ds : List PyData, niceAll ds = true → PyData.canLayAll0 ds = true
  | [], _ => by simp only [PyData.canLayAll0]
  | x :: xs, h => by
    simp only [niceAll, Bool.and_eq_true] at h
    simp only [PyData.canLayAll0, Bool.and_eq_true]; exact ⟨nice_lay x h.1, nice_layA xs h.2⟩
end
mutual
theorem nice_short : ∀ d : PyData, nice d = true → d.leavesShort 1921 = true
  | .none, _ => by simp only [PyData.leavesShort]
  | .bool _, _ => by simp only [PyData.leavesShort]
  | .int i, h => by
    simp only [nice, decide_eq_true_eq] at h
    simp only [PyData.leavesShort, decide_eq_true_eq, PyData.shown_int]
    exact int_text_len_1921 h
  | .str x, h => by
    simp only [nice] at h
    simp only [PyData.leavesShort, List.all_eq_true, decide_eq_true_eq]
    intro c hc
    have h2 := Array.all_eq_true'.mp h c (by simpa using hc)
    have h3 : c < 0x110000 := of_decide_eq_true h2
    omega
  | .list xs, h => by simp only [nice] at h; simp only [PyData.leavesShort]; exact nice_shortA xs h
  | .tuple xs, h => by simp only [nice] at h; simp only [PyData.leavesShort]; exact nice_shortA xs h
  | .dict _, h => by simp only [nice] at h; cases h
theorem nice_shortA : ∀ ds : List PyData, niceAll ds = true → PyData.leavesShortAll 1921 ds = true
  | [], _ => by simp only [PyData.leavesShortAll]
  | x :: xs, h => by
    simp only [niceAll, Bool.and_eq_true] at h
    simp only [PyData.leavesShortAll, Bool.and_eq_true]; exact ⟨nice_short x h.1, nice_shortA xs h.2⟩
end
structure Okd (d : PyData) : Prop where
  nice : Gd.nice d = true
  dp : d.depth ≤ 60
  bulk : d.bulk ≤ 5000
theorem Okd.shaped {d : PyData} (h : Okd d) : SeqAt.shaped d = true := by
  unfold SeqAt.shaped
  rw [nice_lay d h.nice, Bool.true_and, decide_eq_true_eq]
  have := h.dp; omega
theorem nice_int {n : Nat} {i : Int} (h : Bd n i) (e : n ≤ 1920 := by decide) : nice (.int i) = true := by
  simp only [nice, decide_eq_true_eq]
  by_cases h0 : 0 < n
  · exact Nat.lt_of_lt_of_le (PySem.Flt.log2_lt_of h0 h) e
  · have : n = 0 := by omega
    subst this
    have : i.natAbs = 0 := by unfold Bd at h; omega
    rw [this]; decide
theorem niceAll_cons {d : PyData} {ds : List PyData} (h : nice d = true) (r : niceAll ds = true) : niceAll (d :: ds) = true := by simp only [niceAll, h, r, Bool.and_self]
theorem niceAll_nil : niceAll [] = true := by simp only [niceAll]
theorem nice_list {ds : List PyData} (r : niceAll ds = true) : nice (.list ds) = true := by simp only [nice]; exact r
theorem nice_tuple {ds : List PyData} (r : niceAll ds = true) : nice (.tuple ds) = true := by simp only [nice]; exact r
end Gd
namespace Gd
open PySem PySem.Spec PyProof.Rows L2
theorem at_mk {K : PySem.W.Frag} {h : Heap} {mg : Str → Option Value} {x : Str} {st : Stmt} (ps : List Str) {f : Addr} {oc : Value} {od an : Option Addr} {osl : Array (Option Value)} {kV doc pm cdv ct : Value}
    (X : K.In h) (G : h.Ns mainGlobals mg) (a : PySem.W.nsIn K mainGlobals x = some (some (.ref f)))
    (l : K.lookup f = some ⟨oc, od, .func (PySem.W.fnOf x x (defArgs st) (defBody st) (defScope st) .none kV doc pm an cdv ct), osl⟩) (c : PySem.W.codeIn K cdv x = true) (k : PySem.W.keepIn K (.ref f) = true)
    (b : ∀ (kV doc pm : Value) (an : Option Addr) (cdv ct : Value) (us : List Value), us.length = ps.length → bindArgs (PySem.W.fnOf x x (defArgs st) (defBody st) (defScope st) .none kV doc pm an cdv ct) ⟨us, []⟩ = pure (ps.zip us)) :
    At K mg x st ps := ⟨f, _, fun_mk l c k, PySem.W.mg_of X G a, (fun_mk (st := st) l c k).binds b⟩
end Gd
namespace Gd
open PySem PySem.Spec PyProof.Rows L2
def keyT (e : Int × Value) : Str := match e.2 with | .str k _ => k | _ => Str.empty
def TxE (w : World) (e : Int × Value) : Prop := ∃ k tk, e.2 = Value.str k tk ∧ e.1 = hashStr w k
structure TxAt (w : World) (l : List Str) (o : Obj) (es : Array (Int × Value)) (t : SetTable) : Prop where
  ex : o.ExactSet
  el : ∀ e ∈ es.toList, TxE w e
  nd : (es.toList.map keyT).Nodup
  me : ∀ k, k ∈ es.toList.map keyT ↔ k ∈ l
  sz : es.size ≤ l.length
  ft : t.fits es.size = true
  ri : Ris t.place.toList
  ld : w.params.followText "set-order" = true ∨ t.led = true
def TxSet (w : World) (h : Heap) (a : Addr) (l : List Str) : Prop := ∃ o es ep t, h.get? a = some o ∧ o.data = .set es ep t ∧ TxAt w l o es t
theorem TxSet.at {w : World} {h h' : Heap} {a : Addr} {l : List Str} (R : TxSet w h a l) (k : ∀ o, h.get? a = some o → h'.get? a = some o) : TxSet w h' a l :=
  let ⟨o, es, ep, t, ho, r⟩ := R; ⟨o, es, ep, t, k o ho, r⟩
section
variable {P : Program} {w : World} {A : Around} {E : Value → Shared → Prop} {s : Shared} {a : Addr} {l : List Str}
end
end Gd
namespace Gd
open PySem PySem.Spec PyProof.Rows L2
section
variable {P : Program} {w : World} {A : Around} {s : Shared} {E : Value → Shared → Prop}
end
end Gd
namespace Gd
open PySem PySem.Spec PyProof.Rows L2
section
variable {P : Program} {w : World} {A : Around} {E : Value → Shared → Prop} {s : Shared} {a : Addr} {l : List Str}
end
section
variable {X : Cx}
end
end Gd
namespace Gd
open PySem PySem.Spec PyProof.Rows L2
structure Own (K : PySem.W.Frag) (i : Nat) (g : Gh) (A0 A1 : Hp) (a : Addr) (B : Bag) (Γ : List VD) (acc : List PyData) (σ : L2.St) (H0 H : Hp) : Prop where
  to : To g A0 A1 H0 H
  fr : A1 a = none
  off : Off g a
  ev : EnvD K g H0 σ Γ
  at' : σ[i]? = some (some (.ref a))
  no : H0 a = none
  ls : ∃ zs, H a = some (.lst zs) ∧ RpAll K H0 zs acc
  on : On K g B H0 H
theorem Own.freeze {K : PySem.W.Frag} {i : Nat} {g : Gh} {A0 A1 : Hp} {a : Addr} {B : Bag} {Γ : List VD} {acc : List PyData} {σ : L2.St} {H0 H : Hp} (O : Own K i g A0 A1 a B Γ acc σ H0 H) :
    ∃ H1, To g A0 A1 H1 H ∧ EnvD K g H1 σ (Γ.set i (.da (.list acc))) ∧ On K g B H1 H := by
  obtain ⟨zs, hz, rz⟩ := O.ls
  have sm : Same H0 (upd H0 a (.lst zs)) := fun b o e => by
    rw [upd_ne fun z : b = a => by rw [z, O.no] at e; cases e]; exact e
  refine ⟨upd H0 a (.lst zs), ⟨O.to.ex.trans sm, fun b o f h1 h2 => ?_⟩, ?_, ⟨fun b o e => ?_, fun b l e => ?_⟩⟩
  · have hb : b ≠ a := fun z => by rw [z, O.fr] at h2; cases h2
    obtain ⟨p, q⟩ := O.to.un b o f h1 h2
    exact ⟨by rw [upd_ne hb]; exact p, q⟩
  · have e := (O.ev.mono sm).set (v := .ref a) (d := .da (.list acc)) i (Rp.lst upd_same (rz.mono sm))
    have es : σ.set i (some (.ref a)) = σ := by
      apply List.ext_getElem?
      intro j
      by_cases hj : i = j
      · subst hj
        rw [List.getElem?_set_self (List.getElem?_eq_some_iff.mp O.at').1, O.at']
      · rw [List.getElem?_set_ne hj]
    rw [es] at e; exact e
  · by_cases hb : b = a
    · subst hb; rw [upd_same] at e; rw [hz]; exact e
    · rw [upd_ne hb] at e; exact O.on.ex b o e
  · obtain ⟨p, q, r⟩ := O.on.bag b l e
    have hb : b ≠ a := fun z => O.off l (z ▸ e)
    have hl : l ≠ a := fun z => by rw [z, O.no] at r; cases r
    exact ⟨by rw [upd_ne hb]; exact p, q, by rw [upd_ne hl]; exact r⟩
structure EnO where
  nx : List VD → Bag → List PyData → Prop
  fx : List VD → Bag → Prop
  rt : PyData → Bag → Prop
  bk : List VD → Bag → List PyData → Prop := fun _ _ _ => False
  ct : List VD → Bag → List PyData → Prop := fun _ _ _ => False
  ro : List PyData → Bag → Prop := fun _ _ => False
  fc : List VD → Bag → Prop := fun _ _ => False
structure GetsO (X : Cx) (i : Nat) (E : EnO) (g : Gh) (A0 A1 : Hp) (a : Addr) (S : Hp) (D : Ends) : Prop where
  nx : ∀ Γ B acc σ H0 H, E.nx Γ B acc → Own X.K i g A0 A1 a B Γ acc σ H0 H → Same S H0 → D.nx σ H
  fx : ∀ Γ B σ H0 H, E.fx Γ B → To g A0 A1 H0 H → EnvD X.K g H0 σ Γ → On X.K g B H0 H → D.nx σ H
  rt : ∀ r B v H0 H, E.rt r B → To g A0 A1 H0 H → On X.K g B H0 H → Rp X.K H0 v r → D.rt v H
  bk : ∀ Γ B acc σ H0 H, E.bk Γ B acc → Own X.K i g A0 A1 a B Γ acc σ H0 H → Same S H0 → D.bk σ H
  ct : ∀ Γ B acc σ H0 H, E.ct Γ B acc → Own X.K i g A0 A1 a B Γ acc σ H0 H → Same S H0 → D.ct σ H
  ro : ∀ Γ B acc σ H0 H, E.ro acc B → Own X.K i g A0 A1 a B Γ acc σ H0 H → Same S H0 → D.rt (.ref a) H
  fc : ∀ Γ B σ H0 H, E.fc Γ B → To g A0 A1 H0 H → EnvD X.K g H0 σ Γ → On X.K g B H0 H → D.ct σ H
theorem GetsO.on {X : Cx} {i : Nat} {E : EnO} {g : Gh} {A0 A1 : Hp} {a : Addr} {S S' : Hp} {D : Ends} (G : GetsO X i E g A0 A1 a S D) (e : Same S S') : GetsO X i E g A0 A1 a S' D :=
  ⟨fun Γ B acc σ H0 H q w m => G.nx Γ B acc σ H0 H q w (e.trans m), G.fx, G.rt, fun Γ B acc σ H0 H q w m => G.bk Γ B acc σ H0 H q w (e.trans m), fun Γ B acc σ H0 H q w m => G.ct Γ B acc σ H0 H q w (e.trans m), fun Γ B acc σ H0 H q w m => G.ro Γ B acc σ H0 H q w (e.trans m), G.fc⟩
def OwJ (X : Cx) (i : Nat) (Γ : List VD) (B : Bag) (acc : List PyData) (ss : List Stmt) (E : EnO) : Prop :=
  ∀ g σ A0 A1 a H0 H, Own X.K i g A0 A1 a B Γ acc σ H0 H → ∀ D : Ends, GetsO X i E g A0 A1 a H0 D → WS X ss D σ H
def FJ (X : Cx) (Γ : List VD) (B : Bag) (e : Expr) (ds : List PyData) (B' : Bag) : Prop :=
  ∀ g σ H0 H, EnvD X.K g H0 σ Γ → On X.K g B H0 H → ∀ Q : VK,
    (∀ a zs H0' H', To g H0 H H0' H' → On X.K g B' H0' H' → RpAll X.K H0' zs ds → H' a = none → Q (.ref a) (upd H' a (.lst zs))) → WE X e σ H Q
section
variable {X : Cx} {i : Nat} {Γ : List VD} {B B1 B2 B' : Bag} {acc ds : List PyData} {e a b c : Expr} {es : List Expr} {d da db : VD} {y : PyData} {pos p p1 p2 p3 pos' : Pos} {rest ss s1 s2 : List Stmt} {E : EnO}
theorem fj_lst (h : AJ X Γ B es (ds.map .da) B1) (hl : ds.length ≤ 1000) : FJ X Γ B (.List es pos) ds B1 := fun g σ H0 H E O Q q =>
  ⟨_, pe_lst (wa es), h g σ H0 H E O _ fun vs H1 H' t o rs => by
    have rs := RvAll.dat rs
    exact ⟨by rw [rs.length]; exact Nat.le_of_lt (small1000 hl), fun p n => q p vs H1 H' t o rs n⟩⟩
theorem fj_lstD (h : AD X Γ B es ds B1) (hl : ds.length ≤ 1000 := by decide) : FJ X Γ B (.List es pos) ds B1 := fj_lst h hl
theorem sj_own {x : Str} {Es : En} (i : Nat) (nd : X.N.Nodup) (h : FJ X Γ B e ds B1) (hΓ : i < Γ.length)
    (k : OwJ X i (Γ.set i .no) B1 ds rest { nx := fun Γ' B' acc => Es.nx (Γ'.set i (.da (.list acc))) B', fx := Es.nx, rt := Es.rt, bk := fun Γ' B' acc => Es.bk (Γ'.set i (.da (.list acc))) B', ct := fun Γ' B' acc => Es.ct (Γ'.set i (.da (.list acc))) B' })
    (hi : X.N[i]? = some x := by rfl) (hx : Loc X.env.scope x := by first | exact Or.inl rfl | exact Or.inr rfl) (hs : swapsWith e (some (.Name x pos')) pos.line X.env = pure false := by rfl)
    (hf : X.fn x = true ∨ X.env.scope.names.lookup x = some .local := by first | exact Or.inl rfl | exact Or.inr rfl) : SJ X Γ B (.Assign [.Name x pos'] e pos :: rest) Es := fun g σ H0 H Ev O D G =>
  ⟨_, pss_cons (ps_set nd hi hx (we e) hs hf) (ws rest), h g σ H0 H Ev O _ fun a zs H1 H' t o r n => by
    have n1 : H1 a = none := o.ex.free n
    have off : Off g a := fun l z => by
      obtain ⟨_, q, _⟩ := o.bag a l z
      rw [n] at q; cases q
    have on : On X.K g B1 H1 (upd H' a (.lst zs)) := ⟨fun b u q => by
      rw [upd_ne (ne_of_none q n1)]; exact o.ex b u q, fun b l q => by
      obtain ⟨p1, p2, p3⟩ := o.bag b l q
      exact ⟨p1, by rw [upd_ne (ne_of_none p2 n)]; exact p2, p3⟩⟩
    have hi' : i < σ.length := by rw [Ev.len]; exact hΓ
    have ev : EnvD X.K g H1 (σ.set i (some (.ref a))) (Γ.set i .no) := (Ev.mono t.ex).set i (show Rv X.K g H1 (.ref a) .no from trivial)
    refine k g _ H1 H' a H1 _ ⟨⟨Same.refl _, fun b u f h1 h2 => ⟨h1, by rw [upd_ne (ne_of_none h2 n)]; exact h2⟩⟩, n, off, ev, List.getElem?_set_self hi', n1, ⟨zs, upd_same, r⟩, on⟩ D ⟨?_, ?_, ?_, ?_, ?_, ?_, ?_⟩
    · intro Γ' B' acc σ' H2 H2' q w _
      obtain ⟨H3, t3, e3, o3⟩ := w.freeze
      exact G.nx _ _ _ _ _ q (t.trans t3) e3 o3
    · intro Γ' B' σ' H2 H2' q t2 e2 o2
      exact G.nx _ _ _ _ _ q (t.trans t2) e2 o2
    · intro r B' v H2 H2' q t2 o2 rv
      exact G.rt _ _ _ _ _ q (t.trans t2) o2 rv
    · intro Γ' B' acc σ' H2 H2' q w _
      obtain ⟨H3, t3, e3, o3⟩ := w.freeze
      exact G.bk _ _ _ _ _ q (t.trans t3) e3 o3
    · intro Γ' B' acc σ' H2 H2' q w _
      obtain ⟨H3, t3, e3, o3⟩ := w.freeze
      exact G.ct _ _ _ _ _ q (t.trans t3) e3 o3
    · intro _ _ _ _ _ _ q; exact q.elim
    · intro _ _ _ _ _ q; exact q.elim⟩
theorem ow_end (h : SJ X (Γ.set i (.da (.list acc))) B ss { nx := E.fx, rt := E.rt, ct := E.fc }) : OwJ X i Γ B acc ss E := fun g σ A0 A1 a H0 H w D G => by
  obtain ⟨H1, t, ev, o⟩ := w.freeze
  exact h g σ H1 H ev o D ⟨fun Γ' B' σ' H2 H2' q t2 e2 o2 => G.fx _ _ _ _ _ q (t.trans t2) e2 o2, fun r B' v H2 H2' q t2 o2 rv => G.rt _ _ _ _ _ q (t.trans t2) o2 rv, fun _ _ _ _ _ q => q.elim, fun Γ' B' σ' H2 H2' q t2 e2 o2 => G.fc _ _ _ _ _ q (t.trans t2) e2 o2⟩
theorem ow_nil (h : E.nx Γ B acc) : OwJ X i Γ B acc [] E := fun g σ A0 A1 a H0 H w D G => ⟨_, pss_nil, G.nx _ _ _ _ _ _ h w (Same.refl _)⟩
theorem Own.step {K : PySem.W.Frag} {g : Gh} {A0 A1 : Hp} {a : Addr} {σ : L2.St} {H0 H H0' H' : Hp} (w : Own K i g A0 A1 a B Γ acc σ H0 H) (t : To g H0 H H0' H') (o : On K g B1 H0' H') : Own K i g A0 A1 a B1 Γ acc σ H0' H' := by
  obtain ⟨zs, hz, rz⟩ := w.ls
  obtain ⟨p, q⟩ := t.un a _ w.off w.no hz
  exact ⟨w.to.trans t, w.fr, w.off, w.ev.mono t.ex, w.at', p, ⟨zs, q, rz.mono t.ex⟩, o⟩
theorem ow_set {x : Str} (j : Nat) (nd : X.N.Nodup) (hij : j ≠ i) (h : EJ X Γ B e d B1) (k : OwJ X i (Γ.set j d) B1 acc rest E) (hi : X.N[j]? = some x := by rfl)
    (hx : Loc X.env.scope x := by first | exact Or.inl rfl | exact Or.inr rfl) (hs : swapsWith e (some (.Name x pos')) pos.line X.env = pure false := by rfl)
    (hf : X.fn x = true ∨ X.env.scope.names.lookup x = some .local := by first | exact Or.inl rfl | exact Or.inr rfl) : OwJ X i Γ B acc (.Assign [.Name x pos'] e pos :: rest) E := fun g σ A0 A1 a H0 H w D G =>
  ⟨_, pss_cons (ps_set nd hi hx (we e) hs hf) (ws rest), h g σ H0 H w.ev w.on _ fun v H1 H' t o r => by
    have w2 := w.step t o
    exact k g _ A0 A1 a H1 H' ⟨w2.to, w2.fr, w2.off, w2.ev.set j r, by rw [List.getElem?_set_ne hij]; exact w2.at', w2.no, w2.ls, w2.on⟩ D (G.on t.ex)⟩
theorem ow_app {x : Str} (nd : X.N.Nodup) (h : EJ X Γ B e (.da y) B1) (hl : acc.length < 1000) (k : OwJ X i Γ B1 (acc ++ [y]) rest E) (hi : X.N[i]? = some x := by rfl)
    (hv : Vis X.env.scope x := by first | exact Or.inl rfl | exact Or.inr (Or.inl rfl) | exact Or.inr (Or.inr rfl))
    (h1 : (x == ("__debug__" : Str)) = false := by decide) (h2 : (x == ("__classdict__" : Str)) = false := by decide)
    (hbase : attributeBase (.Name x p1) "append" X.env (eval (.Name x p1) X.env) = eval (.Name x p1) X.env := by rfl)
    (hfew : ((backTo p3 (starEach [e] X.env)).all (fun x => !x.1) && (backToKw p3 (keywordEach [] X.env)).all (fun x => x.1.isSome)
      && decide ([e].length + ([] : List Keyword).length + (if ([] : List Keyword).isEmpty then 0 else 1) < 30)) = true := by rfl)
    (hline : (p2.endLine == p3.line) = true := by rfl) (hst : starEach [e] X.env = [(false, eval e X.env)] := by rfl)
    (hs : swapsWith (.Call (.Attribute (.Name x p1) "append" p2) [e] [] p3) none pos.line X.env = pure false := by rfl) :
    OwJ X i Γ B acc (.Expr (.Call (.Attribute (.Name x p1) "append" p2) [e] [] p3) pos :: rest) E := fun g σ A0 A1 a H0 H w D G =>
  ⟨_, pss_cons (ps_expr (pe_bm PySem.F.plainAttrs_list PySem.F.slot_list_append PySem.F.type_list_append mt_append (pe_var hi hv h1 h2) (wa [e]) hbase hfew hline hst rfl) hs) (ws rest), by
    obtain ⟨zs, hz, rz⟩ := w.ls
    refine ⟨_, w.at', .inl ⟨rfl, _, SqL.of hz⟩, ?_⟩
    refine (aj_cons (ds := []) h aj_nil hst) g σ H0 H w.ev w.on _ fun vs H1 H' t o rs => ?_
    obtain ⟨v, rfl, rv⟩ := rv1 rs
    have w2 := w.step t o
    obtain ⟨zs2, hz2, rz2⟩ := w2.ls
    refine ⟨a, zs2, v, rfl, rfl, hz2, by rw [rz2.length]; exact small1000 (Nat.le_of_lt hl), ?_⟩
    refine k g σ A0 A1 a H1 _ ⟨⟨w2.to.ex, fun b u f q1 q2 => ?_⟩, w2.fr, w2.off, w2.ev, w2.at', w2.no, ⟨zs2 ++ [v], upd_same, rz2.app (.cons rv .nil)⟩, ⟨fun b u q => ?_, fun b l q => ?_⟩⟩ D (G.on t.ex)
    · obtain ⟨p, q⟩ := w2.to.un b u f q1 q2
      exact ⟨p, by rw [upd_ne (ne_of_none q2 w2.fr)]; exact q⟩
    · rw [upd_ne (ne_of_none q w2.no)]; exact w2.on.ex b u q
    · obtain ⟨p1, p2, p3⟩ := w2.on.bag b l q
      exact ⟨p1, by rw [upd_ne fun z : b = a => w2.off l (z ▸ q)]; exact p2, p3⟩⟩
theorem ow_while (P : List VD → Bag → List PyData → Prop) (μ : List VD → Bag → List PyData → Nat) (h0 : P Γ B acc)
    (hs : ∀ Γ B acc, P Γ B acc → ∃ x, TJ X Γ B c x B ∧
      (x = true → OwJ X i Γ B acc s1 { nx := fun Γ' B' acc' => P Γ' B' acc' ∧ μ Γ' B' acc' < μ Γ B acc, fx := fun _ _ => False, ct := fun Γ' B' acc' => P Γ' B' acc' ∧ μ Γ' B' acc' < μ Γ B acc, rt := E.rt }) ∧
      (x = false → OwJ X i Γ B acc rest E))
    (hp : PassesOwn (model X.prog X.w) X.A X.env X.xe := by exact PassesOwn.never) : OwJ X i Γ B acc (.While c s1 [] pos :: rest) E := fun g σ A0 A1 a H0 H w D G =>
  ⟨_, pss_cons (ps_while hp (wt c) (ws s1)) (ws rest), by
    refine ⟨fun m σ' H' => ∃ Γ' B' acc' H1, P Γ' B' acc' ∧ μ Γ' B' acc' = m ∧ Own X.K i g A0 A1 a B' Γ' acc' σ' H1 H' ∧ Same H0 H1, ⟨_, Γ, B, acc, H0, h0, rfl, w, Same.refl _⟩, ?_⟩
    rintro m σ' H' ⟨Γ', B', acc', H1, hP, rfl, w1, sm⟩
    obtain ⟨x, ht, hb, hd⟩ := hs Γ' B' acc' hP
    refine ht g σ' H1 H' w1.ev w1.on _ fun H2 H'' t2 o2 => ?_
    have w2 := w1.step t2 o2
    cases x with
    | true =>
      refine iteT ⟨fun σ2 H3' => ∃ m', m' < μ Γ' B' acc' ∧ ∃ Γ2 B2 acc2 H3, P Γ2 B2 acc2 ∧ μ Γ2 B2 acc2 = m' ∧ Own X.K i g A0 A1 a B2 Γ2 acc2 σ2 H3 H3' ∧ Same H0 H3, fun _ _ z => z, ?_⟩
      refine hb rfl g σ' A0 A1 a H2 H'' w2 _ ⟨?_, ?_, ?_, ?_, ?_, ?_, ?_⟩
      · rintro Γ3 B3 acc3 σ3 H3 H3' ⟨q1, q2⟩ w3 m3
        exact ⟨_, q2, Γ3, B3, acc3, H3, q1, rfl, w3, (sm.trans t2.ex).trans m3⟩
      · intro _ _ _ _ _ q; exact q.elim
      · intro r B3 v H3 H3' q t3 o3 rv
        exact G.rt r B3 v H3 H3' q t3 o3 rv
      · intro _ _ _ _ _ _ q; exact q.elim
      · rintro Γ3 B3 acc3 σ3 H3 H3' ⟨q1, q2⟩ w3 m3
        exact ⟨_, q2, Γ3, B3, acc3, H3, q1, rfl, w3, (sm.trans t2.ex).trans m3⟩
      · intro _ _ _ _ _ _ q; exact q.elim
      · intro _ _ _ _ _ q; exact q.elim
    | false => exact iteF (hd rfl g σ' A0 A1 a H2 H'' w2 D (G.on (sm.trans t2.ex)))⟩
end
end Gd
namespace Gd
open PySem PySem.Spec PyProof.Rows L2
section
variable {X : Cx} {Γ : List VD} {B B1 B2 B' : Bag} {e a b c : Expr} {es : List Expr} {d da db dc : VD} {pos p p' pos' : Pos} {rest ss s1 s2 : List Stmt} {E : En}
theorem ej_max {i j : Int} (hc : X.calm = true) (hm : X.mg "max" = none) (ha : EJ X Γ B a (.da (.int i)) B1) (hb : EJ X Γ B1 b (.da (.int j)) B2) (hg : Gl X "max" := by rfl)
    (h1 : starEach [a, b] X.env = (false, eval a X.env) :: starEach [b] X.env := by rfl) (h2 : starEach [b] X.env = (false, eval b X.env) :: starEach [] X.env := by rfl)
    (hpl : (backTo pos (starEach [b] X.env)).any (·.1) = false := by rfl) : EJ X Γ B (.Call (.Name "max" p) [a, b] [] pos) (.da (.int (max i j))) B2 :=
  ej_callB (call_max2 hc) hm (aj_cons ha (aj_cons hb aj_nil h2) h1) (fun g vs H0 H O r Q q => by
    obtain ⟨v, w, rfl, h, h'⟩ := rv2 r
    refine ⟨i, j, by rw [rvI h, rvI h'], ?_⟩
    have e : (if j > i then j else i) = max i j := by split <;> omega
    rw [e]; exact q _ _ _ To.refl O (Rp.int _)) (hg := hg) (hpl := hpl) (he := h1)
theorem ej_min {i j : Int} (hc : X.calm = true) (hm : X.mg "min" = none) (ha : EJ X Γ B a (.da (.int i)) B1) (hb : EJ X Γ B1 b (.da (.int j)) B2) (hg : Gl X "min" := by rfl)
    (h1 : starEach [a, b] X.env = (false, eval a X.env) :: starEach [b] X.env := by rfl) (h2 : starEach [b] X.env = (false, eval b X.env) :: starEach [] X.env := by rfl)
    (hpl : (backTo pos (starEach [b] X.env)).any (·.1) = false := by rfl) : EJ X Γ B (.Call (.Name "min" p) [a, b] [] pos) (.da (.int (min i j))) B2 :=
  ej_callB (call_min2 hc) hm (aj_cons ha (aj_cons hb aj_nil h2) h1) (fun g vs H0 H O r Q q => by
    obtain ⟨v, w, rfl, h, h'⟩ := rv2 r
    refine ⟨i, j, by rw [rvI h, rvI h'], ?_⟩
    have e : (if j < i then j else i) = min i j := by split <;> omega
    rw [e]; exact q _ _ _ To.refl O (Rp.int _)) (hg := hg) (hpl := hpl) (he := h1)
theorem sj_forRev (j : Nat) {x : Str} {ds : List PyData} {px pr pc : Pos} (nd : X.N.Nodup) (hc : X.calm = true) (hm : X.mg "reversed" = none) (P : Nat → List VD → Bag → Prop) (hi : EJ X Γ B e (.da (.list ds)) B1) (h0 : P 0 Γ B1)
    (hs : ∀ i y Γ' B', i < ds.length → ds[ds.length - 1 - i]? = some y → P i Γ' B' → SJ X (Γ'.set j (.da y)) B' s1 { nx := P (i + 1), ct := P (i + 1), bk := fun Γ' B' => SJ X Γ' B' rest E, rt := E.rt })
    (hd : ∀ Γ' B', P ds.length Γ' B' → SJ X Γ' B' rest E) (hN : X.N[j]? = some x := by rfl) (hx : Loc X.env.scope x := by first | exact Or.inl rfl | exact Or.inr rfl)
    (hf : X.fn x = true ∨ X.env.scope.names.lookup x = some .local := by first | exact Or.inl rfl | exact Or.inr rfl)
    (hp : PassesOwn (model X.prog X.w) X.A X.env X.xe := by exact PassesOwn.never) (hq : ∀ x, foldedSetIterable (.Call (.Name "reversed" pr) [e] [] pc) X.env x = pure x := by intro _; rfl)
    (hst : starEach [e] X.env = [(false, eval e X.env)] := by rfl) (hg : Gl X "reversed" := by rfl) :
    SJ X Γ B (.For (.Name x px) (.Call (.Name "reversed" pr) [e] [] pc) s1 [] pos :: rest) E := fun g σ H0 H Ev O D G =>
  ⟨_, pss_cons (ps_for hp hc (pi_reversed hg hm (wa [e]) hst) (pg_name nd hN hx hf) (ws s1) hq) (ws rest), (aj_cons (ds := []) hi aj_nil hst) g σ H0 H Ev O _ fun vs H1 H' t o r => by
    obtain ⟨v, rfl, h⟩ := rv1 r
    obtain ⟨l, xs, rfl, hxs, rs⟩ := rvL h
    refine ⟨l, xs, rfl, SqL.of (o.ex _ _ hxs), ?_⟩
    refine RT.for_Itv (xs := xs) (fun i σ' H'' => ∃ Γ' B' H2, P i Γ' B' ∧ To g H1 H' H2 H'' ∧ EnvD X.K g H2 σ' Γ' ∧ On X.K g B' H2 H'') ⟨Γ, B1, H1, h0, To.refl, Ev.mono t.ex, o⟩ ?_ ?_ ?_
    · rintro i σ' H'' ⟨Γ', B', H2, _, t2, _, o2⟩
      exact SqL.of (o2.ex _ _ (t2.ex _ _ hxs))
    · rintro i y σ' H'' hlt hy ⟨Γ', B', H2, hP, t2, e2, o2⟩
      rw [rs.length] at hlt hy
      obtain ⟨d, hdi, rd⟩ := rs.get hy
      refine hs i d Γ' B' hlt hdi hP g _ H2 H'' (e2.set j (Rp.mono t2.ex rd)) o2 _ ⟨?_, ?_, ?_, ?_⟩
      · exact fun Γ3 B3 σ3 H3 H3' q t3 e3 o3 => ⟨Γ3, B3, H3, q, t2.trans t3, e3, o3⟩
      · exact fun r B3 v H3 H3' q t3 o3 rv => (G.on (t.trans t2)).rt r B3 v H3 H3' q t3 o3 rv
      · exact fun Γ3 B3 σ3 H3 H3' q t3 e3 o3 => q g σ3 H3 H3' e3 o3 D (G.on ((t.trans t2).trans t3))
      · exact fun Γ3 B3 σ3 H3 H3' q t3 e3 o3 => ⟨Γ3, B3, H3, q, t2.trans t3, e3, o3⟩
    · rintro σ' H'' ⟨Γ', B', H2, hP, t2, e2, o2⟩
      rw [rs.length] at hP
      exact hd Γ' B' hP g σ' H2 H'' e2 o2 D (G.on (t.trans t2))⟩
theorem sj_forR (j : Nat) {x : Str} {n : Nat} {px pr pc : Pos} (nd : X.N.Nodup) (hc : X.calm = true) (hm : X.mg "range" = none) (P : Nat → List VD → Bag → Prop) (hi : EJ X Γ B e (.da (.int n)) B1) (hn : n ≤ 100000) (h0 : P 0 Γ B1)
    (hs : ∀ i Γ' B', i < n → P i Γ' B' → SJ X (Γ'.set j (.da (.int (i : Nat)))) B' s1 { nx := P (i + 1), ct := P (i + 1), bk := fun Γ' B' => SJ X Γ' B' rest E, rt := E.rt })
    (hd : ∀ Γ' B', P n Γ' B' → SJ X Γ' B' rest E) (hN : X.N[j]? = some x := by rfl) (hx : Loc X.env.scope x := by first | exact Or.inl rfl | exact Or.inr rfl)
    (hf : X.fn x = true ∨ X.env.scope.names.lookup x = some .local := by first | exact Or.inl rfl | exact Or.inr rfl)
    (hp : PassesOwn (model X.prog X.w) X.A X.env X.xe := by exact PassesOwn.never) (hq : ∀ x, foldedSetIterable (.Call (.Name "range" pr) [e] [] pc) X.env x = pure x := by intro _; rfl)
    (hst : starEach [e] X.env = [(false, eval e X.env)] := by rfl) (hg : Gl X "range" := by rfl) :
    SJ X Γ B (.For (.Name x px) (.Call (.Name "range" pr) [e] [] pc) s1 [] pos :: rest) E := fun g σ H0 H Ev O D G =>
  ⟨_, pss_cons (ps_for hp hc (pi_range1 hg hm (wa [e]) hst) (pg_name nd hN hx hf) (ws s1) hq) (ws rest), (aj_cons (ds := []) hi aj_nil hst) g σ H0 H Ev O _ fun vs H1 H' t o r => by
    obtain ⟨v, rfl, h⟩ := rv1 r
    refine ⟨(n : Int), by rw [rvI h], by omega, by omega, ?_⟩
    rw [Int.toNat_natCast]
    refine for_range (lo := 0) (n := n) (fun i σ' H'' => ∃ Γ' B' H2, P i Γ' B' ∧ To g H1 H' H2 H'' ∧ EnvD X.K g H2 σ' Γ' ∧ On X.K g B' H2 H'') ⟨Γ, B1, H1, h0, To.refl, Ev.mono t.ex, o⟩ ?_ ?_
    · rintro i σ' H'' hlt ⟨Γ', B', H2, hP, t2, e2, o2⟩
      rw [Int.zero_add]
      refine hs i Γ' B' hlt hP g _ H2 H'' (e2.set (d := .da (.int (i : Nat))) j (Rp.int _)) o2 _ ⟨?_, ?_, ?_, ?_⟩
      · exact fun Γ3 B3 σ3 H3 H3' q t3 e3 o3 => ⟨Γ3, B3, H3, q, t2.trans t3, e3, o3⟩
      · exact fun r B3 v H3 H3' q t3 o3 rv => (G.on (t.trans t2)).rt r B3 v H3 H3' q t3 o3 rv
      · exact fun Γ3 B3 σ3 H3 H3' q t3 e3 o3 => q g σ3 H3 H3' e3 o3 D (G.on ((t.trans t2).trans t3))
      · exact fun Γ3 B3 σ3 H3 H3' q t3 e3 o3 => ⟨Γ3, B3, H3, q, t2.trans t3, e3, o3⟩
    · rintro σ' H'' ⟨Γ', B', H2, hP, t2, e2, o2⟩
      exact hd Γ' B' hP g σ' H2 H'' e2 o2 D (G.on (t.trans t2))⟩
end
end Gd
namespace Gd
open PySem PySem.Spec PyProof.Rows L2
section
variable {X : Cx} {Γ : List VD} {B B1 B2 B' : Bag} {e a b c : Expr} {es : List Expr} {d da db dc : VD} {pos p p' pos' : Pos} {rest ss s1 s2 : List Stmt} {E : En}
theorem rv3 {K : PySem.W.Frag} {g : Gh} {H0 : Hp} {vs : List V} {d d' d'' : VD} (h : RvAll K g H0 vs [d, d', d'']) : ∃ v v' v'', vs = [v, v', v''] ∧ Rv K g H0 v d ∧ Rv K g H0 v' d' ∧ Rv K g H0 v'' d'' := by
  match vs, h with
  | [v, v', v''], h => exact ⟨v, v', v'', rfl, h.1, h.2.1, h.2.2.1⟩
theorem sj_par3 (i j l : Nat) {x y z : Str} {px py pz pt : Pos} {kt k2 pt2} {d1 d2 d3 : VD} (nd : X.N.Nodup) (hc : X.calm = true) (h : AJ X Γ B [a, b, c] [d1, d2, d3] B1) (k : SJ X (((Γ.set i d1).set j d2).set l d3) B1 rest E)
    (hij : i ≠ j) (hil : i ≠ l) (hjl : j ≠ l) (hw : swappedStores [.Tuple [.Name x px, .Name y py, .Name z pz] kt pt] (.Tuple [a, b, c] k2 pt2) X.env = pure (some [x, y, z])) (hi : X.N[i]? = some x := by rfl) (hj : X.N[j]? = some y := by rfl) (hl : X.N[l]? = some z := by rfl)
    (hx : X.env.scope.names.lookup x = some .local := by rfl) (hy : X.env.scope.names.lookup y = some .local := by rfl) (hz : X.env.scope.names.lookup z = some .local := by rfl)
    (hsw : swapsWithSole [.Tuple [.Name x px, .Name y py, .Name z pz] kt pt] (.Tuple [a, b, c] k2 pt2) pos.line X.env = pure false := by rfl) :
    SJ X Γ B (.Assign [.Tuple [.Name x px, .Name y py, .Name z pz] kt pt] (.Tuple [a, b, c] k2 pt2) pos :: rest) E := fun g σ H0 H Ev O D G =>
  ⟨_, pss_cons (ps_par3 hc nd hi hj hl hij hil hjl hx hy hz (wa [a, b, c]) hw hsw) (ws rest), h g σ H0 H Ev O _ fun vs H1 H' t o r => by
    obtain ⟨u, v, w, rfl, r1, r2, r3⟩ := rv3 r
    exact ⟨u, v, w, rfl, k g _ H1 H' ((((Ev.mono t.ex).set i r1).set j r2).set l r3) o D (G.on t)⟩⟩
theorem eqv_ii (a b c d : Int) : PyData.eqv (.tuple [.int a, .int b]) (.tuple [.int c, .int d]) = (decide (a = c) && decide (b = d)) := by
  simp only [PyData.eqv, PyData.eqvAll, Bool.and_true]
  rw [← eqv_int, ← eqv_int]
  simp only [PyData.eqv]
end
end Gd
namespace Gd
open PySem PySem.Spec PyProof.Rows L2
section
variable {X : Cx} {Γ : List VD} {B B1 B2 B' : Bag} {a b : Expr} {pos : Pos}
theorem ej_eqB {i j : Bool} (hu : X.A.units + 64 < cLine) (ha : EJ X Γ B a (.da (.bool i)) B1) (hb : EJ X Γ B1 b (.da (.bool j)) B2) : EJ X Γ B (.Compare a [.Eq] [b] pos) (.da (.bool (decide (i = j)))) B2 := by
  have h := ej_eq (pos := pos) hu ha hb rfl rfl
  have e : PyData.eqv (.bool i) (.bool j) = decide (i = j) := by simp only [PyData.eqv]; cases i <;> cases j <;> rfl
  rw [e] at h; exact h
end
end Gd
namespace Gd
open PySem PySem.Spec PyProof.Rows L2
theorem Cal.name {P : Program} {w : World} {K : PySem.W.Frag} {mg : Str → Option Value} {base : Heap} {x y : Str} {k : Nat} {R : Rel} {mg' : Str → Option Value} (e : mg x = mg y) (c : Cal P w K mg base x k R) : Cal P w K mg base y k R := by
  obtain ⟨f, fd, ps, F, hm, h⟩ := c
  exact ⟨f, fd, ps, F, e ▸ hm, h⟩
end Gd
namespace Lw
open PySem PySem.Spec PyProof.Rows L2 Gd Fr
open scoped Rat
structure Qz (n d : Nat) (q : Rat) : Prop where
  nu : Bd n q.num
  de : Bd d (q.den : Int)
theorem Qz.le {n d n' d' : Nat} {q : Rat} (h : Qz n d q) (e : n ≤ n') (f : d ≤ d') : Qz n' d' q := ⟨h.nu.le e, h.de.le f⟩
theorem num_ne {y : Rat} (h : y ≠ 0) : y.num ≠ 0 := fun z => h (Rat.num_eq_zero.mp z)
theorem bd_sum {a n : Nat} {i j : Int} (h : Bd a i) (k : Bd n j) (N : Nat) (h1 : a < N) (h2 : n < N) : Bd N (i + j) := by
  have := Int.natAbs_add_le i j
  have e1 : 2 ^ a ≤ 2 ^ (N - 1) := Nat.pow_le_pow_right (by decide) (by omega)
  have e2 : 2 ^ n ≤ 2 ^ (N - 1) := Nat.pow_le_pow_right (by decide) (by omega)
  have e3 : 2 ^ N = 2 ^ (N - 1) * 2 := by rw [← Nat.pow_succ]; congr 1; omega
  unfold Bd at *
  omega
theorem Qz.add {n d m c : Nat} {x y : Rat} (h : Qz n d x) (k : Qz m c y) (N : Nat) (h1 : n + c < N) (h2 : m + d < N) : Qz N (d + c) (x + y) := by
  rw [← add_div]
  have hne : (x.den : Int) * (y.den : Int) ≠ 0 := Int.mul_ne_zero (den_ne x) (den_ne y)
  have hb := bd_sum (h.nu.mul k.de) (k.nu.mul h.de) N h1 h2
  exact ⟨(divInt_bd hne hb (h.de.mul k.de)).1, (divInt_bd hne hb (h.de.mul k.de)).2⟩
theorem Qz.neg {n d : Nat} {x : Rat} (h : Qz n d x) : Qz n d (-x) := ⟨by rw [Rat.neg_num]; exact h.nu.neg, by rw [Rat.neg_den]; exact h.de⟩
theorem Qz.mul {n d m c : Nat} {x y : Rat} (h : Qz n d x) (k : Qz m c y) : Qz (n + m) (d + c) (x * y) := by
  rw [← mul_div]
  have hne : (x.den : Int) * (y.den : Int) ≠ 0 := Int.mul_ne_zero (den_ne x) (den_ne y)
  exact ⟨(divInt_bd hne (h.nu.mul k.nu) (h.de.mul k.de)).1, (divInt_bd hne (h.nu.mul k.nu) (h.de.mul k.de)).2⟩
theorem Qz.div {n d m c : Nat} {x y : Rat} (h : Qz n d x) (k : Qz m c y) (hy : y ≠ 0) : Qz (n + c) (d + m) (x / y) := by
  rw [← div_div x y hy]
  have hne : (x.den : Int) * y.num ≠ 0 := Int.mul_ne_zero (den_ne x) (num_ne hy)
  exact ⟨(divInt_bd hne (h.nu.mul k.de) (h.de.mul k.nu)).1, (divInt_bd hne (h.nu.mul k.de) (h.de.mul k.nu)).2⟩
theorem cmz {n m : Nat} {i j : Int} (h : Bd n i) (k : Bd m j) (e : n ≤ 100000 := by omega) (e' : m ≤ 100000 := by omega) : CMulW i j := cm h k (by omega)
theorem Qz.nat {a n : Nat} (h : a < 2 ^ n) : Qz n 1 (a : Rat) := ⟨by rw [Rat.num_natCast]; exact Bd.nat h, by rw [Rat.den_natCast]; unfold Bd; decide⟩
inductive R_reduced : Rel
  | mk (n d : Int) (B : Bag) (h : d ≠ 0) (hn : Bd 8900 d) : R_reduced [.da (.int n), .da (.int d)] B (fq (n /. d)) B
inductive R_two (f : Rat → Rat → Rat) : Rel
  | mk (n d m c : Nat) (x y : Rat) (B : Bag) (hx : Qz n d x) (hy : Qz m c y) (h1 : n ≤ 90000) (h2 : m ≤ 90000) (h3 : d + c ≤ 8900) : R_two f [.da (fq x), .da (fq y)] B (fq (f x y)) B
def absQ (x : Rat) : Rat := if x < 0 then -x else x
theorem num_neg_iff (x : Rat) : x.num < 0 ↔ x < 0 := by
  rw [Rat.lt_iff]
  show x.num < 0 ↔ x.num * 1 < 0 * _
  rw [Int.mul_one, Int.zero_mul]
theorem absQ_num (x : Rat) : (absQ x).num = (if x.num < 0 then -x.num else x.num) ∧ (absQ x).den = x.den := by
  unfold absQ
  by_cases h : x < 0
  · rw [if_pos h, if_pos ((num_neg_iff x).mpr h), Rat.neg_num, Rat.neg_den]; exact ⟨rfl, rfl⟩
  · rw [if_neg h, if_neg (fun z => h ((num_neg_iff x).mp z))]; exact ⟨rfl, rfl⟩
theorem Qz.abs {n d : Nat} {x : Rat} (h : Qz n d x) : Qz n d (absQ x) := by
  unfold absQ; split
  · exact h.neg
  · exact h
inductive R_one (v : Rat → PyData) : Rel
  | mk (x : Rat) (B : Bag) : R_one v [.da (fq x)] B (v x) B
def sgn (x : Rat) : Int := if x.num < 0 then 1 else 0
def pt (l m : Int) : Int := if l = 0 then 0 else if 2 * l < m then 1 else if 2 * l = m then 2 else 3
inductive R_part : Rel
  | mk (l m : Int) (B : Bag) (n : Nat) (hl : Bd n l) (hn : n ≤ 90000) : R_part [.da (.int l), .da (.int m)] B (.int (pt l m)) B
def outw (way : Str) (s c part : Int) : Bool :=
  if part = 0 ∨ way = "zero" then false
  else if way = "up" then decide (s = 0)
  else if way = "down" then decide (s = 1)
  else if part = 2 then (decide (way = "away") || decide (c % 2 = 1))
  else decide (part = 3)
inductive R_outw : Rel
  | mk (way : Str) (s c part : Int) (B : Bag) : R_outw [.da (.str way), .da (.int s), .da (.int c), .da (.int part)] B (.bool (outw way s c part)) B
def absI (i : Int) : Int := if i < 0 then -i else i
def nearI (way : Str) (x : Rat) : Int :=
  let c := absI x.num / (x.den : Int)
  let c' := if outw way (sgn x) c (pt (absI x.num % (x.den : Int)) (x.den : Int)) = true then c + 1 else c
  if sgn x = 1 then -c' else c'
theorem bd_pow {b : Nat} (k : Nat) (h : b < 2 ^ 6) : Bd (6 * k + 1) (((b ^ k : Nat) : Int)) := by
  unfold Bd
  rw [Int.natAbs_natCast, Nat.pow_succ, Nat.pow_mul]
  have := Nat.pow_le_pow_left (Nat.le_of_lt h) k
  have p : 0 < (2 ^ 6) ^ k := Nat.pow_pos (by decide)
  omega
def intAt (Γ : List VD) (i : Nat) : Int := match Γ[i]? with
  | some (.da (.int m)) => m
  | _ => 0
theorem pow_sq (b k : Nat) : ((b ^ k : Nat) : Int) * ((b ^ k : Nat) : Int) = ((b ^ (k + k) : Nat) : Int) := by rw [← Int.natCast_mul, ← Nat.pow_add]
theorem pow_up (b j k : Nat) : ((b ^ j : Nat) : Int) * ((b ^ k : Nat) : Int) = ((b ^ (j + k) : Nat) : Int) := by rw [← Int.natCast_mul, ← Nat.pow_add]
theorem half (m : Nat) : (m : Int) / 2 = ((m / 2 : Nat) : Int) := by omega
theorem turn_odd {j k m e : Nat} (h : j + k * m = e) (h1 : m % 2 = 1) : (j + k) + (k + k) * (m / 2) = e := by
  have : m = 2 * (m / 2) + 1 := by omega
  rw [this] at h
  generalize m / 2 = t at *
  grind
theorem turn_even {j k m e : Nat} (h : j + k * m = e) (h1 : ¬ m % 2 = 1) : j + (k + k) * (m / 2) = e := by
  have : m = 2 * (m / 2) := by omega
  rw [this] at h
  generalize m / 2 = t at *
  grind
theorem k_le {j k m e : Nat} (h : j + k * m = e) (h1 : 0 < m) : k ≤ e ∧ j ≤ e := by
  have : k * 1 ≤ k * m := Nat.mul_le_mul_left k h1
  omega
theorem j_end {j k m e : Nat} (h : j + k * m = e) (h1 : ¬ 0 < m) : j = e := by
  have : m = 0 := by omega
  subst this; omega
inductive R_pow : Rel
  | mk (b e : Nat) (B : Bag) (hb : b < 2 ^ 6) (he : e ≤ 20000) : R_pow [.da (.int b), .da (.int e)] B (.int ((b ^ e : Nat) : Int)) B
def pw (b : Nat) (e : Int) : Rat := if e < 0 then ((b ^ (-e).toNat : Nat) : Rat)⁻¹ else ((b ^ e.toNat : Nat) : Rat)
theorem fq_nat (n : Nat) : fq (n : Rat) = .tuple [.int n, .int 1] := by unfold fq; rw [Rat.num_natCast, Rat.den_natCast]; rfl
theorem fq_inv {n : Nat} (h : 0 < n) : fq ((n : Rat)⁻¹) = .tuple [.int 1, .int n] := by
  unfold fq
  rw [Rat.num_inv, Rat.den_inv, Rat.num_natCast, Rat.den_natCast, if_neg (by omega), Int.sign_eq_one_of_pos (by omega)]
  rfl
inductive R_power_of : Rel
  | mk (b : Nat) (e : Int) (B : Bag) (h0 : 0 < b) (hb : b < 2 ^ 6) (h1 : -20000 ≤ e) (h2 : e ≤ 20000) : R_power_of [.da (.int b), .da (.int e)] B (fq (pw b e)) B
inductive R_bag : Rel
  | mk (ns : List Int) (B : Bag) (hl : ns.length ≤ 63) : R_bag [.scr ns] B (.list [.int 0, .int 1234567891, .int 0, .list (((ns.take 63).map absI).map .int)]) B
theorem cut_head (ns : List Int) (n : Nat) : cutP (ns.map PyData.int) none (some (n : Int)) = (ns.take n).map PyData.int := by
  unfold cutP
  rw [HT.sIx_none, HT.sIx_nat, List.drop_zero, List.length_map, Nat.sub_zero, ← List.map_take]
  congr 1
  by_cases h : n ≤ ns.length
  · rw [Nat.min_eq_left h]
  · rw [Nat.min_eq_right (by omega), List.take_length, List.take_of_length_le (by omega)]
def cell (B : Bag) : Int := ((B.cs.drop (HT.sIx B.cs.length 0 (some B.z))) ++ [0]).headD 0
def stir (B : Bag) : Bag :=
  if B.x = 0 then ⟨if 10 ^ 18 ≤ cell B then cell B else B.x, (B.y * 48271 + cell B % 2147483647 + 7919 * (B.z + 1)) % 2147483647, B.z + 1, B.cs⟩ else B
def low (B : Bag) : Int := (((B.y + 1) * 39373) % 1000000007 * (((B.y + 1) * 39373) % 1000000007) % 998244353 * 30011) % 998244353 / 7
def tkV (B : Bag) (m : Int) : Int := if 0 < (stir B).x then (stir B).x % m else low (stir B) % m
def tkB (B : Bag) (m : Int) : Bag := if 0 < (stir B).x then { stir B with x := (stir B).x / m } else stir B
theorem tkV_ge (B : Bag) {m : Int} (h : 0 < m) : 0 ≤ tkV B m := by
  unfold tkV; split <;> exact Int.emod_nonneg _ (Int.ne_of_gt h)
theorem tkV_lt (B : Bag) {m : Int} (h : 0 < m) : tkV B m < m := by
  unfold tkV; split <;> exact Int.emod_lt_of_pos _ h
def Bok (B : Bag) : Prop := B.cs.length ≤ 63
theorem stir_ok {B : Bag} (h : Bok B) : Bok (stir B) := by
  unfold stir; split <;> exact h
theorem tkB_ok {B : Bag} (h : Bok B) (m : Int) : Bok (tkB B m) := by
  unfold tkB; split <;> exact stir_ok h
inductive R_take : Rel
  | mk (B : Bag) (m : Int) (h : 0 < m) (hb : Bd 8000 m) (hc : Bok B) : R_take [.bag, .da (.int m)] B (.int (tkV B m)) (tkB B m)
theorem drop_cell (B : Bag) : atI (cutP (B.cs.map PyData.int) (some B.z) none ++ [PyData.int 0]) 0 = some (.int (cell B)) := by
  have e : cutP (B.cs.map PyData.int) (some B.z) none = (B.cs.drop (HT.sIx B.cs.length 0 (some B.z))).map PyData.int := by
    unfold cutP
    rw [HT.sIx_none, List.length_map, ← List.map_drop, List.take_of_length_le]
    rw [List.length_map, List.length_drop]; omega
  rw [e]
  unfold cell
  cases B.cs.drop (HT.sIx B.cs.length 0 (some B.z)) with
  | nil => rfl
  | cons c cs =>
    show atI (PyData.int c :: _) ((0 : Nat) : Int) = some (.int c)
    exact atI_nat rfl
def pick (ds : List PyData) (B : Bag) : PyData := ds.getD (tkV B ds.length).toNat .none
inductive R_some : Rel
  | mk (B : Bag) (ds : List PyData) (h : 0 < ds.length) (hl : ds.length ≤ 1000) (hc : Bok B) : R_some [.bag, .da (.list ds)] B (pick ds B) (tkB B ds.length)
theorem pick_at (ds : List PyData) (B : Bag) (h : 0 < ds.length) : atI ds (tkV B ds.length) = some (pick ds B) := by
  have h0 := tkV_ge B (m := ds.length) (by omega)
  have h1 := tkV_lt B (m := ds.length) (by omega)
  have e : tkV B ds.length = ((tkV B ds.length).toNat : Int) := by omega
  have hlt : (tkV B ds.length).toNat < ds.length := by omega
  conv => lhs; rw [e]
  refine atI_nat ?_
  unfold pick
  rw [List.getD_eq_getElem?_getD, List.getElem?_eq_getElem hlt]; rfl
def wayList : List Str := ["even", "away", "up", "down", "zero"]
end Lw
namespace Lw
open PySem PySem.Spec PyProof.Rows L2 Gd Fr
open scoped Rat
theorem ltle {a b c : Rat} (h : a < b) (k : b ≤ c) : a < c := by grind
theorem lelt {a b c : Rat} (h : a ≤ b) (k : b < c) : a < c := by grind
theorem pw_eq (b : Nat) (e : Int) : pw b e = (b : Rat) ^ e := by
  unfold pw
  by_cases h : e < 0
  · rw [if_pos h]
    have e1 : e = -((-e).toNat : Int) := by omega
    conv => rhs; rw [e1]
    rw [Rat.zpow_neg, Rat.zpow_natCast, Rat.natCast_pow]
  · rw [if_neg h]
    have e1 : e = (e.toNat : Int) := by omega
    conv => rhs; rw [e1]
    rw [Rat.zpow_natCast, Rat.natCast_pow]
section
variable {b p : Nat} (h2 : 2 ≤ b)
include h2
theorem b_pos : (0 : Rat) < (b : Rat) := Rat.natCast_pos.mpr (by omega)
theorem pw_pos (e : Int) : 0 < pw b e := by rw [pw_eq]; exact Rat.zpow_pos (b_pos h2)
theorem pw_add (x y : Int) : pw b (x + y) = pw b x * pw b y := by
  rw [pw_eq, pw_eq, pw_eq]
  exact Rat.zpow_add (fun z => by have := b_pos h2; rw [z] at this; exact absurd this (by decide)) x y
omit h2 in
theorem pw_nat (n : Nat) : pw b (n : Int) = ((b ^ n : Nat) : Rat) := by
  unfold pw; rw [if_neg (by omega), Int.toNat_natCast]
omit h2 in
theorem pw_zero : pw b 0 = 1 := by
  have := pw_nat (b := b) 0
  rw [Nat.pow_zero] at this; exact this
omit h2 in
theorem pw_of {e : Int} (h : 0 ≤ e) : pw b e = ((b ^ e.toNat : Nat) : Rat) := by
  unfold pw; rw [if_neg (by omega)]
theorem pw_ge1 {e : Int} (h : 0 ≤ e) : 1 ≤ pw b e := by
  rw [pw_of h]
  have : 1 ≤ b ^ e.toNat := Nat.pow_pos (by omega)
  exact Rat.natCast_le_natCast.mpr this
theorem pw_mono {x y : Int} (h : x ≤ y) : pw b x ≤ pw b y := by
  have e : y = (y - x) + x := by omega
  rw [e, pw_add h2]
  have h1 := pw_ge1 h2 (e := y - x) (by omega)
  have := Rat.mul_le_mul_of_nonneg_right h1 (Rat.le_of_lt (pw_pos h2 x))
  rw [Rat.one_mul] at this; exact this
def IsE (b p : Nat) (low : Int) (q : Rat) (e : Int) : Prop := low ≤ e ∧ q < pw b (p + e) ∧ (e = low ∨ pw b (p + e - 1) ≤ q)
end
def Nq (b : Nat) (e : Int) (q : Rat) : Int := q.num * ((b ^ (-e).toNat : Nat) : Int)
def Dq (b : Nat) (e : Int) (q : Rat) : Int := (q.den : Int) * ((b ^ e.toNat : Nat) : Int)
def cQ (b : Nat) (e : Int) (q : Rat) : Int := Nq b e q / Dq b e q
def rQ (b : Nat) (e : Int) (q : Rat) : Int := Nq b e q % Dq b e q
def tQ (b : Nat) (e : Int) (q : Rat) : Rat := (rQ b e q : Rat) / (Dq b e q : Rat)
section
variable {b p : Nat} (h2 : 2 ≤ b)
include h2
theorem Dq_pos (e : Int) (q : Rat) : 0 < Dq b e q := Int.mul_pos (den_pos q) (Int.natCast_pos.mpr (Nat.pow_pos (by omega)))
theorem Dq_ne (e : Int) (q : Rat) : ((Dq b e q : Int) : Rat) ≠ 0 := fun z => by
  have := Dq_pos h2 e q
  have e0 : Dq b e q = 0 := Rat.intCast_inj.mp (z.trans (by rfl))
  omega
theorem unit_ND (e : Int) : pw b e * ((b ^ (-e).toNat : Nat) : Rat) = ((b ^ e.toNat : Nat) : Rat) := by
  by_cases h : e < 0
  · have h1 : e.toNat = 0 := by omega
    rw [h1, Nat.pow_zero]
    unfold pw; rw [if_pos h]
    have : ((b ^ (-e).toNat : Nat) : Rat) ≠ 0 := fun z => by
      have h3 : 0 < b ^ (-e).toNat := Nat.pow_pos (by omega)
      have := Rat.natCast_pos.mpr h3
      rw [z] at this; exact absurd this (by decide)
    rw [Rat.mul_comm, Rat.mul_inv_cancel _ this]; rfl
  · have h1 : (-e).toNat = 0 := by omega
    rw [h1, Nat.pow_zero, pw_of (by omega)]
    exact Rat.mul_one _
omit h2 in
theorem num_den (q : Rat) : q * ((q.den : Int) : Rat) = (q.num : Rat) := by
  have h := Rat.num_divInt_den q
  rw [Rat.divInt_eq_div] at h
  have hd : ((q.den : Int) : Rat) ≠ 0 := fun z => by
    have e0 : (q.den : Int) = 0 := Rat.intCast_inj.mp (z.trans (by rfl))
    exact den_ne q e0
  conv => lhs; lhs; rw [← h]
  exact Rat.div_mul_cancel hd
theorem ND (e : Int) (q : Rat) : q * (Dq b e q : Rat) = (Nq b e q : Rat) * pw b e := by
  unfold Dq Nq
  rw [Rat.intCast_mul, Rat.intCast_mul, ← num_den q, Rat.intCast_natCast, Rat.intCast_natCast, Rat.intCast_natCast, ← unit_ND h2 e]
  grind
theorem q_val (e : Int) (q : Rat) : q = ((cQ b e q : Rat) + tQ b e q) * pw b e := by
  have hne := Dq_ne h2 e q
  have h := ND h2 e q
  have hd := Int.emod_add_mul_ediv (Nq b e q) (Dq b e q)
  have hd' : (Nq b e q : Rat) = (rQ b e q : Rat) + (Dq b e q : Rat) * (cQ b e q : Rat) := by
    rw [← Rat.intCast_mul, ← Rat.intCast_add]
    exact congrArg _ hd.symm
  have ht : tQ b e q * (Dq b e q : Rat) = (rQ b e q : Rat) := Rat.div_mul_cancel hne
  have : q * (Dq b e q : Rat) = (((cQ b e q : Rat) + tQ b e q) * pw b e) * (Dq b e q : Rat) := by
    rw [h, hd', ← ht]; grind
  have h3 := congrArg (· / (Dq b e q : Rat)) this
  simp only [Rat.mul_div_cancel hne] at h3
  exact h3
theorem r_ge (e : Int) (q : Rat) : 0 ≤ rQ b e q := Int.emod_nonneg _ (Int.ne_of_gt (Dq_pos h2 e q))
theorem Dq_posQ (e : Int) (q : Rat) : (0 : Rat) < (Dq b e q : Rat) := Rat.intCast_lt_intCast.mpr (Dq_pos h2 e q)
theorem t_mul (e : Int) (q : Rat) : tQ b e q * (Dq b e q : Rat) = (rQ b e q : Rat) := Rat.div_mul_cancel (Dq_ne h2 e q)
theorem t_lt_iff (e : Int) (q : Rat) (m : Int) (k : Nat) (hk : 0 < k) : (k : Rat) * tQ b e q < (m : Rat) ↔ k * rQ b e q < m * Dq b e q := by
  rw [← Rat.mul_lt_mul_right (Dq_posQ h2 e q), Rat.mul_assoc, t_mul h2, ← Rat.intCast_natCast, ← Rat.intCast_mul, ← Rat.intCast_mul, Rat.intCast_lt_intCast]
theorem t_ge (e : Int) (q : Rat) : 0 ≤ tQ b e q := by
  rw [← Rat.not_lt]
  intro h
  have := (t_lt_iff h2 e q 0 1 (by decide)).mp (by rw [show ((1 : Nat) : Rat) = 1 from rfl, Rat.one_mul]; exact h)
  have := r_ge h2 e q
  omega
end
end Lw
namespace Lw
open PySem PySem.Spec PyProof.Rows L2 Gd Fr
open scoped Rat
theorem cast_lt {a c : Int} : (a : Rat) < (c : Rat) ↔ a < c := Rat.intCast_lt_intCast
theorem cast_le {a c : Int} : (a : Rat) ≤ (c : Rat) ↔ a ≤ c := Rat.intCast_le_intCast
section
variable {b p : Nat} (h2 : 2 ≤ b)
include h2
theorem c_ge {q : Rat} (h : 0 ≤ q) (e : Int) : 0 ≤ cQ b e q :=
  Int.ediv_nonneg (Int.mul_nonneg (Rat.num_nonneg.mpr h) (Int.natCast_nonneg _)) (Int.le_of_lt (Dq_pos h2 e q))
theorem c_le (e : Int) (q : Rat) : (cQ b e q : Rat) * pw b e ≤ q := by
  have hv := q_val h2 e q
  have := Rat.mul_le_mul_of_nonneg_right (show (cQ b e q : Rat) ≤ (cQ b e q : Rat) + tQ b e q by have := t_ge h2 e q; grind) (Rat.le_of_lt (pw_pos h2 e))
  rw [← hv] at this; exact this
theorem pw_p (n : Nat) (e : Int) : pw b (n + e) = (((b ^ n : Nat) : Int) : Rat) * pw b e := by rw [pw_add h2, pw_nat, Rat.intCast_natCast]
theorem c_lt {low e : Int} {q : Rat} (h : IsE b p low q e) : cQ b e q < ((b ^ p : Nat) : Int) := by
  have h1 := lelt (c_le h2 e q) h.2.1
  rw [pw_p h2, Rat.mul_lt_mul_right (pw_pos h2 e)] at h1
  exact cast_lt.mp h1
def Can (b p : Nat) (low C e : Int) : Prop := 0 ≤ C ∧ C < ((b ^ p : Nat) : Int) ∧ low ≤ e ∧ (e = low ∨ ((b ^ (p - 1) : Nat) : Int) ≤ C)
theorem isE_ex (low : Int) (q : Rat) : ∃ e, IsE b p low q e := by
  have step : ∀ n : Nat, q < pw b (p + (low + n)) → ∃ e, IsE b p low q e := by
    intro n
    induction n with
    | zero => intro h; exact ⟨low, Int.le_refl _, by rw [show (low + (0 : Nat) : Int) = low by omega] at h; exact h, .inl rfl⟩
    | succ n ih =>
      intro h
      by_cases h1 : q < pw b (p + (low + n))
      · exact ih h1
      · refine ⟨low + (n + 1 : Nat), by omega, h, .inr ?_⟩
        rw [show (p : Int) + (low + (n + 1 : Nat)) - 1 = p + (low + n) by omega]
        exact Rat.not_lt.mp h1
  refine step (q.num.natAbs + (-(p + low)).toNat) ?_
  have h1 : pw b (q.num.natAbs : Int) ≤ pw b (p + (low + (q.num.natAbs + (-(p + low)).toNat : Nat))) := pw_mono h2 (by omega)
  refine ltle ?_ h1
  rw [pw_nat]
  have h3 : q.num.natAbs < b ^ q.num.natAbs := Nat.lt_pow_self (by omega)
  by_cases hq : 0 ≤ q
  · have h4 : q ≤ (q.num : Rat) := by
      have hd := num_den q
      have h5 : (1 : Rat) ≤ ((q.den : Int) : Rat) := cast_le.mpr (show 1 ≤ (q.den : Int) by have := den_pos q; omega)
      have := Rat.mul_le_mul_of_nonneg_left h5 hq
      rw [hd, Rat.mul_one] at this; exact this
    refine lelt h4 ?_
    rw [← Rat.intCast_natCast]
    exact cast_lt.mpr (by omega)
  · rw [Rat.not_le] at hq
    have := Rat.natCast_pos.mpr (show 0 < b ^ q.num.natAbs by omega)
    exact ltle hq (Rat.le_of_lt this)
end
open Classical in
noncomputable def eQ (b p : Nat) (low : Int) (q : Rat) : Int := if h : ∃ e, IsE b p low q e then h.choose else low
theorem eQ_is {b p : Nat} (h2 : 2 ≤ b) (low : Int) (q : Rat) : IsE b p low q (eQ b p low q) := by
  have h := isE_ex (p := p) h2 low q
  unfold eQ; rw [dif_pos h]; exact h.choose_spec
def words (l : List Str) : PyData := .tuple (l.map .str)
end Lw
set_option exponentiation.threshold 4000
namespace Lw
open PySem PySem.Spec PyProof.Rows L2 Gd Fr
open scoped Rat
structure Fm (b p : Nat) (low high : Int) : Prop where
  b2 : 2 ≤ b
  b6 : b < 2 ^ 6
  p2 : 2 ≤ p
  p7 : p ≤ 120
  lo : -1200 ≤ low
  lh : low ≤ high
  hi : high ≤ 1200
  bp : b ^ p < 2 ^ 700
  bl : b ^ (-low).toNat < 2 ^ 2340
  bh : b ^ high.toNat < 2 ^ 2340
def fmP (b p : Nat) (low high : Int) : PyData := .tuple [.int b, .int p, .int low, .int high]
theorem ways {way : Str} (h : way ∈ wayList) : way = "even" ∨ way = "away" ∨ way = "up" ∨ way = "down" ∨ way = "zero" := by unfold wayList at h; simpa using h
theorem pw_bd {b : Nat} (h2 : 2 ≤ b) {e : Int} {n d : Nat} (hn : b ^ e.toNat < 2 ^ n) (hd : b ^ (-e).toNat < 2 ^ d) (h1 : 1 ≤ n) (h1' : 1 ≤ d) : Qz n d (pw b e) := by
  unfold pw
  by_cases h : e < 0
  · rw [if_pos h]
    have hp : 0 < b ^ (-e).toNat := Nat.pow_pos (by omega)
    refine ⟨?_, ?_⟩
    · rw [Rat.num_inv, Rat.num_natCast, Rat.den_natCast]
      have : (((b ^ (-e).toNat : Nat) : Int)).sign = 1 := Int.sign_eq_one_of_pos (by omega)
      rw [this]
      exact (show Bd 1 (1 * ((1 : Nat) : Int)) by unfold Bd; decide).le h1
    · rw [Rat.den_inv, Rat.num_natCast, if_neg (by omega), Int.natAbs_natCast]
      exact Bd.nat hd
  · rw [if_neg h]
    exact ⟨by rw [Rat.num_natCast]; exact Bd.nat hn, by rw [Rat.den_natCast]; exact (show Bd 1 ((1 : Nat) : Int) by unfold Bd; decide).le h1'⟩
section
variable {b p : Nat} {low high : Int} (F : Fm b p low high)
include F
theorem Fm.pow_lo {e : Int} (h : low ≤ e) : b ^ (-e).toNat < 2 ^ 2340 := Nat.lt_of_le_of_lt (Nat.pow_le_pow_right (by have := F.b2; omega) (by omega)) F.bl
theorem Fm.pow_hi {e : Int} (h : e ≤ high) : b ^ e.toNat < 2 ^ 2340 := Nat.lt_of_le_of_lt (Nat.pow_le_pow_right (by have := F.b2; omega) (by omega)) F.bh
theorem Fm.qz {e : Int} (h : low ≤ e) (h' : e ≤ high) : Qz 2340 2340 (pw b e) := pw_bd F.b2 (F.pow_hi h') (F.pow_lo h) (by decide) (by decide)
theorem Fm.e_bd {q : Rat} {e : Int} {n d : Nat} (hq : Qz n d q) (h0 : 0 ≤ q) (hE : IsE b p low q e) : (q.den * b ^ e.toNat < 2 ^ n ∧ 0 < e ∧ low < e) ∨ (e ≤ 0 ∨ e = low) := by
  by_cases h : 0 < e ∧ low < e
  · refine .inl ⟨?_, h⟩
    have h3 := hE.2.2
    have h4 : pw b (p + e - 1) ≤ q := by
      rcases h3 with z | z
      · omega
      · exact z
    have h5 : pw b (e : Int) ≤ q := Rat.le_trans (pw_mono F.b2 (by have := F.p2; omega)) h4
    have hd0 : (0 : Rat) ≤ ((q.den : Int) : Rat) := cast_le.mpr (Int.le_of_lt (den_pos q))
    have h6 := Rat.mul_le_mul_of_nonneg_right h5 hd0
    rw [num_den, pw_of (by omega), ← Rat.intCast_natCast, ← Rat.intCast_mul] at h6
    have h7 := cast_le.mp h6
    have h8 := hq.nu
    unfold Bd at h8
    have h9 : (q.den : Int) * ((b ^ e.toNat : Nat) : Int) ≤ q.num := by rw [Int.mul_comm]; exact h7
    have h10 : ((q.den * b ^ e.toNat : Nat) : Int) ≤ q.num := by rw [Int.natCast_mul]; exact h9
    omega
  · exact .inr (by have := hE.1; omega)
end
section
variable {b p : Nat} (h2 : 2 ≤ b)
include h2
end
end Lw
set_option exponentiation.threshold 4000
namespace Lw
open PySem PySem.Spec PyProof.Rows L2 Gd Fr
open scoped Rat
section
variable {b p : Nat} {low e : Int} {q : Rat} (h2 : 2 ≤ b) (hp : 2 ≤ p)
include h2
include hp
end
end Lw
set_option exponentiation.threshold 20000
namespace Lw
open PySem PySem.Spec PyProof.Rows L2 Gd Fr
open scoped Rat
theorem pow_uniq {b k j w : Nat} (h2 : 2 ≤ b) (h1 : b ^ k ≤ w) (h3 : w < b ^ (k + 1)) (h1' : b ^ j ≤ w) (h3' : w < b ^ (j + 1)) : k = j := by
  have a := (Nat.pow_lt_pow_iff_right (by omega : 1 < b)).mp (Nat.lt_of_le_of_lt h1 h3')
  have c := (Nat.pow_lt_pow_iff_right (by omega : 1 < b)).mp (Nat.lt_of_le_of_lt h1' h3)
  omega
inductive R_within : Rel
  | mk (b w k : Nat) (B : Bag) (h2 : 2 ≤ b) (hw : w < 2 ^ 8900) (h1 : b ^ k ≤ w) (h3 : w < b ^ (k + 1)) : R_within [.da (.int b), .da (.int w)] B (.int k) B
def sqs (b j : Nat) : List PyData := (List.range j).map fun i => .int ((b ^ 2 ^ i : Nat) : Int)
theorem sqs_len (b j : Nat) : (sqs b j).length = j := by unfold sqs; rw [List.length_map, List.length_range]
theorem sqs_succ (b j : Nat) : sqs b j ++ [.int ((b ^ 2 ^ j : Nat) : Int)] = sqs b (j + 1) := by
  unfold sqs; rw [List.range_succ, List.map_append]; rfl
theorem sqs_at {b j i : Nat} {y : PyData} (h : (sqs b j)[i]? = some y) : y = .int ((b ^ 2 ^ i : Nat) : Int) := by
  unfold sqs at h
  rw [List.getElem?_map] at h
  obtain ⟨k, hk, rfl⟩ := Option.map_eq_some_iff.mp h
  have := (List.getElem?_range (by
    have := (List.getElem?_eq_some_iff.mp hk).1
    rwa [List.length_range] at this) : (List.range j)[i]? = some i)
  rw [this] at hk; cases hk; rfl
theorem sq_next (b j : Nat) : ((b ^ 2 ^ j : Nat) : Int) * ((b ^ 2 ^ j : Nat) : Int) = ((b ^ 2 ^ (j + 1) : Nat) : Int) := by
  rw [← Int.natCast_mul, ← Nat.pow_add, Nat.pow_succ, Nat.mul_two]
theorem few_sq {b j w : Nat} (h2 : 2 ≤ b) (hw : w < 2 ^ 8900) (h : ∀ i, i < j → b ^ 2 ^ i ≤ w) : j ≤ 14 := by
  refine Decidable.byContradiction fun hn => ?_
  have h1 := h 14 (by omega)
  have h3 : 2 ^ 2 ^ 14 ≤ b ^ 2 ^ 14 := Nat.pow_le_pow_left h2 _
  have h4 := (Nat.pow_lt_pow_iff_right (by decide : 1 < 2)).mp (Nat.lt_of_le_of_lt (Nat.le_trans h3 h1) hw)
  exact absurd h4 (by decide)
theorem step_yes {b w k m l : Nat} (h2 : 2 ≤ b) (hl : l = w / b ^ (k * 2 ^ (m + 1))) (hlt : l < b ^ 2 ^ (m + 1)) (h1 : 1 ≤ l) (hs : b ^ 2 ^ m ≤ l) :
    l / b ^ 2 ^ m = w / b ^ ((2 * k + 1) * 2 ^ m) ∧ l / b ^ 2 ^ m < b ^ 2 ^ m ∧ 1 ≤ l / b ^ 2 ^ m := by
  have hp : 0 < b ^ 2 ^ m := Nat.pow_pos (by omega)
  refine ⟨?_, ?_, (Nat.one_le_div_iff hp).mpr hs⟩
  · rw [hl, Nat.div_div_eq_div_mul, ← Nat.pow_add]
    congr 2
    rw [Nat.pow_succ]; grind
  · rw [Nat.div_lt_iff_lt_mul hp, ← Nat.pow_add, ← Nat.mul_two, ← Nat.pow_succ]; exact hlt
theorem step_no {b w k m l : Nat} (hl : l = w / b ^ (k * 2 ^ (m + 1))) (hs : ¬ b ^ 2 ^ m ≤ l) : l = w / b ^ ((2 * k) * 2 ^ m) ∧ l < b ^ 2 ^ m := by
  refine ⟨?_, by omega⟩
  rw [hl]; congr 2
  rw [Nat.pow_succ]; grind
theorem log_end {b w k l : Nat} (h2 : 2 ≤ b) (hl : l = w / b ^ (k * 2 ^ 0)) (hlt : l < b ^ 2 ^ 0) (h1 : 1 ≤ l) : b ^ k ≤ w ∧ w < b ^ (k + 1) := by
  rw [Nat.pow_zero, Nat.mul_one] at hl
  rw [Nat.pow_zero, Nat.pow_one] at hlt
  have hp : 0 < b ^ k := Nat.pow_pos (by omega)
  rw [hl] at hlt h1
  refine ⟨(Nat.one_le_div_iff hp).mp h1, ?_⟩
  rw [Nat.div_lt_iff_lt_mul hp] at hlt
  rw [Nat.pow_succ, Nat.mul_comm]; exact hlt
section
variable {b : Nat} (h2 : 2 ≤ b)
include h2
theorem pw_sub (i j : Nat) : pw b ((j : Int) - i) * ((b ^ i : Nat) : Rat) = ((b ^ j : Nat) : Rat) := by
  rw [← pw_nat, ← pw_add h2, ← pw_nat]; congr 1; omega
theorem lt_pw_iff (q : Rat) (i j : Nat) : q < pw b ((j : Int) - i) ↔ q.num * ((b ^ i : Nat) : Int) < (q.den : Int) * ((b ^ j : Nat) : Int) := by
  have hd : (0 : Rat) < ((q.den : Int) : Rat) := cast_lt.mpr (den_pos q)
  have hi : (0 : Rat) < ((b ^ i : Nat) : Rat) := Rat.natCast_pos.mpr (Nat.pow_pos (by omega))
  rw [← Rat.mul_lt_mul_right hi, ← Rat.mul_lt_mul_right hd, pw_sub h2, ← cast_lt, Rat.intCast_mul, Rat.intCast_mul, ← num_den q, Rat.intCast_natCast, Rat.intCast_natCast, Rat.intCast_natCast]
  constructor <;> intro h <;> grind
theorem pw_le_iff (q : Rat) (i j : Nat) : pw b ((j : Int) - i) ≤ q ↔ (q.den : Int) * ((b ^ j : Nat) : Int) ≤ q.num * ((b ^ i : Nat) : Int) := by
  rw [← Rat.not_lt, lt_pw_iff h2, Int.not_lt]
end
inductive R_pbelow : Rel
  | mk (b : Nat) (q : Rat) (k : Int) (n d : Nat) (B : Bag) (h2 : 2 ≤ b) (h0 : 0 < q) (hq : Qz n d q) (hn : n ≤ 8900) (hd : d ≤ 8900) (h1 : pw b k ≤ q) (h3 : q < pw b (k + 1)) : R_pbelow [.da (.int b), .da (fq q)] B (.int k) B
theorem pw_num (b : Nat) (h2 : 2 ≤ b) (e : Int) : (pw b e).num = ((b ^ e.toNat : Nat) : Int) ∧ ((pw b e).den : Int) = ((b ^ (-e).toNat : Nat) : Int) := by
  unfold pw
  by_cases h : e < 0
  · rw [if_pos h, Rat.num_inv, Rat.den_inv, Rat.num_natCast, Rat.den_natCast]
    have hp : 0 < b ^ (-e).toNat := Nat.pow_pos (by omega)
    have e1 : e.toNat = 0 := by omega
    rw [if_neg (by omega), Int.sign_eq_one_of_pos (by omega), e1, Nat.pow_zero, Int.natAbs_natCast]
    exact ⟨rfl, rfl⟩
  · rw [if_neg h, Rat.num_natCast, Rat.den_natCast]
    have e1 : (-e).toNat = 0 := by omega
    rw [e1, Nat.pow_zero]
    exact ⟨rfl, rfl⟩
theorem fq_pw {b : Nat} (h2 : 2 ≤ b) (e : Int) : fq (pw b e) = .tuple [.int ((b ^ e.toNat : Nat) : Int), .int ((b ^ (-e).toNat : Nat) : Int)] := by
  unfold fq; rw [(pw_num b h2 e).1, (pw_num b h2 e).2]
theorem fq_int (n : Int) : fq (n : Rat) = .tuple [.int n, .int 1] := by unfold fq; rw [Rat.num_intCast, Rat.den_intCast]; rfl
inductive Va where
  | nan
  | inf (s : Int)
  | num (s c e : Int)
def Va.tag : Va → Str
  | .nan => "nan"
  | .inf _ => "inf"
  | .num _ _ _ => "num"
def Va.l : Va → List PyData
  | .nan => [.str "nan"]
  | .inf s => [.str "inf", .int s]
  | .num s c e => [.str "num", .int s, .int c, .int e]
def Va.d (v : Va) : PyData := .tuple v.l
theorem Va.at0 (v : Va) : atI v.l 0 = some (.str v.tag) := by cases v <;> rfl
def Va.isNan : Va → Bool
  | .nan => true
  | _ => false
def Va.sg : Va → Int
  | .nan => 0
  | .inf s => s
  | .num s _ _ => s
def Va.wQ (b : Nat) : Va → Rat
  | .num s c e => ((if s = 1 then -c else c : Int) : Rat) * pw b e
  | _ => 0
def Vok (b p : Nat) (low high : Int) : Va → Prop
  | .nan => True
  | .inf s => s = 0 ∨ s = 1
  | .num s c e => (s = 0 ∨ s = 1) ∧ 0 ≤ c ∧ c < ((b ^ p : Nat) : Int) ∧ low ≤ e ∧ e ≤ high
inductive R_val (f : Va → PyData) (ok : Va → Prop) : Rel
  | mk (v : Va) (B : Bag) (h : ok v) : R_val f ok [.da v.d] B (f v) B
end Lw
set_option exponentiation.threshold 20000
namespace Lw
open PySem PySem.Spec PyProof.Rows L2 Gd Fr
open scoped Rat
theorem at1 {v : Va} (h : v.isNan = false) : atI v.l 1 = some (.int v.sg) := by cases v <;> first | rfl | cases h
theorem log_ex {b : Nat} (h2 : 2 ≤ b) {q : Rat} (h0 : 0 < q) : ∃ k, pw b k ≤ q ∧ q < pw b (k + 1) := by
  -- one digit, from an e far below on
  obtain ⟨m, hm⟩ : ∃ m : Nat, pw b (-(m : Int)) ≤ q := by
    refine ⟨q.den, ?_⟩
    have := (pw_le_iff h2 q q.den 0).mpr (by
      rw [Nat.pow_zero]
      have h1 : q.den < b ^ q.den := Nat.lt_pow_self (by omega)
      have hn : 1 ≤ q.num := by
        have : ¬ q.num ≤ 0 := fun z => by
          have h3 : ¬ 0 < q := fun z2 => by
            have := (Rat.lt_iff 0 q).mp z2
            rw [show (0 : Rat).num = 0 from rfl, Int.zero_mul, show ((0 : Rat).den : Int) = 1 from rfl] at this
            omega
          exact h3 h0
        omega
      have h4 : ((b ^ q.den : Nat) : Int) * 1 ≤ ((b ^ q.den : Nat) : Int) * q.num := Int.mul_le_mul_of_nonneg_left hn (Int.natCast_nonneg _)
      rw [Int.mul_comm q.num]
      show (q.den : Int) * 1 ≤ _
      omega)
    rw [show ((0 : Nat) : Int) - (q.den : Nat) = -(q.den : Int) by omega] at this
    exact this
  obtain ⟨e, h1, h3, h4⟩ := isE_ex (p := 1) h2 (-(m : Int) - 1) q
  refine ⟨(1 : Nat) + e - 1, ?_, ?_⟩
  · rcases h4 with z | z
    · refine Rat.le_trans (pw_mono h2 (by omega)) hm
    · exact z
  · rw [show ((1 : Nat) : Int) + e - 1 + 1 = (1 : Nat) + e by omega]; exact h3
end Lw
namespace Lw
open PySem PySem.Spec PyProof.Rows L2 Gd Fr
end Lw
namespace Lw
open PySem PySem.Spec PyProof.Rows L2 Gd Fr
end Lw
namespace Lw
open PySem PySem.Spec PyProof.Rows L2 Gd Fr
theorem nice_word {x : Str} (h : (x.cps.all fun c => c < 0x110000) = true) : nice (.str x) = true := by
  simp only [nice]; exact h
end Lw
set_option exponentiation.threshold 20000
namespace Lw
open PySem PySem.Spec PyProof.Rows L2 Gd Fr
open scoped Rat
abbrev F4 := Nat × Nat × Int × Int
def F4.d (t : F4) : PyData := fmP t.1 t.2.1 t.2.2.1 t.2.2.2
def F4.ok (t : F4) : Prop := Fm t.1 t.2.1 t.2.2.1 t.2.2.2
def Va.c : Va → Int
  | .num _ c _ => c
  | _ => 0
def Va.e : Va → Int
  | .num _ _ e => e
  | _ => 0
section
variable (b p : Nat) (low high : Int)
end
section
variable {b p : Nat} {low high : Int} (F : Fm b p low high)
include F
end
end Lw
set_option exponentiation.threshold 20000
namespace Lw
open PySem PySem.Spec PyProof.Rows L2 Gd Fr
open scoped Rat
end Lw
namespace Lw
open PySem PySem.Spec PyProof.Rows L2 Gd Fr
open scoped Rat
end Lw
namespace Lw
open PySem PySem.Spec PyProof.Rows L2 Gd Fr
open scoped Rat
end Lw
namespace Lw
open PySem PySem.Spec PyProof.Rows L2 Gd Fr
open scoped Rat
section
variable {b p : Nat} {low high : Int} (F : Fm b p low high)
include F
end
end Lw
set_option exponentiation.threshold 20000
namespace Lw
open PySem PySem.Spec PyProof.Rows L2 Gd Fr
open scoped Rat
structure Nd (D W : Nat) (d : PyData) : Prop where
  ni : nice d = true
  dp : d.depth ≤ D
  bk : d.bulk ≤ W
structure NdA (D W : Nat) (ds : List PyData) : Prop where
  ni : niceAll ds = true
  dp : PyData.depthAll ds ≤ D
  bk : PyData.bulkAll ds ≤ W
theorem NdA.nil {D W : Nat} : NdA D W [] := ⟨niceAll_nil, by simp only [PyData.depthAll]; omega, by simp only [PyData.bulkAll]; omega⟩
theorem NdA.cons {D W W' : Nat} {d : PyData} {ds : List PyData} (h : Nd D W d) (r : NdA D W' ds) : NdA D (W + 1 + W') (d :: ds) :=
  ⟨niceAll_cons h.ni r.ni, by have := h.dp; have := r.dp; simp only [PyData.depthAll]; omega, by have := h.bk; have := r.bk; simp only [PyData.bulkAll]; omega⟩
theorem NdA.le {D W D' W' : Nat} {ds : List PyData} (h : NdA D W ds) (e : D ≤ D') (f : W ≤ W') : NdA D' W' ds := ⟨h.ni, Nat.le_trans h.dp e, Nat.le_trans h.bk f⟩
theorem Nd.le {D W D' W' : Nat} {d : PyData} (h : Nd D W d) (e : D ≤ D') (f : W ≤ W') : Nd D' W' d := ⟨h.ni, Nat.le_trans h.dp e, Nat.le_trans h.bk f⟩
theorem Nd.list {D W : Nat} {ds : List PyData} (h : NdA D W ds) : Nd (D + 1) W (.list ds) := ⟨nice_list h.ni, by have := h.dp; simp only [PyData.depth]; omega, by have := h.bk; simp only [PyData.bulk]; omega⟩
theorem Nd.tuple {D W : Nat} {ds : List PyData} (h : NdA D W ds) : Nd (D + 1) W (.tuple ds) := ⟨nice_tuple h.ni, by have := h.dp; simp only [PyData.depth]; omega, by have := h.bk; simp only [PyData.bulk]; omega⟩
theorem Nd.int {n : Nat} {i : Int} (h : Bd n i) (e : n ≤ 1920 := by decide) : Nd 1 0 (.int i) := ⟨nice_int h e, by simp only [PyData.depth]; omega, by simp only [PyData.bulk]; omega⟩
theorem Nd.str {x : Str} (h : (x.cps.all fun c => c < 0x110000) = true) (h2 : x.cps.size ≤ 20) : Nd 1 20 (.str x) := ⟨nice_word h, by simp only [PyData.depth]; omega, by simp only [PyData.bulk]; exact h2⟩
theorem Nd.bool {x : Bool} : Nd 1 0 (.bool x) := ⟨by simp only [nice], by simp only [PyData.depth]; omega, by simp only [PyData.bulk]; omega⟩
theorem Nd.none : Nd 1 0 .none := ⟨by simp only [nice], by simp only [PyData.depth]; omega, by simp only [PyData.bulk]; omega⟩
theorem Nd.okd {D W : Nat} {d : PyData} (h : Nd D W d) (e : D ≤ 60 := by decide) (f : W ≤ 5000 := by decide) : Okd d := ⟨h.ni, Nat.le_trans h.dp e, Nat.le_trans h.bk f⟩
section
variable {b p : Nat} {low high : Int} (F : Fm b p low high)
include F
end
def Va.isNum : Va → Bool
  | .num _ _ _ => true
  | _ => false
theorem tag_num (v : Va) : decide (v.tag = "num") = v.isNum := by
  cases v
  · exact decide_eq_false (show ¬ ("nan" : Str) = "num" by decide)
  · exact decide_eq_false (show ¬ ("inf" : Str) = "num" by decide)
  · rfl
section
variable (b p : Nat) (low high : Int)
end
end Lw
set_option exponentiation.threshold 20000
namespace Lw
open PySem PySem.Spec PyProof.Rows L2 Gd Fr
open scoped Rat
def Va.isZ : Va → Bool
  | .num _ c _ => decide (c = 0)
  | _ => false
section
variable {b p : Nat} {low high : Int} (F : Fm b p low high)
include F
end
section
variable (b p : Nat) (low high : Int)
end
section
variable {b p : Nat} {low high : Int} (F : Fm b p low high)
include F
end
end Lw
namespace Lw
open PySem PySem.Spec PyProof.Rows L2 Gd Fr
end Lw
set_option exponentiation.threshold 20000
namespace Lw
open PySem PySem.Spec PyProof.Rows L2 Gd Fr
open scoped Rat
theorem den_le {q : Rat} {m : Int} {N : Nat} (hN : 0 < N) (h : q * (N : Rat) = (m : Rat)) : q.den ≤ N := by
  have hne : ((N : Int) : Rat) ≠ 0 := fun z => by
    have e0 : (N : Int) = 0 := Rat.intCast_inj.mp (z.trans (by rfl))
    omega
  have e : q = m /. (N : Int) := by
    rw [Rat.divInt_eq_div, ← h, ← Rat.intCast_natCast]
    exact (Rat.mul_div_cancel hne).symm
  rw [e, Rat.den_divInt, if_neg (by omega), Int.natAbs_natCast]
  exact Nat.div_le_self _ _
section
variable (b p : Nat) (low high : Int)
end
end Lw
namespace Gd
open PySem PySem.Spec PyProof.Rows L2
section
variable {X : Cx} {i : Nat} {Γ : List VD} {B B1 B2 B' : Bag} {acc ds : List PyData} {e a b c : Expr} {es : List Expr} {d da db : VD} {y : PyData} {pos p p1 p2 p3 pos' : Pos} {rest ss s1 s2 : List Stmt} {E : EnO} {Es : En}
theorem Own.set {K : PySem.W.Frag} {g : Gh} {A0 A1 : Hp} {a : Addr} {σ : L2.St} {H0 H : Hp} (w : Own K i g A0 A1 a B Γ acc σ H0 H) (j : Nat) (hij : j ≠ i) {v : V} (r : Rv K g H0 v d) : Own K i g A0 A1 a B (Γ.set j d) acc (σ.set j (some v)) H0 H :=
  ⟨w.to, w.fr, w.off, w.ev.set j r, by rw [List.getElem?_set_ne hij]; exact w.at', w.no, w.ls, w.on⟩
end
end Gd
namespace Gd
open PySem PySem.Spec PyProof.Rows L2
section
variable {X : Cx} {i : Nat} {Γ : List VD} {B B1 B2 B3 : Bag} {e0 e2 e3 : Expr} {d0 d2 d3 : PyData} {pos pl pt2 : Pos} {rest : List Stmt} {Es : En}
end
end Gd
set_option exponentiation.threshold 20000
namespace Lw
open PySem PySem.Spec PyProof.Rows L2 Gd Fr
open scoped Rat
theorem NdA.all {D W : Nat} : ∀ {ds : List PyData}, (∀ d ∈ ds, Nd D W d) → NdA D ((W + 1) * ds.length) ds
  | [], _ => NdA.nil
  | d :: ds, h => by
    have := NdA.cons (h d List.mem_cons_self) (NdA.all fun e he => h e (List.mem_cons_of_mem _ he))
    exact this.le (Nat.le_refl _) (by rw [List.length_cons, Nat.mul_succ]; omega)
theorem _root_.Gd.pgN {X : Cx} {x : Str} {pos : Pos} (i : Nat) (nd : X.N.Nodup) (hi : X.N[i]? = some x := by rfl) (hx : Loc X.env.scope x := by first | exact Or.inl rfl | exact Or.inr rfl)
    (hf : X.fn x = true ∨ X.env.scope.names.lookup x = some .local := by first | exact .inl rfl | exact .inr rfl) : PG X (.Name x pos) (gName i) := pg_name nd hi hx hf
end Lw
namespace Gd
open PySem PySem.Spec PyProof.Rows L2
section
variable {X : Cx} {i : Nat} {Γ : List VD} {B B1 B2 B' : Bag} {acc ds ys : List PyData} {e a b c : Expr} {es : List Expr} {d da db : VD} {y : PyData} {pos p p1 p2 p3 pos' : Pos} {rest ss s1 s2 : List Stmt} {E : EnO} {Es : En}
section
variable {elt : Expr} {scope : Scope} {j : Nat} {x : Str} {px : Pos}
end
end
end Gd
set_option exponentiation.threshold 20000
namespace Lw
open PySem PySem.Spec PyProof.Rows L2 Gd Fr
open scoped Rat
end Lw
set_option exponentiation.threshold 20000
namespace Lw
open PySem PySem.Spec PyProof.Rows L2 Gd Fr
open scoped Rat
theorem gap_mul (x : Rat) (f : Int) : (x - (f : Rat)) * ((x.den : Int) : Rat) = ((x.num - f * (x.den : Int) : Int) : Rat) := by
  have h := num_den x
  rw [Rat.intCast_sub, Rat.intCast_mul, ← h]; grind
theorem denQ_pos (x : Rat) : (0 : Rat) < ((x.den : Int) : Rat) := Rat.intCast_pos.mpr (den_pos x)
theorem fl (x : Rat) : ∃ g : Rat, x = ((x.num / (x.den : Int) : Int) : Rat) + g ∧ 0 ≤ g ∧ g < 1 ∧ x - ((x.num / (x.den : Int) : Int) : Rat) = g := by
  refine ⟨x - ((x.num / (x.den : Int) : Int) : Rat), by grind, ?_, ?_, rfl⟩
  · have h := gap_mul x (x.num / (x.den : Int))
    have h1 := Int.emod_add_mul_ediv x.num (x.den : Int)
    have h2 := Int.emod_nonneg x.num (Int.ne_of_gt (den_pos x))
    have h3 : (0 : Rat) ≤ (x - ((x.num / (x.den : Int) : Int) : Rat)) * ((x.den : Int) : Rat) := by
      rw [h]; exact Rat.intCast_nonneg.mpr (by rw [Int.mul_comm]; omega)
    refine Rat.not_lt.mp fun z => ?_
    have := (Rat.mul_lt_mul_right (denQ_pos x)).mpr z
    rw [Rat.zero_mul] at this
    exact absurd (ltle this h3) Rat.lt_irrefl
  · have h := gap_mul x (x.num / (x.den : Int))
    have h1 := Int.emod_add_mul_ediv x.num (x.den : Int)
    have h2 := Int.emod_lt_of_pos x.num (den_pos x)
    refine (Rat.mul_lt_mul_right (denQ_pos x)).mp ?_
    rw [h, Rat.one_mul]
    exact cast_lt.mpr (by rw [Int.mul_comm]; omega)
end Lw
set_option exponentiation.threshold 20000
namespace Lw
open PySem PySem.Spec PyProof.Rows L2 Gd Fr
open scoped Rat
theorem absQ_mul_pos (x : Rat) {y : Rat} (h : 0 < y) : absQ (x * y) = absQ x * y := by
  have k := Rat.mul_lt_mul_right (a := x) (b := 0) h
  rw [Rat.zero_mul] at k
  unfold absQ
  by_cases hx : x < 0
  · rw [if_pos hx, if_pos (k.mpr hx)]; grind
  · rw [if_neg hx, if_neg (fun z => hx (k.mp z))]
theorem absQ_cast (k : Int) : absQ (k : Rat) = ((k.natAbs : Int) : Rat) := by
  unfold absQ
  by_cases h : (k : Rat) < 0
  · have : k < 0 := cast_lt.mp (show (k : Rat) < ((0 : Int) : Rat) from h)
    rw [if_pos h, ← Rat.intCast_neg]; congr 1; omega
  · have : ¬ k < 0 := fun z => h (show (k : Rat) < ((0 : Int) : Rat) from cast_lt.mpr z)
    rw [if_neg h]; congr 1; omega
end Lw
set_option exponentiation.threshold 20000
namespace Lw
open PySem PySem.Spec PyProof.Rows L2 Gd Fr
open scoped Rat
theorem absQ_w {b : Nat} (h2 : 2 ≤ b) {s c e : Int} (h0 : 0 ≤ c) : absQ ((Va.num s c e).wQ b) = (c : Rat) * pw b e := by
  show absQ (((if s = 1 then -c else c : Int) : Rat) * pw b e) = _
  rw [absQ_mul_pos _ (pw_pos h2 e), absQ_cast]
  congr 2
  split <;> omega
section
variable (b p : Nat) (low high : Int)
end
end Lw
set_option exponentiation.threshold 20000
namespace Lw
open PySem PySem.Spec PyProof.Rows L2 Gd Fr
open scoped Rat
section
variable (b p : Nat) (low high : Int)
end
section
variable {b p : Nat} {low high : Int} (F : Fm b p low high)
include F
end
end Lw
namespace Gd
open PySem PySem.Spec PyProof.Rows L2
section
variable {X : Cx} {i : Nat} {Γ : List VD} {B B1 B2 B' : Bag} {acc ds ys : List PyData} {e a b c : Expr} {es : List Expr} {d da db : VD} {y : PyData} {pos p p1 p2 p3 pos' : Pos} {rest ss s1 s2 : List Stmt} {E : EnO} {Es : En}
theorem call_reprN : CallR X (.builtin "repr") (fun xs H Q => xs = [.non] ∧ Q (.str "None") H) := by
  intro pins s σ H xs us Q I r h
  obtain ⟨rfl, q⟩ := h
  obtain ⟨u, rfl, rfl⟩ := vals1 r
  exact PySem.P.repr_of_none ⟨.str _, H, I.tok _, ⟨_, rfl⟩, q⟩
theorem ej_reprN (hm : X.mg "repr" = none) (ha : EJ X Γ B a (.da .none) B1) (hs : starEach [a] X.env = [(false, eval a X.env)] := by rfl) (hg : Gl X "repr" := by rfl) :
    EJ X Γ B (.Call (.Name "repr" p) [a] [] pos) (.da (.str "None")) B1 :=
  ej_callB call_reprN hm (aj_cons ha aj_nil hs) (fun gh vs H0 H O r Q q => by
    obtain ⟨v, rfl, h⟩ := rv1 r
    have h : Rp X.K H0 v .none := h
    cases h
    exact ⟨rfl, q _ _ _ To.refl O (Rp.str _)⟩) (hg := hg) (he := hs)
end
end Gd
namespace Gd
open PySem PySem.Spec PyProof.Rows L2
mutual
def niceB : PyData → Bool
  | .none => true
  | .bool _ => true
  | .int i => decide (Nat.log2 i.natAbs < 12900)
  | .str x => x.cps.all fun c => c < 0x110000
  | .list xs => niceBAll xs
  | .tuple xs => niceBAll xs
  | .dict _ => false
def niceBAll : List PyData → Bool
  | [] => true
  | x :: xs => niceB x && niceBAll xs
end
theorem big_lt {i : Int} (h : Nat.log2 i.natAbs < 12900) : i.natAbs < 10 ^ 4300 := Nat.lt_of_lt_of_le (lt_of_log2 h) pow_lo
section
variable {prog : Program} {w : World} {A : Around} {E : Value → Shared → Prop} {s : Shared} {h₀ : Heap}
theorem int_call {i : Int} {t : Tok} {Q : Value → Shared → Prop} (nd : s.heap.NoDigits) (hl : i.natAbs < 10 ^ 4300) (h : Q (.str (toString i) s.toks) { s with toks := s.toks + 1 }) : wpAny (model prog w) A (call (.builtin "int.__repr__") [.int i t]) (fun r s₁ => ∃ x u, r = .str x u ∧ Q r s₁) E s := by
  refine wpAny_call_entry F.slot_int_repr (typeIs_int s i t) F.entry_int_repr ?_ (F.args_int_repr_1 _); unfold Builtin.«int.__repr__»
  show wpAny _ _ (Builtin.overDigitLimit? i >>= _) _ _ s
  refine wpAny_bind (overDigitLimit_any nd (fun _ => ?_) fun hge => absurd hl (Nat.not_lt.mpr hge))
  exact wpAny_bind (wpAny_mkStr (wpAny_pure ⟨_, rfl, _, _, rfl, h⟩) (int_text_fits10 hl))
theorem rk_int {i : Int} {t : Tok} (nd : h₀.NoDigits) (hl : i.natAbs < 10 ^ 4300) (d : Nat) : ReprK prog w [] h₀ d (.int i t) (toString i) := by
  intro b hb A g E s Q hg hcl hu hk hQ
  rw [pyReprUnder_leaf (v := .int i t) (by omega) (fun _ e => nomatch e)]; unfold pyRepr
  refine wpAny_bind (wpAny_pyReprObj_slot (by omega) (typeIs_int s i t) F.slot_int_repr.toG (int_call (nd.keeps hk) hl ?_))
  exact wpAny_pure (hQ s.heap _ fun _ _ e => e)
mutual
theorem rk : ∀ {v : Value} {d : PyData} {as : List Addr}, Reads h₀ v d as → niceB d = true → h₀.NoDigits → d.shown.length ≤ sizeLine → ∃ bs, ReadAtMost h₀ d.depth bs ∧ ReprK prog w bs h₀ d.depth v d.shown
  | _, _, _, .none, _, _, _ => ⟨[], (fun _ h => nomatch h), by simp only [PyData.shown]; exact .of_is ReprIs.none _ _ _⟩
  | _, _, _, .bool b, _, _, _ => ⟨[], (fun _ h => nomatch h), by simp only [PyData.shown]; exact .of_is (ReprIs.bool b) _ _ _⟩
  | _, _, _, .int i t, hn, nd, _ => ⟨[], (fun _ h => nomatch h), by
    simp only [niceB, decide_eq_true_eq] at hn
    simp only [PyData.shown]; exact rk_int nd (big_lt hn) _⟩
  | _, _, _, .str x t, _, _, hz => ⟨[], (fun _ h => nomatch h), by
    simp only [PyData.shown] at hz
    simp only [PyData.shown]; exact .of_is (ReprIs.str x t hz) _ _ _⟩
  | _, _, _, .list (a := a) (vs := vs) (xs := xs) h1 h2 h3 h4, hn, nd, hz => by
    simp only [PyData.shown] at hz
    simp only [niceB] at hn
    obtain ⟨bs, hb, hk⟩ := rkAll h4 hn nd (fun t ht => Nat.le_trans (listText_mem_le ht) hz)
    have r : Reads h₀ (.ref a) (.list xs) _ := Reads.list h1 h2 h3 h4
    refine ⟨a :: bs, ReadAtMost.cons r (by simp only [PyData.depth]; omega) hb, ?_⟩
    have na := not_mem_of_deeper r (by simp only [PyData.depth]; omega) hb
    simp only [PyData.depth, PyData.shown]; obtain ⟨l⟩ := vs
    match l, h3, h4, hk with
    | [], h3, h4, hk =>
      cases (show ReadsAll h₀ [] xs _ from h4)
      simp only [PyData.shownAll, listText_nil]; exact ReprK.listEmpty h1 h2 h3
    | x :: l, h3, _, hk => exact ReprK.list h1 h2 h3 na (by simpa using hk.length_eq) fun i y e => hk.item i y (by simpa using e)
  | _, _, _, .tuple (a := a) (xs := xs) h1 h2 h3 h4, hn, nd, hz => by
    simp only [PyData.shown] at hz
    simp only [niceB] at hn
    obtain ⟨bs, hb, hk⟩ := rkAll h4 hn nd (fun t ht => Nat.le_trans (tupleText_mem_le ht) hz)
    have r : Reads h₀ (.ref a) (.tuple xs) _ := Reads.tuple h1 h2 h3 h4
    refine ⟨a :: bs, ReadAtMost.cons r (by simp only [PyData.depth]; omega) hb, ?_⟩
    have na := not_mem_of_deeper r (by simp only [PyData.depth]; omega) hb
    simp only [PyData.depth, PyData.shown]; exact ReprK.tuple h1 h2 h3 na hk
  | _, _, _, .dict _ _ _ _ _, hn, _, _ => by simp only [niceB] at hn; cases hn
theorem rkAll : ∀ {vs : List Value} {ds : List PyData} {as : List Addr}, ReadsAll h₀ vs ds as → niceBAll ds = true → h₀.NoDigits → (∀ t ∈ PyData.shownAll ds, t.length ≤ sizeLine) → ∃ bs, ReadAtMost h₀ (PyData.depthAll ds) bs ∧ ReprAllK prog w bs h₀ (PyData.depthAll ds) vs (PyData.shownAll ds)
  | _, _, _, .nil, _, _, _ => ⟨[], (fun _ h => nomatch h), by simp only [PyData.shownAll]; exact .nil⟩
  | _, _, _, .cons (d := d) (ds := ds) r rs, hn, nd, hz => by
    simp only [niceBAll, Bool.and_eq_true] at hn
    simp only [PyData.shownAll] at hz
    obtain ⟨b1, hb1, k1⟩ := rk r hn.1 nd (hz _ List.mem_cons_self)
    obtain ⟨b2, hb2, k2⟩ := rkAll rs hn.2 nd (fun t ht => hz t (List.mem_cons_of_mem _ ht))
    simp only [PyData.depthAll, PyData.shownAll]
    exact ⟨b1 ++ b2, (hb1.mono (Nat.le_max_left _ _)).append (hb2.mono (Nat.le_max_right _ _)), .cons ((k1.more fun b hb => List.mem_append_left _ hb).level_le (Nat.le_max_left _ _)) (k2.more_le (fun b hb => List.mem_append_right _ hb) (Nat.le_max_right _ _))⟩
end
theorem repr_big {a : Addr} {d : PyData} {as : List Addr} {Q : Value → Shared → Prop} (r : Reads h₀ (.ref a) d as) (hn : niceB d = true) (nd : h₀.NoDigits) (hg : A.guards = some []) (hu : A.units + (d.depth + 1) < cLine) (hk0 : ∀ b o, h₀.get? b = some o → s.heap.get? b = some o)
    (hQ : ∀ h' u tk, (∀ b o, s.heap.get? b = some o → h'.get? b = some o) → Q (.str d.shown u) { s with heap := h', toks := tk }) (hsz : d.shown.length ≤ sizeLine) : wpAny (model prog w) A (call (.builtin "repr") [.ref a]) Q E s := by
  have hu1 : A.in1.units + d.depth < cLine := by show A.units + 1 + d.depth < cLine; omega
  cases r with
  | list h1 h2 h3 h4 =>
    rename_i o vs n xs bs₀
    have hz := hsz
    simp only [PyData.shown] at hz
    simp only [niceB] at hn
    obtain ⟨bs, hb, hk⟩ := rkAll (prog := prog) (w := w) h4 hn nd (fun t ht => Nat.le_trans (listText_mem_le ht) hz)
    have na := not_mem_of_deeper (.list h1 h2 h3 h4) (by simp only [PyData.depth]; omega) hb
    simp only [PyData.depth] at hu1
    simp only [PyData.shown] at hQ
    refine call_repr_slot (by omega) ⟨o, hk0 _ _ h1, h2⟩ F.slot_list_repr.toG ?_
    obtain ⟨l⟩ := vs
    match l, h3, h4, hk with
    | [], h3, h4, hk =>
      cases (show ReadsAll h₀ [] xs _ from h4)
      simp only [PyData.shownAll, listText_nil] at hQ; exact call_list_repr_empty ⟨o, hk0 _ _ h1, h2⟩ (hk0 _ _ h1) h3 ⟨_, _, rfl, hQ s.heap _ _ fun _ _ e => e⟩
    | x :: l, h3, _, hk => exact call_list_reprK h1 h2 h3 na (by simpa using hk.length_eq) (fun i y e => hk.item i y (by simpa using e)) hg (fun b _ => Clear.nil b) hu1 hk0 (fun h' u tk hk => ⟨_, _, rfl, hQ h' u tk hk⟩) hz
  | tuple h1 h2 h3 h4 =>
    rename_i o vs n xs
    have hz := hsz
    simp only [PyData.shown] at hz
    simp only [niceB] at hn
    obtain ⟨bs, hb, hk⟩ := rkAll (prog := prog) (w := w) h4 hn nd (fun t ht => Nat.le_trans (tupleText_mem_le ht) hz)
    have na := not_mem_of_deeper (.tuple h1 h2 h3 h4) (by simp only [PyData.depth]; omega) hb
    simp only [PyData.depth] at hu1
    simp only [PyData.shown] at hQ
    refine call_repr_slot (by omega) ⟨o, hk0 _ _ h1, h2⟩ F.slot_tuple_repr ?_
    exact call_tuple_reprK h1 h2 h3 na hk hg (fun b _ => Clear.nil b) hu1 hk0 (fun h' u tk hk => ⟨_, _, rfl, hQ h' u tk hk⟩) hz
  | dict _ _ _ _ _ => simp only [niceB] at hn; cases hn
end
mutual
theorem niceB_lay : ∀ d : PyData, niceB d = true → d.canLay0 = true ∧ d.leavesShort 4301 = true
  | .none, _ => ⟨by simp only [PyData.canLay0], by simp only [PyData.leavesShort]⟩
  | .bool _, _ => ⟨by simp only [PyData.canLay0], by simp only [PyData.leavesShort]⟩
  | .int i, h => ⟨by simp only [PyData.canLay0], by
    simp only [niceB, decide_eq_true_eq] at h
    simp only [PyData.leavesShort, decide_eq_true_eq, PyData.shown_int]; rw [PySem.ofString_length]
    exact int_text_length_le10 (k := 4300) (by decide) (big_lt h)⟩
  | .str x, h => by
    simp only [niceB] at h
    refine ⟨by simp only [PyData.canLay0]; exact h, ?_⟩
    simp only [PyData.leavesShort, List.all_eq_true, decide_eq_true_eq]; intro c hc
    have h3 : c < 0x110000 := of_decide_eq_true (Array.all_eq_true'.mp h c (by simpa using hc))
    omega
  | .list xs, h => by simp only [niceB] at h; simp only [PyData.canLay0, PyData.leavesShort]; exact niceB_layA xs h
  | .tuple xs, h => by simp only [niceB] at h; simp only [PyData.canLay0, PyData.leavesShort]; exact niceB_layA xs h
  | .dict _, h => by simp only [niceB] at h; cases h
theorem niceB_layA : ∀ ds : List PyData, niceBAll ds = true → PyData.canLayAll0 ds = true ∧ PyData.leavesShortAll 4301 ds = true
  | [], _ => ⟨by simp only [PyData.canLayAll0], by simp only [PyData.leavesShortAll]⟩
  | x :: xs, h => by
    simp only [niceBAll, Bool.and_eq_true] at h
    have a := niceB_lay x h.1
    have c := niceB_layA xs h.2
    simp only [PyData.canLayAll0, PyData.leavesShortAll, Bool.and_eq_true]; exact ⟨⟨a.1, c.1⟩, a.2, c.2⟩
end
structure OkB (d : PyData) : Prop where
  nice : niceB d = true
  dp : d.depth ≤ 60
  bulk : d.bulk ≤ 2000
theorem OkB.shaped {d : PyData} (h : OkB d) : SeqAt.shaped d = true := by
  unfold SeqAt.shaped
  rw [(niceB_lay d h.nice).1, Bool.true_and, decide_eq_true_eq]; have := h.dp; omega
theorem OkB.len {d : PyData} (h : OkB d) : d.shown.length ≤ sizeLine := by
  have h1 := PyData.shown_le_bulk 4301 (by decide) d (niceB_lay d h.nice).2
  have h2 := h.bulk
  rw [show sizeLine = 16777216 from by decide]; omega
section
variable {X : Cx} {i : Nat} {Γ : List VD} {B B1 B2 B' : Bag} {e a b c : Expr} {es : List Expr} {y : PyData} {pos p : Pos}
theorem call_reprB {k : Nat} (g : Gx k X) (nd : X.base.NoDigits) : CallR X (.builtin "repr") (fun xs H Q => ∃ x d, xs = [x] ∧ Dp X.K H x d ∧ (∃ p, x = .ref p) ∧ OkB d ∧ Q (.str d.shown) H) := by
  intro pins s σ H xs us Q I rr h
  obtain ⟨x, d, rfl, hd, ⟨p, rfl⟩, S, q⟩ := h
  obtain ⟨u, rfl, rx⟩ := vals1 rr
  cases (show u = Value.ref p from rx)
  obtain ⟨as, rd⟩ := Dp.reads I d (.ref p) (.ref p) hd rfl
  have hu := g.rm.un
  refine repr_big rd S.nice (nd.keeps fun b o e => (I.env0.bs b o e).1) g.gd (by have := S.dp; omega) (fun _ _ e => e) (fun h' u tk kp => ?_) S.len
  exact ⟨.str d.shown, H, I.kept (t' := tk) kp, ⟨u, rfl⟩, q⟩
theorem ej_reprB {k : Nat} (g : Gx k X) (nd : X.base.NoDigits) (hm : X.mg "repr" = none) (ha : EJ X Γ B a (.da y) B1) (hb : boxed y = true) (S : OkB y)
    (hs : starEach [a] X.env = [(false, eval a X.env)] := by rfl) (hg : Gl X "repr" := by rfl) : EJ X Γ B (.Call (.Name "repr" p) [a] [] pos) (.da (.str y.shown)) B1 :=
  ej_callB (call_reprB g nd) hm (aj_cons ha aj_nil hs) (fun gh vs H0 H O r Q q => by
    obtain ⟨v, rfl, h⟩ := rv1 r
    have h : Rp X.K H0 v y := h
    refine ⟨v, y, rfl, (h.mono O.ex).dp (PyData.hasDict_of_canLay _ (niceB_lay _ S.nice).1), ?_, S, q _ _ _ To.refl O (Rp.str _)⟩; cases h with
    | lst _ _ => exact ⟨_, rfl⟩
    | tup _ _ => exact ⟨_, rfl⟩
    | non => cases hb
    | bl _ => cases hb
    | int _ => cases hb
    | str _ => cases hb
    | dct _ => cases hb
    | dctT _ _ => cases hb) (hg := hg) (he := hs)
end
theorem law_callD {P : Program} {w : World} {K : PySem.W.Frag} {mg mb : Str → Option Value} {k : Nat} {fa a : Addr} {fd : FuncData} {x : Str} {sp : Sp} {sx : Shared} {vs : List Value} {ns : List Int}
    (KI : K.In sx.heap) (hn1 : sx.heap.Ns mainGlobals mg) (hb : sx.heap.Ns builtinsNs mb) (hbb : ∀ x : Str, x ≠ "__name__" → mb x = bootBuiltins x) (hl0 : sx.heap.NoLimit) (hd0 : sx.heap.NoDigits) (hg : sx.gens = #[])
    (ha : sx.heap.get? a = some { cls := .type "list", data := .seq vs.toArray }) (hi : IntsAre vs ns) (hl : ns.length ≤ sizeLine) (hr : Room k callerA)
    (F : ∀ base : Heap, K.In base → base.Ns mainGlobals mg → base.NoDigits → FnG P w K mg base k fa fd [x] sp) (hbind : ∀ (s : Shared) (u : Value), BindsTo s fd ⟨[u], []⟩ [(x, u)])
    (hsp : ∀ H : Hp, SqL K H a (ns.map V.int) → sp [.ref a] H (fun v _ => v = .bl true) fun _ _ _ => False) :
    codeAny (model P w) callerA (.call (.ref fa) ⟨[.ref a], []⟩) (fun r s' => r = Except.ok (.ret (.bool true)) ∧ OldK sx.heap s'.heap ∧ s'.os = sx.os ∧ AllBare s'.gens) sx := by
  have rv := vals_ints hi
  have lenV := hi.length
  have main : ∀ H : Hp, Only H → SqL K H a (ns.map V.int) → HOk P w H sx.heap → (∀ b, H b ≠ none → b = a) → (H a ≠ none → K.lookup a = none) →
      codeAny (model P w) callerA (.call (.ref fa) ⟨[.ref a], []⟩) (fun r s' => r = Except.ok (.ret (.bool true)) ∧ OldK sx.heap s'.heap ∧ s'.os = sx.os ∧ AllBare s'.gens) sx := by
    intro H hO hS hok hA hK
    have free : ∀ b, (∃ o, sx.heap.get? b = some o ∧ ∃ es ep, o.data = .dict es ep) → H b = none := by
      rintro b ⟨o, e, es, ep, d⟩
      cases q : H b with
      | none => rfl
      | some u =>
        have eb : b = a := hA b (by simp [q])
        rw [eb, ha] at e
        cases e
        have dd : Data.seq vs.toArray _ = Data.dict es ep := d
        cases dd
    have nsK : ∀ {b : Addr} {m : Str → Option Value}, sx.heap.Ns b m → (hidT sx.heap H).Ns b m := by
      rintro b m ⟨o, es, ep, e, dd, r⟩
      exact ⟨o, es, ep, hidT_get e (free b ⟨o, e, es, ep, dd⟩), dd, r⟩
    have hKb : K.In (hidT sx.heap H) := by
      intro b o e
      refine hidT_get (KI b o e) ?_
      cases q : H b with
      | none => rfl
      | some u =>
        have eb : b = a := hA b (by simp [q])
        rw [eb, hK (by rw [← eb]; simp [q])] at e
        cases e
    obtain ⟨mc, l1, l2⟩ := hl0
    have hM : Mod K mg (hidT sx.heap H) := ⟨hKb, nsK hn1, ⟨mb, nsK hb, hbb⟩, mc, nsK l1, l2⟩
    have hD : (hidT sx.heap H).NoDigits := let ⟨mc2, d1, d2⟩ := hd0; ⟨mc2, nsK d1, d2⟩
    have e0 : Env0 P w K mg (hidT sx.heap H) callerA [] sx H :=
      ⟨rfl, hM, fun b o e => of_hidT e, Nat.le_of_eq (hidT_size _ _), trivial, fun b z => absurd (show b ∈ ([] : List Addr) from z) (by simp), hok, .of_eq hg⟩
    have cc := (F _ hKb (nsK hn1) hD).run callerA [] sx H ⟨[.ref a], []⟩ [.ref a] [.ref a] _ _ rfl hr e0 (hbind sx (.ref a)) (.cons rfl .nil) (hsp H hS)
    refine codeAny_mono cc fun res s2 h => ?_
    match res, h with
    | .error _, h => exact h.elim
    | .ok .next, h => exact h.elim
    | .ok .brk, h => exact h.elim
    | .ok .cont, h => exact h.elim
    | .ok (.ret u), ⟨v, H', os, bare, un, hok', r', q⟩ =>
      have q' : v = .bl true := q
      subst q'
      obtain rfl : u = .bool true := r'
      refine ⟨rfl, .of_keep fun b o e => ?_, os, bare⟩
      cases q : H b with
      | none => exact un.keep b o e q (fun z => absurd (show b ∈ ([] : List Addr) from z) (by simp)) (by simp)
      | some u =>
        cases hO b with
        | inl z => rw [q] at z; cases z
        | inr z =>
          obtain ⟨ob, xs, z⟩ := z
          obtain ⟨e1, _⟩ := hok b _ z
          obtain ⟨e2, _⟩ := hok' b _ (un.frzs b ob _ z)
          rw [e] at e1; cases e1; exact e2
  cases hk : K.lookup a with
  | some o =>
    have e := KI a o hk
    rw [ha] at e
    cases e
    refine main (fun _ => none) (fun _ => .inl rfl) (.inr ⟨_, vs.toArray, _, hk, rfl, rfl, rfl, by rw [List.size_toArray, lenV]; exact hl, by simpa using rv⟩) ?_ (fun b z => absurd rfl z) fun z => absurd rfl z
    intro b u z
    have z' : (none : Option HO) = some u := z
    cases z'
  | none =>
    have at1 : ∀ b, b ≠ a → (if b = a then some (HO.frz { cls := .type "list", data := .seq vs.toArray } (.lst (ns.map V.int))) else none) = none := fun b h => if_neg h
    refine main (fun b => if b = a then some (.frz { cls := .type "list", data := .seq vs.toArray } (.lst (ns.map V.int))) else none) (fun b => ?_) (.inl (.inr ⟨_, if_pos rfl⟩)) (fun b u z => ?_) (fun b z => ?_) fun _ => hk
    · by_cases hb : b = a
      · exact Or.inr ⟨_, _, if_pos hb⟩
      · exact .inl (if_neg hb)
    · by_cases hb : b = a
      · have zz := (if_pos hb).symm.trans z
        cases zz
        subst hb
        exact ⟨ha, by simpa using hl, vs, _, rv, ha⟩
      · have z' := (at1 b hb).symm.trans z
        cases z'
    · by_cases hb : b = a
      · exact hb
      · exact absurd (at1 b hb) z
theorem law_mkD {P : Program} {w : World} {K : PySem.W.Frag} {h : Heap} {mg : Str → Option Value} {st : Stmt} {fa f : Addr} {oc : Value} {od an : Option Addr} {osl : Array (Option Value)} {kV doc pm cdv ct : Value} {n : Nat}
    (X : K.In h) (G : h.Ns mainGlobals mg) (hfa : mg "law" = some (.ref fa)) (a : PySem.W.nsIn K mainGlobals "law" = some (some (.ref f)))
    (l : K.lookup f = some ⟨oc, od, .func (PySem.W.fnOf "law" "law" (defArgs st) (defBody st) (defScope st) .none kV doc pm an cdv ct), osl⟩) (c : PySem.W.codeIn K cdv "law" = true) (k : PySem.W.keepIn K (.ref f) = true)
    (b : ∀ (s : Shared) (v : Value), BindsTo s (PySem.W.fnOf "law" "law" (defArgs st) (defBody st) (defScope st) .none kV doc pm an cdv ct) ⟨[v], []⟩ [("_law_script", v)])
    (H : ∀ (base : Heap) (f : Addr) (fd : FuncData), base.NoDigits → Fun K "law" "law" st f fd → FnG P w K mg base n f fd ["_law_script"] (spLaw K)) :
    ∃ fd : FuncData, (∀ (s : Shared) (v : Value), BindsTo s fd ⟨[v], []⟩ [("_law_script", v)]) ∧ ∀ base : Heap, K.In base → base.Ns mainGlobals mg → base.NoDigits → FnG P w K mg base n fa fd ["_law_script"] (spLaw K) := by
  have e := hfa.symm.trans (PySem.W.mg_of X G a)
  cases e
  exact ⟨_, b, fun base _ _ nd => H base _ _ nd (fun_mk l c k)⟩
end Gd
set_option exponentiation.threshold 20000
namespace Lw
open PySem PySem.Spec PyProof.Rows L2 Gd Fr
open scoped Rat
mutual
theorem niceB_of : ∀ d : PyData, nice d = true → niceB d = true
  | .none, _ => by simp only [niceB]
  | .bool _, _ => by simp only [niceB]
  | .int i, h => by
    simp only [nice, decide_eq_true_eq] at h
    simp only [niceB, decide_eq_true_eq]
    omega
  | .str _, h => by simp only [nice] at h; simp only [niceB]; exact h
  | .list xs, h => by simp only [nice] at h; simp only [niceB]; exact niceB_ofA xs h
  | .tuple xs, h => by simp only [nice] at h; simp only [niceB]; exact niceB_ofA xs h
  | .dict _, h => by simp only [nice] at h; cases h
theorem niceB_ofA : ∀ ds : List PyData, niceAll ds = true → niceBAll ds = true
  | [], _ => by simp only [niceBAll]
  | x :: xs, h => by
    simp only [niceAll, Bool.and_eq_true] at h
    simp only [niceBAll, Bool.and_eq_true]
    exact ⟨niceB_of x h.1, niceB_ofA xs h.2⟩
end
structure NdB (D W : Nat) (d : PyData) : Prop where
  ni : niceB d = true
  dp : d.depth ≤ D
  bk : d.bulk ≤ W
structure NdBA (D W : Nat) (ds : List PyData) : Prop where
  ni : niceBAll ds = true
  dp : PyData.depthAll ds ≤ D
  bk : PyData.bulkAll ds ≤ W
theorem Nd.b {D W : Nat} {d : PyData} (h : Nd D W d) : NdB D W d := ⟨niceB_of d h.ni, h.dp, h.bk⟩
theorem NdBA.nil {D W : Nat} : NdBA D W [] := ⟨by simp only [niceBAll], by simp only [PyData.depthAll]; omega, by simp only [PyData.bulkAll]; omega⟩
theorem NdBA.cons {D W W' : Nat} {d : PyData} {ds : List PyData} (h : NdB D W d) (r : NdBA D W' ds) : NdBA D (W + 1 + W') (d :: ds) :=
  ⟨by simp only [niceBAll, h.ni, r.ni, Bool.and_self], by have := h.dp; have := r.dp; simp only [PyData.depthAll]; omega, by have := h.bk; have := r.bk; simp only [PyData.bulkAll]; omega⟩
theorem NdB.le {D W D' W' : Nat} {d : PyData} (h : NdB D W d) (e : D ≤ D') (f : W ≤ W') : NdB D' W' d := ⟨h.ni, Nat.le_trans h.dp e, Nat.le_trans h.bk f⟩
theorem NdB.list {D W : Nat} {ds : List PyData} (h : NdBA D W ds) : NdB (D + 1) W (.list ds) := ⟨by simp only [niceB]; exact h.ni, by have := h.dp; simp only [PyData.depth]; omega, by have := h.bk; simp only [PyData.bulk]; omega⟩
theorem NdB.tuple {D W : Nat} {ds : List PyData} (h : NdBA D W ds) : NdB (D + 1) W (.tuple ds) := ⟨by simp only [niceB]; exact h.ni, by have := h.dp; simp only [PyData.depth]; omega, by have := h.bk; simp only [PyData.bulk]; omega⟩
theorem NdB.int {n : Nat} {i : Int} (h : Bd n i) (e : n ≤ 12900 := by decide) : NdB 1 0 (.int i) := ⟨by
  simp only [niceB, decide_eq_true_eq]
  by_cases h0 : 0 < n
  · exact Nat.lt_of_lt_of_le (PySem.Flt.log2_lt_of h0 h) e
  · have : n = 0 := by omega
    subst this
    have : i.natAbs = 0 := by unfold Bd at h; omega
    rw [this]; decide, by simp only [PyData.depth]; omega, by simp only [PyData.bulk]; omega⟩
inductive R_alikeN : Rel
  | mk (d : PyData) (B : Bag) (h : OkB d) (hb : boxed d = true ∨ d = .none) : R_alikeN [.da d, .da d] B (.bool true) B
def Vcan (b p : Nat) (low high : Int) : Va → Prop
  | .num s c e => (s = 0 ∨ s = 1) ∧ Can b p low c e ∧ e ≤ high
  | .inf s => s = 0 ∨ s = 1
  | .nan => True
theorem Vcan.ok {b p : Nat} {low high : Int} {v : Va} (h : Vcan b p low high v) : Vok b p low high v := by
  cases v with
  | nan => trivial
  | inf s => exact h
  | num s c e => exact ⟨h.1, h.2.1.1, h.2.1.2.1, h.2.1.2.2.1, h.2.2⟩
end Lw
set_option exponentiation.threshold 20000
namespace Lw
open PySem PySem.Spec PyProof.Rows L2 Gd Fr
open scoped Rat
section
variable {b p : Nat} {low high : Int} (F : Fm b p low high)
include F
end
end Lw
namespace Gd
open PySem PySem.Spec PyProof.Rows L2
section
variable {X : Cx} {Γ : List VD} {B B1 B2 : Bag} {e c elt : Expr} {scope : Scope} {acc : List PyData} {pos pos' : Pos} {rest : List Stmt} {E : En} {d : VD}
end
end Gd
set_option exponentiation.threshold 20000
namespace Lw
open PySem PySem.Spec PyProof.Rows L2 Gd Fr
open scoped Rat
section
variable {b p : Nat} {low high : Int} (F : Fm b p low high)
include F
end
end Lw
namespace Gd
open PySem PySem.Spec PyProof.Rows L2
section
variable {X : Cx} {Γ : List VD} {B B1 B2 : Bag} {e c elt a b : Expr} {scope : Scope} {acc : List PyData} {pos pos' : Pos} {rest : List Stmt} {E : En} {d : VD}
theorem op_inDT (hu : X.A.units + 64 < cLine) : OpR X (compareOp .In) (fun x y H Q => ∃ d ds, Dp X.K H x d ∧ Dp X.K H y (.tuple ds) ∧ SeqAt.shaped d = true ∧ SeqAt.shaped (.tuple ds) = true ∧ d.depth ≤ 60 ∧ Q (.bl (ds.any fun z => PyData.eqv z d)) H) := by
  intro pins s σ H x y v u Q I rx ry h
  obtain ⟨d, ds, hd, he, sd, se, hp, q⟩ := h
  obtain ⟨as, r1⟩ := Dp.reads I d x v hd rx
  obtain ⟨bs, r2⟩ := Dp.reads I (.tuple ds) y u he ry
  exact SeqAt.in_tuple_reads r2 r1 (SeqAt.canLay_of_shaped se) (SeqAt.canLay_of_shaped sd) (by have := Nat.min_le_right (PyData.depthAll ds) d.depth; omega) ⟨.bl _, H, I, rfl, q⟩
theorem tj_inD {d : PyData} {ds : List PyData} (hu : X.A.units + 64 < cLine) (ha : EJ X Γ B a (.da d) B1) (hb : EJ X Γ B1 b (.da (.tuple ds)) B2) (hd : SeqAt.shaped d = true) (hds : SeqAt.shaped (.tuple ds) = true) (hp : d.depth ≤ 60) (hm : behindInMarks .In b = false := by rfl) :
    TJ X Γ B (.Compare a [.In] [b] pos) (ds.any fun z => PyData.eqv z d) B2 :=
  tj_cmp ha hb (op_inDT hu) hm fun g v w H0 H O r1 r2 Q q => ⟨d, ds, (Rp.mono O.ex r1).dp (nd_shaped hd), (Rp.mono O.ex r2).dp (nd_shaped hds), hd, hds, hp, q H0 H To.refl O⟩
end
end Gd
set_option exponentiation.threshold 20000
namespace Lw
open PySem PySem.Spec PyProof.Rows L2 Gd Fr
open scoped Rat
section
variable {b p : Nat} {low high : Int} (F : Fm b p low high)
include F
end
end Lw
namespace Gd
open PySem PySem.Spec PyProof.Rows L2
section
variable {P : Program} {w : World} {A : Around} {s : Shared} {E : Value → Shared → Prop}
end
section
variable {X : Cx}
end
end Gd
namespace Gd
open PySem PySem.Spec PyProof.Rows L2
section
variable {X : Cx} {Γ : List VD} {B B1 B2 : Bag} {e c elt a b : Expr} {scope : Scope} {acc : List PyData} {pos pos' p p' : Pos} {rest : List Stmt} {E : En} {d : VD}
end
end Gd
set_option exponentiation.threshold 20000
namespace Lw
open PySem PySem.Spec PyProof.Rows L2 Gd Fr
open scoped Rat
end Lw
set_option exponentiation.threshold 20000
namespace Lw
open PySem PySem.Spec PyProof.Rows L2 Gd Fr
open scoped Rat
section
variable {b p : Nat} {low high : Int} (F : Fm b p low high)
include F
end
end Lw
set_option exponentiation.threshold 20000
namespace Lw
open PySem PySem.Spec PyProof.Rows L2 Gd Fr
open scoped Rat
section
variable {X : Cx} {Γ : List VD} {B B1 B2 : Bag} {a b : Expr} {pos : Pos}
end
end Lw
namespace Gd
open PySem PySem.Spec PyProof.Rows L2
section
variable {P : Program} {w : World} {K : PySem.W.Frag} {mg : Str → Option Value} {base : Heap} {x : Str}
def CalE (P : Program) (w : World) (K : PySem.W.Frag) (mg : Str → Option Value) (base : Heap) (x : Str) (k : Nat) (Pre : List VD → Bag → Prop) (Post : List VD → Bag → PyData → Bag → Prop) : Prop :=
  ∃ R : Rel, Cal P w K mg base x k R ∧ ∀ Γ B, Pre Γ B → ∃ r B', R Γ B r B' ∧ Post Γ B r B'
theorem Cal.e {k : Nat} {R : Rel} (c : Cal P w K mg base x k R) {Pre : List VD → Bag → Prop} {Post : List VD → Bag → PyData → Bag → Prop} (h : ∀ Γ B, Pre Γ B → ∃ r B', R Γ B r B' ∧ Post Γ B r B') : CalE P w K mg base x k Pre Post := ⟨R, c, h⟩
end
section
variable {X : Cx} {Γ : List VD} {B B1 B2 : Bag} {a b c : Expr} {d : VD} {pos : Pos}
theorem ej_ifT (h : TJ X Γ B c true B1) (h1 : EJ X Γ B1 a d B2) : EJ X Γ B (.IfExp c a b pos) d B2 := ej_if h (fun _ => h1) (fun z => Bool.noConfusion z)
theorem ej_ifF (h : TJ X Γ B c false B1) (h1 : EJ X Γ B1 b d B2) : EJ X Γ B (.IfExp c a b pos) d B2 := ej_if h (fun z => Bool.noConfusion z) (fun _ => h1)
end
end Gd
namespace Gd
open PySem PySem.Spec PyProof.Rows L2
section
variable {X : Cx} {i : Nat} {Γ : List VD} {B B1 B2 B' : Bag} {ds : List PyData} {e a b c : Expr} {es : List Expr} {pos p p1 p2 p3 pos' : Pos} {rest ss s1 s2 : List Stmt} {E : En}
end
end Gd
set_option exponentiation.threshold 20000
namespace Lw
open PySem PySem.Spec PyProof.Rows L2 Gd Fr
open scoped Rat
end Lw
namespace Lw
open PySem PySem.Spec PyProof.Rows L2 Gd Fr
end Lw
namespace Gd
open PySem PySem.Spec PyProof.Rows L2
section
variable {X : Cx} {Γ : List VD} {B B1 B2 : Bag} {a b c : Expr} {es : List Expr} {pos p : Pos}
end
end Gd
set_option exponentiation.threshold 20000
namespace Gd
open PySem PySem.Spec PyProof.Rows L2
section
variable {X : Cx} {Γ : List VD} {B B1 B2 : Bag} {c : Expr} {pos : Pos} {rest s1 s2 : List Stmt} {E : En}
end
end Gd
namespace Lw
open PySem PySem.Spec PyProof.Rows L2 Gd Fr
open scoped Rat
end Lw
set_option exponentiation.threshold 20000
namespace Lw
open PySem PySem.Spec PyProof.Rows L2 Gd Fr
open scoped Rat
def fmI (b p : Nat) : Int := ((b : Int) - 1) * ((b ^ (p - 1) : Nat) : Int)
def mostI (b p : Nat) (low high : Int) : Int := ((b ^ p : Nat) : Int) + (high - low) * fmI b p
def rkS (b p : Nat) (low high : Int) : Va → Int
  | .num _ c e => c + (e - low) * fmI b p
  | _ => mostI b p low high
def rkI (b p : Nat) (low high : Int) (v : Va) : Int := if v.sg = 1 then -rkS b p low high v else rkS b p low high v
variable {b p : Nat} {low high : Int} (F : Fm b p low high)
include F
end Lw
namespace Gd
open PySem PySem.Spec PyProof.Rows L2
section
variable {X : Cx} {Γ : List VD} {B B1 B2 : Bag} {a b c e : Expr} {pos p pos' : Pos} {rest : List Stmt} {E : En} {elt : Expr} {scope : Scope} {j : Nat} {x : Str} {px : Pos} {d : VD}
end
end Gd
namespace Gd
open PySem PySem.Spec PyProof.Rows L2
section
variable {X : Cx} {Γ : List VD} {B B1 B2 : Bag} {a b c e : Expr} {pos p pos' : Pos} {rest s1 : List Stmt} {E : En}
end
end Gd
set_option exponentiation.threshold 20000
namespace Lw
open PySem PySem.Spec PyProof.Rows L2 Gd Fr
open scoped Rat
noncomputable instance instVa : DecidableEq Va := fun x y => Classical.propDecidable (x = y)
section
variable {b p : Nat} {low high : Int} (F : Fm b p low high)
include F
end
end Lw
namespace Gd
open PySem PySem.Spec PyProof.Rows L2
section
variable {X : Cx} {Γ : List VD} {B B1 B2 : Bag} {a b c e : Expr} {pos p pos' : Pos} {rest s1 : List Stmt} {E : En}
end
end Gd
set_option exponentiation.threshold 20000
namespace Lw
open PySem PySem.Spec PyProof.Rows L2 Gd Fr
open scoped Rat
section
variable {b p : Nat} {low high : Int} (F : Fm b p low high)
include F
end
section
variable {b p : Nat} {low high : Int} (F : Fm b p low high)
include F
end
end Lw
set_option exponentiation.threshold 20000
namespace Lw
open PySem PySem.Spec PyProof.Rows L2 Gd Fr
open scoped Rat
def exQ (b p : Nat) (low high : Int) (x : Rat) : Prop := rQ b (eQ b p low (absQ x)) (absQ x) = 0 ∧ eQ b p low (absQ x) ≤ high
section
variable {b p : Nat} {low high : Int} (F : Fm b p low high)
include F
end
end Lw
namespace Lw
open PySem PySem.Spec PyProof.Rows L2 Gd Fr
end Lw
namespace Gd
open PySem PySem.Spec PyProof.Rows L2
section
variable {X : Cx} {Γ : List VD} {B B1 B2 : Bag} {a b c e elt : Expr} {scope : Scope} {pos p pos' : Pos} {rest s1 : List Stmt} {E : En} {d : VD}
end
end Gd
set_option exponentiation.threshold 20000
namespace Lw
open PySem PySem.Spec PyProof.Rows L2 Gd Fr
open scoped Rat
section
variable {b p : Nat} {low high : Int} (F : Fm b p low high)
include F
end
end Lw
namespace Lw
end Lw
namespace Gd
open PySem PySem.Spec PyProof.Rows L2
section
variable {X : Cx} {Γ : List VD} {B B1 B2 : Bag} {e c elt a b : Expr} {scope : Scope} {acc : List PyData} {pos pos' p p' : Pos} {rest : List Stmt} {E : En} {d : VD}
end
end Gd
set_option exponentiation.threshold 20000
namespace Lw
open PySem PySem.Spec PyProof.Rows L2 Gd Fr
open scoped Rat
noncomputable instance exQ_dec (b p : Nat) (low high : Int) (x : Rat) : Decidable (exQ b p low high x) := by unfold exQ; infer_instance
section
variable {b p : Nat} {low high : Int} {b' p' : Nat} {low' high' : Int} (F : Fm b p low high) (F' : Fm b' p' low' high')
include F F'
end
end Lw
set_option exponentiation.threshold 20000
namespace Lw
open PySem PySem.Spec PyProof.Rows L2 Gd Fr
open scoped Rat
def Pre_cpl (Γ : List VD) (B : Bag) : Prop := Γ = [.bag] ∧ Bok B
end Lw
set_option exponentiation.threshold 20000
namespace Lw
open PySem PySem.Spec PyProof.Rows L2 Gd Fr
open scoped Rat
end Lw
namespace Gd
open PySem PySem.Spec PyProof.Rows L2
section
variable {X : Cx} {Γ : List VD} {B B1 B2 B3 : Bag} {e c elt a b o i f : Expr} {scope : Scope} {acc : List PyData} {pos pos' p p' : Pos} {rest : List Stmt} {E : En} {d : VD}
end
end Gd
namespace Gd
open PySem PySem.Spec PyProof.Rows L2
section
variable {X : Cx} {Γ : List VD} {B B1 B2 : Bag} {a b c e : Expr} {pos p pos' : Pos} {rest s1 : List Stmt} {E : En}
end
end Gd
set_option exponentiation.threshold 20000
namespace Lw
open PySem PySem.Spec PyProof.Rows L2 Gd Fr
open scoped Rat
section
variable {b p : Nat} {low high : Int} (F : Fm b p low high)
include F
end
end Lw
namespace Lw
open PySem PySem.Spec PyProof.Rows L2 Gd Fr
open scoped Rat
end Lw
namespace Fr
open Gd PySem
open scoped Rat
def tw (k : Nat) (a : Int) : Int := 2 ^ k * (2 * a + 1)
theorem tw_of : ∀ (m : Nat) (n : Int), n.natAbs ≤ m → n ≠ 0 → ∃ k a, n = tw k a := by
  intro m
  induction m with
  | zero => intro n h hn; omega
  | succ m ih =>
    intro n h hn
    by_cases ho : n % 2 = 1
    · exact ⟨0, n / 2, by unfold tw; omega⟩
    · obtain ⟨k, a, e⟩ := ih (n / 2) (by omega) (by omega)
      refine ⟨k + 1, a, ?_⟩
      unfold tw at *
      rw [Int.pow_succ, Int.mul_comm _ 2, Int.mul_assoc, ← e]; omega
theorem tw_ex {n : Int} (h : n ≠ 0) : ∃ k a, n = tw k a := tw_of _ n (Nat.le_refl _) h
theorem tw_ne (k : Nat) (a : Int) : tw k a ≠ 0 := by
  unfold tw
  exact Int.mul_ne_zero (Int.ne_of_gt (Int.pow_pos (by decide))) (by omega)
theorem tw_low (k : Nat) (a : Int) : Builtin.bitAnd (tw k a) (-(tw k a)) = 2 ^ k := PySem.W.kbt_low k a
theorem bits_two (k : Nat) : ((Builtin.Int.intBits ((2 : Int) ^ k) : Nat) : Int) - 1 = (k : Int) := by
  have e : ((2 : Int) ^ k) = ((2 ^ k : Nat) : Int) := by rw [Int.natCast_pow]; rfl
  have p : 0 < 2 ^ k := Nat.pow_pos (by decide)
  unfold Builtin.Int.intBits
  rw [e, if_neg (by rw [beq_iff_eq]; omega), Int.natAbs_natCast, Nat.log2_two_pow]
  omega
theorem tw_shr {j k : Nat} (h : j ≤ k) (a : Int) : tw k a / 2 ^ j = tw (k - j) a := by
  unfold tw
  have e : (2 : Int) ^ k = 2 ^ j * 2 ^ (k - j) := by rw [← Int.pow_add]; congr 1; omega
  rw [e, Int.mul_assoc]
  exact Int.mul_ediv_cancel_left _ (Int.ne_of_gt (Int.pow_pos (by decide)))
theorem tw_zero (a : Int) : tw 0 a = 2 * a + 1 := by unfold tw; omega
theorem tw_split {j k : Nat} (h : j ≤ k) (a : Int) : tw k a = 2 ^ j * tw (k - j) a := by
  unfold tw
  rw [← Int.mul_assoc, ← Int.pow_add]; congr 2; omega
theorem gcd_odd {n : Int} (k : Nat) (b : Int) (h : n % 2 = 1 ∨ k = 0) : Nat.gcd n.natAbs (tw k b).natAbs = Nat.gcd n.natAbs (tw 0 b).natAbs := by
  rcases h with h | rfl
  · have e : (tw k b).natAbs = 2 ^ k * (tw 0 b).natAbs := by
      unfold tw; rw [Int.natAbs_mul, Int.natAbs_pow, Int.pow_zero, Int.one_mul]; rfl
    rw [e]
    have c : Nat.Coprime n.natAbs (2 ^ k) := by
      refine Nat.Coprime.pow_right _ ?_
      rw [Nat.coprime_comm]
      have : n.natAbs % 2 = 1 := by omega
      rw [Nat.Coprime, Nat.gcd_rec, this]; decide
    exact Nat.Coprime.gcd_mul_left_cancel_right _ c.symm
  · rfl
theorem tw_odd (a : Int) : tw 0 a % 2 = 1 := by rw [tw_zero]; omega
theorem bd_tw {m j k : Nat} {a : Int} (h : Bd m (tw k a)) (hj : j ≤ k) : Bd m (tw j a) := by
  unfold Bd tw at *
  rw [Int.natAbs_mul, Int.natAbs_pow] at *
  refine Nat.lt_of_le_of_lt (Nat.mul_le_mul_right _ ?_) h
  exact Nat.pow_le_pow_right (by decide) hj
theorem divInt_tw {i j t : Nat} (hi : t ≤ i) (hj : t ≤ j) (a b : Int) : tw i a /. tw j b = tw (i - t) a /. tw (j - t) b := by
  rw [tw_split hi, tw_split hj, Rat.divInt_mul_left (Int.ne_of_gt (Int.pow_pos (by decide)))]
end Fr
namespace Gd
open PySem PySem.Spec PyProof.Rows L2
section
variable {X : Cx} {Γ : List VD} {B B1 B2 B3 B' : Bag} {e a b c : Expr} {es : List Expr} {d da db dc : VD} {pos p pos' apos : Pos} {rest ss s1 s2 : List Stmt} {E : En}
theorem ej_band {i j : Int} (ha : EJ X Γ B a (.da (.int i)) B1) (hb : EJ X Γ B1 b (.da (.int j)) B2) : EJ X Γ B (.BinOp a .BitAnd b pos) (.da (.int (Builtin.bitAnd i j))) B2 :=
  ej_ii ha hb op_and fun _ => .int _
theorem ej_shr {i : Int} {k : Nat} (ha : EJ X Γ B a (.da (.int i)) B1) (hb : EJ X Γ B1 b (.da (.int (k : Int))) B2) : EJ X Γ B (.BinOp a .RShift b pos) (.da (.int (i / 2 ^ k))) B2 :=
  ej_iic ha hb op_shr (Int.natCast_nonneg k) fun _ => .int _
theorem ej_bits {i : Int} (ha : EJ X Γ B a (.da (.int i)) B1) (hbase : attributeBase a "bit_length" X.env (eval a X.env) = eval a X.env := by rfl) (hline : (apos.endLine == pos.line) = true := by rfl) :
    EJ X Γ B (.Call (.Attribute a "bit_length" apos) [] [] pos) (.da (.int (Builtin.Int.intBits i : Nat))) B1 := fun g σ H0 H E O Q q =>
  ⟨_, pe_bits (we a) hbase hline, ha g σ H0 H E O _ fun v H1 H' t o r => ⟨i, rvI r, q _ H1 H' t o (Rp.int _)⟩⟩
end
end Gd
namespace Lw
open PySem PySem.Spec PyProof.Rows L2 Gd Fr
open scoped Rat
inductive R_twos : Rel
  | mk (k : Nat) (a : Int) (B : Bag) : R_twos [.da (.int (tw k a))] B (.int (k : Int)) B
theorem fq_cop {n : Int} {d : Nat} (hd : d ≠ 0) (h : Nat.Coprime n.natAbs d) : fq (n /. (d : Int)) = .tuple [.int n, .int (d : Int)] := by
  have hd' : (d : Int) ≠ 0 := by omega
  have c1 : com n (d : Int) = 1 := by
    unfold com
    rw [if_neg (by omega), Int.natAbs_natCast, h.gcd_eq_one]; rfl
  have e1 := red_num (n := n) hd'
  have e2 := red_den (n := n) hd'
  rw [c1, Int.fdiv_one] at e1 e2
  unfold fq
  rw [← e1, ← e2]
theorem div_eq {n d n' d' : Int} (h : d ≠ 0) (h' : d' ≠ 0) (e : n * d' = n' * d) : n /. d = n' /. d' := (Rat.divInt_eq_divInt_iff h h').mpr e
theorem div_cross {n d : Int} (h : d ≠ 0) : n * ((n /. d).den : Int) = (n /. d).num * d := by
  have := (Rat.divInt_eq_divInt_iff h (den_ne (n /. d))).mp (self_div (n /. d)).symm
  exact this
theorem num_dvd {n d : Int} (h : d ≠ 0) : (n /. d).num.natAbs ∣ n.natAbs := by
  have e := congrArg Int.natAbs (div_cross (n := n) h)
  rw [Int.natAbs_mul, Int.natAbs_mul, Int.natAbs_natCast] at e
  have : (n /. d).num.natAbs ∣ n.natAbs * (n /. d).den := ⟨_, e⟩
  exact Nat.Coprime.dvd_of_dvd_mul_right (n /. d).reduced this
theorem den_dvd {n d : Int} (h : d ≠ 0) : (n /. d).den ∣ d.natAbs := by
  have e := congrArg Int.natAbs (div_cross (n := n) h)
  rw [Int.natAbs_mul, Int.natAbs_mul, Int.natAbs_natCast] at e
  have : (n /. d).den ∣ (n /. d).num.natAbs * d.natAbs := ⟨n.natAbs, by rw [← e, Nat.mul_comm]⟩
  exact Nat.Coprime.dvd_of_dvd_mul_left (n /. d).reduced.symm this
theorem mul_by (x y : Rat) : (.tuple [.int ((x.num /. (y.den : Int)).num * (y.num /. (x.den : Int)).num), .int (((y.num /. (x.den : Int)).den : Int) * ((x.num /. (y.den : Int)).den : Int))] : PyData) = fq (x * y) := by
  have c1 := div_cross (n := x.num) (den_ne y)
  have c2 := div_cross (n := y.num) (den_ne x)
  have d1 := num_dvd (n := x.num) (den_ne y)
  have d2 := den_dvd (n := x.num) (den_ne y)
  have d3 := num_dvd (n := y.num) (den_ne x)
  have d4 := den_dvd (n := y.num) (den_ne x)
  have r1 := (x.num /. (y.den : Int)).reduced
  have r2 := (y.num /. (x.den : Int)).reduced
  have p1 := (x.num /. (y.den : Int)).den_pos
  have p2 := (y.num /. (x.den : Int)).den_pos
  generalize x.num /. (y.den : Int) = u at *
  generalize y.num /. (x.den : Int) = v at *
  rw [Int.natAbs_natCast] at d2 d4
  have k1 : Nat.Coprime u.num.natAbs v.den := (x.reduced.coprime_dvd_left d1).coprime_dvd_right d4
  have k2 : Nat.Coprime v.num.natAbs u.den := (y.reduced.coprime_dvd_left d3).coprime_dvd_right d2
  have k : Nat.Coprime (u.num * v.num).natAbs (v.den * u.den) := by
    rw [Int.natAbs_mul]
    exact Nat.Coprime.mul_left (Nat.Coprime.mul_right k1 r1) (Nat.Coprime.mul_right r2 k2)
  have hne : v.den * u.den ≠ 0 := Nat.ne_of_gt (Nat.mul_pos p2 p1)
  have e := fq_cop hne k
  rw [← Int.natCast_mul, ← e, ← mul_div x y]
  congr 1
  refine div_eq (by omega) (Int.mul_ne_zero (den_ne x) (den_ne y)) ?_
  rw [Int.natCast_mul]
  have : u.num * (y.den : Int) * (v.num * (x.den : Int)) = x.num * (u.den : Int) * (y.num * (v.den : Int)) := by rw [c1, c2]
  grind
theorem qz_inv {n d : Nat} {y : Rat} (h : Qz n d y) (h0 : y ≠ 0) : Qz d n y⁻¹ := by
  have hn := num_ne h0
  refine ⟨?_, ?_⟩
  · rw [Rat.num_inv]
    have := h.de
    unfold Bd at *
    rw [Int.natAbs_mul, Int.natAbs_sign_of_ne_zero hn]; omega
  · rw [Rat.den_inv]
    have := h.nu
    unfold Bd at *
    rw [if_neg hn]; omega
theorem fq_invN {y : Rat} (h : y.num < 0) : (.tuple [.int (-(y.den : Int)), .int (-y.num)] : PyData) = fq y⁻¹ := by
  unfold fq
  rw [Rat.num_inv, Rat.den_inv, if_neg (by omega), Int.sign_eq_neg_one_of_neg h]
  have : ((y.num.natAbs : Nat) : Int) = -y.num := by omega
  rw [this]
  have : -1 * (y.den : Int) = -(y.den : Int) := by omega
  rw [this]
theorem fq_invP {y : Rat} (h0 : y ≠ 0) (h : ¬ y.num < 0) : (.tuple [.int (y.den : Int), .int y.num] : PyData) = fq y⁻¹ := by
  have hn := num_ne h0
  unfold fq
  rw [Rat.num_inv, Rat.den_inv, if_neg hn, Int.sign_eq_one_of_pos (by omega)]
  have : ((y.num.natAbs : Nat) : Int) = y.num := by omega
  rw [this]
  have : 1 * (y.den : Int) = (y.den : Int) := by omega
  rw [this]
end Lw
namespace Gd
open PySem PySem.Spec PyProof.Rows L2
section
variable {X : Cx}
end
section
variable {X : Cx} {Γ : List VD} {B B1 B2 B3 B' : Bag} {e a b c : Expr} {es : List Expr} {d da db dc : VD} {pos p pos' apos : Pos} {kp : Pos} {rest ss s1 s2 : List Stmt} {E : En}
end
end Gd
namespace Gd
open PySem PySem.Spec PyProof.Rows L2
section
variable {X : Cx} {Γ : List VD} {B B1 B2 : Bag} {e c elt : Expr} {scope : Scope} {acc : List PyData} {pos pos' : Pos} {rest : List Stmt} {E : En} {d : VD}
end
end Gd
set_option exponentiation.threshold 20000
namespace Lw
open PySem PySem.Spec PyProof.Rows L2 Gd Fr
open scoped Rat
end Lw
namespace Gd
open PySem PySem.Spec PyProof.Rows L2
section
variable {P : Program} {w : World} {A : Around} {s : Shared} {E : Value → Shared → Prop}
end
section
variable {X : Cx} {Γ : List VD} {B B1 B2 B' : Bag} {e a b c : Expr} {es : List Expr} {d da db dc : VD} {pos p p' pos' : Pos} {rest ss s1 s2 : List Stmt} {E : En}
end
end Gd
namespace Gd
open PySem PySem.Spec PyProof.Rows L2
section
variable {K : PySem.W.Frag} {H : Hp} {a : Addr} {zs : List V}
end
section
variable {X : Cx} {i : Nat} {Γ : List VD} {B B1 B2 B' : Bag} {acc ds : List PyData} {e e2 a b c : Expr} {es : List Expr} {d da db : VD} {y y2 : PyData} {pos p p1 p2 p3 pos' : Pos} {rest ss s1 s2 : List Stmt} {E : EnO}
end
end Gd
namespace Gd
open PySem PySem.Spec PyProof.Rows L2
abbrev Post := PyData → Bag → Prop
def EX (X : Cx) (Γ : List VD) (B : Bag) (e : Expr) (Φ : Post) : Prop :=
  ∀ g σ H0 H, EnvD X.K g H0 σ Γ → On X.K g B H0 H → ∀ Q : VK,
    (∀ v H0' H' y B', Φ y B' → To g H0 H H0' H' → On X.K g B' H0' H' → Rp X.K H0' v y → Q v H') → WE X e σ H Q
def AX (X : Cx) (Γ : List VD) (B : Bag) (es : List Expr) (Φ : List VD → Bag → Prop) : Prop :=
  ∀ g σ H0 H, EnvD X.K g H0 σ Γ → On X.K g B H0 H → ∀ Q : List V → Hp → Prop,
    (∀ vs H0' H' ds B', Φ ds B' → To g H0 H H0' H' → On X.K g B' H0' H' → RvAll X.K g H0' vs ds → Q vs H') → WA X es σ H Q
def DefSpX (K : PySem.W.Frag) (Pre : List VD → Bag → Prop) (Po : List VD → Bag → Post) : Sp := fun vs H Q _ =>
  ∃ g Γ B H0, RvAll K g H0 vs Γ ∧ On K g B H0 H ∧ Pre Γ B ∧
    ∀ v H0' H' r B', Po Γ B r B' → To g H0 H H0' H' → On K g B' H0' H' → Rp K H0' v r → Q v H'
def CalX (P : Program) (w : World) (K : PySem.W.Frag) (mg : Str → Option Value) (base : Heap) (x : Str) (k : Nat) (Pre : List VD → Bag → Prop) (Po : List VD → Bag → Post) : Prop :=
  ∃ f fd ps, FnG P w K mg base k f fd ps (DefSpX K Pre Po) ∧ mg x = some (.ref f) ∧ PySem.W.keepIn K (.ref f) = true ∧ Binds K fd ps []
theorem calx_at {P : Program} {w : World} {K : PySem.W.Frag} {mg : Str → Option Value} {base : Heap} {x : Str} {st : Stmt} {N ps : List Str} {k : Nat} {Pre : List VD → Bag → Prop} {Po : List VD → Bag → Post}
    (T : At K mg x st ps) (S : FnScope N ps (defScope st)) (len : ∀ Γ B, Pre Γ B → Γ.length = ps.length)
    (body : ∀ (f : Addr) (cdv : Value) (A : Around) (out : List Env) (s : Shared) (H : Hp) (E : XK),
      Gx k (cxOf CX0 P w K mg base N x (defScope st) f cdv A out s H E).nox → ∀ Γ B, Pre Γ B →
      SJ (cxOf CX0 P w K mg base N x (defScope st) f cdv A out s H E).nox (Γ ++ List.replicate (N.length - ps.length) .no) B (defBody st)
        { nx := fun _ B2 => Po Γ B .none B2, rt := fun d B2 => Po Γ B d B2 }) : CalX P w K mg base x (k + 1) Pre Po := by
  obtain ⟨f, fd, F, hm, hb⟩ := T
  have hpl : ps.length ≤ N.length := by
    have := congrArg List.length S.pre
    rw [List.length_take] at this; omega
  refine ⟨f, fd, ps, fnG_of F S ?_ ?_, hm, F.kp, hb⟩
  · rintro vs H Q E ⟨g, Γ, B, H0, a, b, c, d⟩
    rw [a.length]; exact len _ _ c
  · intro cdv A out s H vs Q E G ⟨g, Γ, B, H0, a, b, c, d⟩
    have hl := len _ _ c
    have E0' := start_env (N := N) a (by rw [hl]; exact hpl)
    rw [hl] at E0'
    refine body f cdv A out s H E G Γ B c g _ H0 H E0' b _ ⟨?_, ?_, ?_, ?_⟩
    · intro Γ2 B2 σ H1 H' z t _ o
      exact d _ _ _ _ _ z t o .non
    · intro r2 B2 v H1 H' z t o rv
      exact d _ _ _ _ _ z t o rv
    · intro _ _ _ _ _ z; exact z.elim
    · intro _ _ _ _ _ z; exact z.elim
theorem Cal.x {P : Program} {w : World} {K : PySem.W.Frag} {mg : Str → Option Value} {base : Heap} {x : Str} {k : Nat} {R : Rel} {Pre : List VD → Bag → Prop} {Po : List VD → Bag → Post}
    (c : Cal P w K mg base x k R) (h : ∀ Γ B, Pre Γ B → ∃ r B', R Γ B r B' ∧ Po Γ B r B') : CalX P w K mg base x k Pre Po := by
  obtain ⟨f, fd, ps, F, h1, h2, h3⟩ := c
  have im : ∀ vs H Q E, DefSpX K Pre Po vs H Q E → DefSp K R vs H Q E := by
    rintro vs H Q E ⟨g, Γ, B, H0, a, b, c, d⟩
    obtain ⟨r, B', hR, hP⟩ := h Γ B c
    exact ⟨g, Γ, B, H0, r, B', a, b, hR, fun v H0' H' t o rv => d v H0' H' r B' hP t o rv⟩
  exact ⟨f, fd, ps, ⟨fun vs H Q E q => F.len vs H Q E (im _ _ _ _ q), fun A o s H ar us vs Q E q1 q2 q3 q4 q5 q => F.run A o s H ar us vs Q E q1 q2 q3 q4 q5 (im _ _ _ _ q)⟩, h1, h2, h3⟩
section
variable {X : Cx} {Γ : List VD} {B B1 B2 B' : Bag} {e a b c : Expr} {es : List Expr} {d da db : VD} {y : PyData} {pos p pos' : Pos} {rest ss s1 s2 : List Stmt} {E : En} {Φ : Post} {Ω : List VD → Bag → Prop} {Ψ : Bool → Bag → Prop}
theorem ex_ej (h : EJ X Γ B e (.da y) B1) (hΦ : Φ y B1) : EX X Γ B e Φ := fun g σ H0 H Ev O Q q => h g σ H0 H Ev O Q fun v H1 H' t o r => q v H1 H' y B1 hΦ t o r
theorem ex_mono {Φ' : Post} (h : EX X Γ B e Φ) (m : ∀ y B', Φ y B' → Φ' y B') : EX X Γ B e Φ' := fun g σ H0 H Ev O Q q => h g σ H0 H Ev O Q fun v H1 H' y B' hy t o r => q v H1 H' y B' (m _ _ hy) t o r
theorem ax_aj {ds : List VD} (h : AJ X Γ B es ds B1) (hΩ : Ω ds B1) : AX X Γ B es Ω := fun g σ H0 H Ev O Q q => h g σ H0 H Ev O Q fun v H1 H' t o r => q v H1 H' ds B1 hΩ t o r
theorem ax_nil (h : Ω [] B) : AX X Γ B [] Ω := fun g σ H0 H _ O Q q => ⟨_, pa_nil, q [] H0 H [] B h To.refl O trivial⟩
theorem ax_cons (h : EX X Γ B e fun y B1 => AX X Γ B1 es fun ds B2 => Ω (.da y :: ds) B2) (hs : starEach (e :: es) X.env = (false, eval e X.env) :: starEach es X.env := by rfl) : AX X Γ B (e :: es) Ω := fun g σ H0 H E O Q q =>
  ⟨_, pa_cons (we e) (wa es) hs, h g σ H0 H E O _ fun v H1 H' y B1 hy t o rv => hy g σ H1 H' (E.mono t.ex) o _ fun vs H2 H'' ds B2 hd t2 o2 rs => q (v :: vs) H2 H'' _ _ hd (t.trans t2) o2 ⟨Rp.mono t2.ex rv, rs⟩⟩
theorem ax_bag (i : Nat) {x : Str} (r : AX X Γ B es fun ds B2 => Ω (.bag :: ds) B2) (h : Γ[i]? = some .bag := by rfl) (hN : X.N[i]? = some x := by rfl)
    (hv : Vis X.env.scope x := by first | exact Or.inl rfl | exact Or.inr (Or.inl rfl) | exact Or.inr (Or.inr rfl))
    (h1 : (x == ("__debug__" : Str)) = false := by decide) (h2 : (x == ("__classdict__" : Str)) = false := by decide)
    (hs : starEach (.Name x pos :: es) X.env = (false, eval (.Name x pos) X.env) :: starEach es X.env := by rfl) : AX X Γ B (.Name x pos :: es) Ω := fun g σ H0 H E O Q q =>
  ⟨_, pa_cons (we (.Name x pos)) (wa es) hs, (ej_bag (B := B) i h hN hv h1 h2) g σ H0 H E O _ fun v H1 H' t o rv => r g σ H1 H' (E.mono t.ex) o _ fun vs H2 H'' ds B2 hd t2 o2 rs => q (v :: vs) H2 H'' _ _ hd (t.trans t2) o2 ⟨rv.mono t2.ex, rs⟩⟩
theorem ex_call {x : Str} {k : Nat} {Pre : List VD → Bag → Prop} {Po : List VD → Bag → Post} (c : CalX X.prog X.w X.K X.mg X.base x k Pre Po) (g : Gx k X) (ha : AX X Γ B (e :: es) fun ds B1 => Pre ds B1 ∧ ∀ r B', Po ds B1 r B' → Φ r B')
    (hg : Gl X x := by rfl) (hdb : (x == ("__debug__" : Str)) = false := by decide) (he : starEach (e :: es) X.env = (false, eval e X.env) :: starEach es X.env := by rfl)
    (hpl : (backTo pos (starEach es X.env)).any (·.1) = false := by rfl) : EX X Γ B (.Call (.Name x p) (e :: es) [] pos) Φ := by
  obtain ⟨f, fd, ps, F, hm, hk, hb⟩ := c
  intro gh σ H0 H E O Q q
  refine ⟨fun σ H Q => WA X (e :: es) σ H fun vs H1 => DefSpX X.K Pre Po vs H1 Q E0, ⟨fun pins s σ H Q I h => ?_⟩, ?_⟩
  · refine wpAny_Call_Name_kw (ld_glob I hg hm ?_ hdb)
    refine PySem.W.callWith_K (h₀ := X.base) I.ok.mod.kin hk (thn ((wa (e :: es)).run pos pins s σ H _ I h) ?_) he hpl
    rintro us s1 ⟨vs, H1, I1, r1, q1⟩
    exact ⟨I1.kIn, runG F g hb I1 r1 q1⟩
  · refine ha gh σ H0 H E O _ fun vs H1 H' ds B1 hd t o rs => ?_
    exact ⟨gh, ds, B1, H1, rs, o, hd.1, fun v H2 H'' r B2 hr t2 o2 rv => q v H2 H'' _ _ (hd.2 _ _ hr) (t.trans t2) o2 rv⟩
theorem ex_callD {x : Str} {k : Nat} {R : Rel} (c : Cal X.prog X.w X.K X.mg X.base x k R) (g : Gx k X) (ha : AX X Γ B (e :: es) fun ds B1 => ∃ r B', R ds B1 r B' ∧ Φ r B')
    (hg : Gl X x := by rfl) (hdb : (x == ("__debug__" : Str)) = false := by decide) (he : starEach (e :: es) X.env = (false, eval e X.env) :: starEach es X.env := by rfl)
    (hpl : (backTo pos (starEach es X.env)).any (·.1) = false := by rfl) : EX X Γ B (.Call (.Name x p) (e :: es) [] pos) Φ := by
  obtain ⟨f, fd, ps, F, hm, hk, hb⟩ := c
  intro gh σ H0 H E O Q q
  refine ⟨fun σ H Q => WA X (e :: es) σ H fun vs H1 => DefSp X.K R vs H1 Q E0, ⟨fun pins s σ H Q I h => ?_⟩, ?_⟩
  · refine wpAny_Call_Name_kw (ld_glob I hg hm ?_ hdb)
    refine PySem.W.callWith_K (h₀ := X.base) I.ok.mod.kin hk (thn ((wa (e :: es)).run pos pins s σ H _ I h) ?_) he hpl
    rintro us s1 ⟨vs, H1, I1, r1, q1⟩
    exact ⟨I1.kIn, runG F g hb I1 r1 q1⟩
  · refine ha gh σ H0 H E O _ fun vs H1 H' ds B1 hd t o rs => ?_
    obtain ⟨r, B2, hR, hΦ⟩ := hd
    exact ⟨gh, ds, B1, H1, r, B2, rs, o, hR, fun v H2 H'' t2 o2 rv => q v H2 H'' _ _ hΦ (t.trans t2) o2 rv⟩
theorem ex_tup {k} (h : AX X Γ B es fun ds B1 => ∃ ys : List PyData, ds = ys.map .da ∧ ys.length ≤ 1000 ∧ Φ (.tuple ys) B1) : EX X Γ B (.Tuple es k pos) Φ := fun g σ H0 H Ev O Q q =>
  ⟨_, pe_tup (wa es), h g σ H0 H Ev O _ fun vs H1 H' ds B1 hd t o rs => by
    obtain ⟨ys, rfl, hl, hΦ⟩ := hd
    have rs := RvAll.dat rs
    refine ⟨by rw [rs.length]; exact Nat.le_of_lt (small1000 hl), fun n hn => ?_⟩
    obtain ⟨t2, o2⟩ := laid (o := .tup vs) o hn
    exact q _ _ _ _ _ hΦ (t.trans t2) o2 (Rp.tup (SqT.of upd_same) (rs.mono t2.ex))⟩
theorem ex_lst (h : AX X Γ B es fun ds B1 => ∃ ys : List PyData, ds = ys.map .da ∧ ys.length ≤ 1000 ∧ Φ (.list ys) B1) : EX X Γ B (.List es pos) Φ := fun g σ H0 H Ev O Q q =>
  ⟨_, pe_lst (wa es), h g σ H0 H Ev O _ fun vs H1 H' ds B1 hd t o rs => by
    obtain ⟨ys, rfl, hl, hΦ⟩ := hd
    have rs := RvAll.dat rs
    refine ⟨by rw [rs.length]; exact Nat.le_of_lt (small1000 hl), fun n hn => ?_⟩
    obtain ⟨t2, o2⟩ := laid (o := .lst vs) o hn
    exact q _ _ _ _ _ hΦ (t.trans t2) o2 (Rp.lst upd_same (rs.mono t2.ex))⟩
theorem ex_bin {r : R2} (ha : EX X Γ B a fun y B1 => EX X Γ B1 b fun z B2 => ∃ u, Φ u B2 ∧ ∀ g v w H0 H, On X.K g B2 H0 H → Rp X.K H0 v y → Rp X.K H0 w z → ∀ Q : VK, (∀ z H0' H', To g H0 H H0' H' → On X.K g B2 H0' H' → Rp X.K H0' z u → Q z H') → r v w H Q)
    (hp : ∀ t u, PE X a t → PE X b u → PE X e (tOp r t u)) : EX X Γ B e Φ := fun g σ H0 H E O Q q =>
  ⟨_, hp _ _ (we a) (we b), ha g σ H0 H E O _ fun v H1 H' y B1 hy t o rv => hy g σ H1 H' (E.mono t.ex) o _ fun w H2 H'' z B2 hz t2 o2 rw' => by
    obtain ⟨u, hu, hr⟩ := hz
    exact hr g v w H2 H'' o2 (rv.mono t2.ex) rw' Q fun z H3 H3' t3 o3 r3 => q z H3 H3' u B2 hu ((t.trans t2).trans t3) o3 r3⟩
theorem sj_setX (i : Nat) {x : Str} (nd : X.N.Nodup) (h : EX X Γ B e fun y B1 => SJ X (Γ.set i (.da y)) B1 rest E) (hi : X.N[i]? = some x := by rfl)
    (hx : Loc X.env.scope x := by first | exact Or.inl rfl | exact Or.inr rfl) (hs : swapsWith e (some (.Name x pos')) pos.line X.env = pure false := by rfl)
    (hf : X.fn x = true ∨ X.env.scope.names.lookup x = some .local := by first | exact Or.inl rfl | exact Or.inr rfl) : SJ X Γ B (.Assign [.Name x pos'] e pos :: rest) E := fun g σ H0 H Ev O D G =>
  ⟨_, pss_cons (ps_set nd hi hx (we e) hs hf) (ws rest), h g σ H0 H Ev O _ fun v H1 H' y B1 k t o r => k g _ H1 H' ((Ev.mono t.ex).set i r) o D (G.on t)⟩
theorem sj_parX (i j : Nat) {x y : Str} {px py pt : Pos} {kt k2 pt2} (nd : X.N.Nodup) (hc : X.calm = true) (h : AX X Γ B [a, b] fun ds B1 => ∃ d1 d2, ds = [d1, d2] ∧ SJ X ((Γ.set i d1).set j d2) B1 rest E)
    (hij : i ≠ j) (hw : swappedStores [.Tuple [.Name x px, .Name y py] kt pt] (.Tuple [a, b] k2 pt2) X.env = pure (some [x, y])) (hi : X.N[i]? = some x := by rfl) (hj : X.N[j]? = some y := by rfl)
    (hx : X.env.scope.names.lookup x = some .local := by rfl) (hy : X.env.scope.names.lookup y = some .local := by rfl)
    (hsw : swapsWithSole [.Tuple [.Name x px, .Name y py] kt pt] (.Tuple [a, b] k2 pt2) pos.line X.env = pure false := by rfl) :
    SJ X Γ B (.Assign [.Tuple [.Name x px, .Name y py] kt pt] (.Tuple [a, b] k2 pt2) pos :: rest) E := fun g σ H0 H Ev O D G =>
  ⟨_, pss_cons (ps_par hc nd hi hj hij hx hy (wa [a, b]) hw hsw) (ws rest), h g σ H0 H Ev O _ fun vs H1 H' ds B1 hd t o r => by
    obtain ⟨d1, d2, rfl, k⟩ := hd
    obtain ⟨v, w, rfl, r1, r2⟩ := rv2 r
    exact ⟨v, w, rfl, k g _ H1 H' (((Ev.mono t.ex).set i r1).set j r2) o D (G.on t)⟩⟩
theorem sj_retX (h : EX X Γ B e E.rt) : SJ X Γ B (.Return (some e) pos :: rest) E := fun g σ H0 H Ev O D G =>
  ⟨_, pss_cons (ps_ret (we e)) (ws rest), h g σ H0 H Ev O _ fun v H1 H' y B1 hy t o r => G.rt _ B1 v H1 H' hy t o r⟩
end
section
variable {X : Cx} {i : Nat} {Γ : List VD} {B B1 B2 B' : Bag} {acc ds : List PyData} {e e2 a b c : Expr} {es : List Expr} {d da db : VD} {y y2 : PyData} {pos p p1 p2 p3 pos' : Pos} {rest ss s1 s2 : List Stmt} {E : EnO} {Φ : Post}
end
def RX (X : Cx) (Γ : List VD) (B : Bag) (t : TE) (Φ : Post) : Prop :=
  ∀ g σ H0 H, EnvD X.K g H0 σ Γ → On X.K g B H0 H → ∀ Q : VK, (∀ v H0' H' y B', Φ y B' → To g H0 H H0' H' → On X.K g B' H0' H' → Rp X.K H0' v y → Q v H') → t σ H Q
section
variable {X : Cx} {Γ : List VD} {B B1 B2 B' : Bag} {e a : Expr} {elt : Expr} {scope : Scope} {j : Nat} {x : Str} {px : Pos} {ds ys : List PyData} {pos pos' : Pos} {rest : List Stmt} {E : En} {Φ : Post}
end
end Gd
namespace Gd
open PySem PySem.Spec PyProof.Rows L2
section
variable {X : Cx} {Γ : List VD} {B B1 B2 B' : Bag} {e a b c : Expr} {es : List Expr} {d da db : VD} {y : PyData} {pos p pos' : Pos} {rest ss s1 s2 : List Stmt} {E : En} {Φ : Post} {Ω : List VD → Bag → Prop} {Ψ : Bool → Bag → Prop}
theorem ax_one (h : EX X Γ B e fun y B1 => Ω [.da y] B1) (hs : starEach [e] X.env = [(false, eval e X.env)] := by rfl) : AX X Γ B [e] Ω := ax_cons (ex_mono h fun y B1 hy => ax_nil hy) hs
end
end Gd
set_option exponentiation.threshold 20000
namespace Lw
open PySem PySem.Spec PyProof.Rows L2 Gd Fr
open scoped Rat
theorem lay_all {ds : List PyData} (h : ∀ d ∈ ds, d.canLay0 = true) : PyData.canLayAll0 ds = true := by
  induction ds with
  | nil => simp only [PyData.canLayAll0]
  | cons d ds ih => simp only [PyData.canLayAll0, h d List.mem_cons_self, ih fun x hx => h x (List.mem_cons_of_mem _ hx), Bool.and_self]
theorem depth_all {n : Nat} {ds : List PyData} (h : ∀ d ∈ ds, d.depth ≤ n) : PyData.depthAll ds ≤ n := by
  induction ds with
  | nil => exact Nat.zero_le _
  | cons d ds ih =>
    show max d.depth (PyData.depthAll ds) ≤ n
    exact Nat.max_le.mpr ⟨h d List.mem_cons_self, ih fun x hx => h x (List.mem_cons_of_mem _ hx)⟩
def Sh (n : Nat) (d : PyData) : Prop := d.canLay0 = true ∧ d.depth ≤ n
theorem Sh.shaped {n : Nat} {d : PyData} (h : Sh n d) (hn : n ≤ 64 := by decide) : SeqAt.shaped d = true := by
  unfold SeqAt.shaped
  rw [h.1, Bool.true_and, decide_eq_true_eq]
  exact Nat.le_trans h.2 hn
theorem Sh.lst {n : Nat} {ds : List PyData} (h : ∀ d ∈ ds, Sh n d) : Sh (n + 1) (.list ds) :=
  ⟨by simp only [PyData.canLay0]; exact lay_all fun d hd => (h d hd).1, by show PyData.depthAll ds + 1 ≤ n + 1; have := depth_all fun d hd => (h d hd).2; omega⟩
theorem Sh.tup {n : Nat} {ds : List PyData} (h : ∀ d ∈ ds, Sh n d) : Sh (n + 1) (.tuple ds) :=
  ⟨by simp only [PyData.canLay0]; exact lay_all fun d hd => (h d hd).1, by show PyData.depthAll ds + 1 ≤ n + 1; have := depth_all fun d hd => (h d hd).2; omega⟩
theorem Sh.int (i : Int) : Sh 0 (.int i) := ⟨by simp only [PyData.canLay0], Nat.le_refl _⟩
theorem Sh.str {x : Str} (h : PyData.strOk x = true) : Sh 0 (.str x) := ⟨by simp only [PyData.canLay0]; exact h, Nat.le_refl _⟩
theorem Sh.mono {n m : Nat} {d : PyData} (h : Sh n d) (e : n ≤ m) : Sh m d := ⟨h.1, Nat.le_trans h.2 e⟩
inductive Te where
  | nan
  | inf (s : Int)
  | x (q : Rat) (s : Int)
def Te.d : Te → PyData
  | .nan => .tuple [.str "nan"]
  | .inf s => .tuple [.str "inf", .int s]
  | .x q s => .tuple [.str "x", fq q, .int s]
def Te.isNan : Te → Bool
  | .nan => true
  | _ => false
def Te.sg : Te → Int
  | .nan => 0
  | .inf s => s
  | .x _ s => s
def Te.q : Te → Rat
  | .x q _ => q
  | _ => 0
end Lw
namespace Lw
open PySem PySem.Spec PyProof.Rows L2 Gd Fr
end Lw
set_option exponentiation.threshold 20000
namespace Lw
open PySem PySem.Spec PyProof.Rows L2 Gd Fr
open scoped Rat
theorem F4.inj {t u : F4} (h : t.d = u.d) : t = u := by
  obtain ⟨a, b, c, d⟩ := t
  obtain ⟨a', b', c', d'⟩ := u
  have h : fmP a b c d = fmP a' b' c' d' := h
  unfold fmP at h
  injection h with h
  injection h with h1 h
  injection h with h2 h
  injection h with h3 h
  injection h with h4 h
  injection h1 with h1
  injection h2 with h2
  injection h3 with h3
  injection h4 with h4
  have h1 : a = a' := by omega
  have h2 : b = b' := by omega
  subst h1; subst h2; subst h3; subst h4; rfl
section
variable {b p : Nat} {low high : Int} (F : Fm b p low high)
include F
end
end Lw
namespace Lw
open Gd
end Lw
set_option exponentiation.threshold 20000
namespace Lw
open PySem PySem.Spec PyProof.Rows L2 Gd Fr
open scoped Rat
end Lw
set_option exponentiation.threshold 20000
namespace Lw
open PySem PySem.Spec PyProof PyProof.Rows L2 Gd Fr
open scoped Rat
theorem big_lt {b D t P : Nat} (h2 : 2 ≤ b) (hD : 1 ≤ D) (h : (b ^ D - 1) * b ^ t < b ^ P) : D + t ≤ P := by
  refine Nat.not_lt.mp fun hn => ?_
  have h1 : b ^ P ≤ b ^ (D - 1 + t) := Nat.pow_le_pow_right (by omega) (by omega)
  have h3 : b ^ (D - 1) ≤ b ^ D - 1 := by
    have e : b ^ D = b ^ (D - 1) * b := by rw [← Nat.pow_succ]; exact congrArg (b ^ ·) (by omega)
    have p : 0 < b ^ (D - 1) := Nat.pow_pos (by omega)
    have := Nat.mul_le_mul_left (b ^ (D - 1)) h2
    omega
  have h4 : b ^ (D - 1) * b ^ t ≤ (b ^ D - 1) * b ^ t := Nat.mul_le_mul_right _ h3
  rw [← Nat.pow_add] at h4
  omega
end Lw
namespace Gd
open PySem PySem.Spec PyProof.Rows L2
section
variable {X : Cx} {Γ : List VD} {B B1 B2 : Bag} {e c elt : Expr} {scope : Scope} {acc : List PyData} {pos pos' : Pos} {rest : List Stmt} {E : En} {d : VD}
end
end Gd
set_option exponentiation.threshold 20000
namespace Lw
open PySem PySem.Spec PyProof.Rows L2 Gd Fr
open scoped Rat
inductive R_timesW : Rel
  | mk (n d m c : Nat) (x y : Rat) (B : Bag) (hx : Qz n d x) (hy : Qz m c y) (h1 : n ≤ 90000) (h2 : m ≤ 90000) (h3 : d ≤ 8900) (h4 : c ≤ 8900) : R_timesW [.da (fq x), .da (fq y)] B (fq (x * y)) B
end Lw
namespace Lw
open PySem PySem.Spec PyProof.Rows L2 Gd Fr
open scoped Rat
end Lw
namespace Gd
open PySem PySem.Spec PyProof.Rows L2
section
variable {X : Cx} {Γ : List VD} {B B1 B2 : Bag} {e c elt : Expr} {scope : Scope} {acc : List PyData} {pos pos' : Pos} {rest : List Stmt} {E : En} {d : VD} {Φ : Post}
end
end Gd
set_option exponentiation.threshold 20000
namespace Lw
open PySem PySem.Spec PyProof.Rows L2 Gd Fr
open scoped Rat
end Lw
set_option exponentiation.threshold 20000
namespace Lw
open PySem PySem.Spec PyProof.Rows L2 Gd Fr
open scoped Rat
def Fl (fl : List Str) : Prop := fl = [] ∨ fl = (["invalid"] : List Str) ∨ fl = (["inexact", "over"] : List Str) ∨ fl = (["inexact", "tiny"] : List Str) ∨ fl = (["inexact"] : List Str)
theorem Fl.eqv {fl : List Str} (h : Fl fl) : PyData.eqv (words fl) (.tuple []) = decide (fl = []) := by
  rcases h with rfl | rfl | rfl | rfl | rfl <;> rfl
end Lw
namespace Gd
open PySem PySem.Spec PyProof.Rows L2
section
variable {prog : Program} {w : World} {A : Around} {E : Value → Shared → Prop} {s : Shared}
end
section
variable {X : Cx} {Γ : List VD} {B B1 B2 : Bag} {a b c e : Expr} {pos p pos' : Pos} {rest s1 : List Stmt} {E : En}
end
end Gd
namespace Gd
open PySem PySem.Spec PyProof.Rows L2
section
variable {X : Cx} {Γ : List VD} {B B1 B2 B3 B' : Bag} {e a b c : Expr} {es : List Expr} {d da db dc : VD} {pos p pos' apos p1 p2 p3 : Pos} {rest ss s1 s2 : List Stmt} {E : En}
theorem wj_orT {x : Expr} (h : TJ X Γ B e true B1) : WJ X Γ B (.BoolOp .Or (e :: x :: es) pos) true B1 := fun g σ H0 H E O Q q =>
  ⟨_, pw_or (wt e) (ww _), h g σ H0 H E O _ fun H1 H' t o => iteT (q H1 H' t o)⟩
end
end Gd
set_option exponentiation.threshold 20000
namespace Lw
open PySem PySem.Spec PyProof.Rows L2 Gd Fr
open scoped Rat
inductive Sp where
  | none
  | span (u v : Va)
def Sp.d : Sp → PyData
  | .none => .tuple [.str "none"]
  | .span u v => .tuple [.str "span", u.d, v.d]
def Sp.ok (b p : Nat) (low high : Int) : Sp → Prop
  | .none => True
  | .span u v => (Vcan b p low high u ∧ u.isNan = false) ∧ Vcan b p low high v ∧ v.isNan = false
def apI (b p : Nat) (low high : Int) : Sp → Int
  | .none => 0
  | .span u v => rkI b p low high v - rkI b p low high u
inductive Wd (b p : Nat) (low high : Int) (L : List Sp) : PyData → Prop
  | none (h : ∀ s ∈ L, apI b p low high s < 2) : Wd b p low high L .none
  | some (i : Nat) (x : Sp) (hi : L[i]? = .some x) (h2 : 2 ≤ apI b p low high x) (h3 : ∀ s ∈ L, apI b p low high s ≤ apI b p low high x) (h4 : ∀ j y, j < i → L[j]? = .some y → apI b p low high y < apI b p low high x) : Wd b p low high L (.int (i : Nat))
theorem Wd.one {b p : Nat} {low high : Int} {L : List Sp} {d e : PyData} (h : Wd b p low high L d) (h' : Wd b p low high L e) : d = e := by
  cases h with
  | none h =>
    cases h' with
    | none _ => rfl
    | some i x hi h2 _ _ => have := h x (List.mem_of_getElem? hi); omega
  | some i x hi h2 h3 h4 =>
    cases h' with
    | none h => have := h x (List.mem_of_getElem? hi); omega
    | some j y hj g2 g3 g4 =>
      have a1 := h3 y (List.mem_of_getElem? hj)
      have a2 := g3 x (List.mem_of_getElem? hi)
      rcases Nat.lt_trichotomy i j with z | z | z
      · have := g4 i x z hi; omega
      · rw [z]
      · have := h4 j y z hj; omega
noncomputable def wdP (b p : Nat) (low high : Int) (L : List Sp) : PyData := by
  classical exact if h : ∃ d, Wd b p low high L d then h.choose else .none
theorem Wd.is {b p : Nat} {low high : Int} {L : List Sp} {d : PyData} (h : Wd b p low high L d) : wdP b p low high L = d := by
  have hx : ∃ d, Wd b p low high L d := ⟨d, h⟩
  unfold wdP
  rw [dif_pos hx]
  exact hx.choose_spec.one h
theorem pick_ex {α : Type} (xs : List α) (f : α → PyData) (B : Bag) (h : 0 < xs.length) : ∃ x ∈ xs, pick (xs.map f) B = f x := by
  have h0 := tkV_ge B (m := (xs.map f).length) (by rw [List.length_map]; omega)
  have h1 := tkV_lt B (m := (xs.map f).length) (by rw [List.length_map]; omega)
  have hlt : (tkV B (xs.map f).length).toNat < xs.length := by rw [List.length_map] at h1 ⊢; rw [List.length_map] at h0; omega
  refine ⟨xs[(tkV B (xs.map f).length).toNat], List.getElem_mem hlt, ?_⟩
  unfold pick
  rw [List.getD_eq_getElem?_getD, List.getElem?_map, List.getElem?_eq_getElem hlt]
  rfl
end Lw
namespace PySem
end PySem
namespace Gd
open PySem PySem.Spec PyProof.Rows L2
end Gd
namespace Gd
open PySem PySem.Spec PyProof.Rows L2
end Gd
namespace Gd
open PySem PySem.Spec PyProof.Rows L2
section
variable {X : Cx} {Γ : List VD} {B B1 : Bag} {a : Expr} {p p' kp pos : Pos}
end
end Gd
set_option exponentiation.threshold 20000
namespace Lw
open PySem PySem.Spec PyProof.Rows L2 Gd Fr
open scoped Rat
def plT : Va → Int × Int × Int
  | .nan => (2, 0, 0)
  | .inf s => if s = 0 then (1, 0, 0) else (-2, 0, 0)
  | .num s c e => if s = 0 then (0, e, c) else (-1, -e, -c)
def t3 (x : Int × Int × Int) : PyData := .tuple [.int x.1, .int x.2.1, .int x.2.2]
end Lw
set_option exponentiation.threshold 20000
namespace Lw
open PySem PySem.Spec PyProof.Rows L2 Gd Fr
open scoped Rat
section
variable {b p : Nat} {low high : Int} (F : Fm b p low high)
include F
end
section
variable {b p : Nat} {low high : Int} (F : Fm b p low high)
include F
end
end Lw
set_option exponentiation.threshold 20000
namespace Gd
open PySem PySem.Spec PyProof.Rows L2
section
variable {X : Cx} {Γ : List VD} {B B1 B2 B' : Bag} {e a b c : Expr} {pos : Pos}
end
end Gd
set_option exponentiation.threshold 20000
namespace Lw
open PySem PySem.Spec PyProof.Rows L2 Gd Fr
open scoped Rat
def lex3 (x y : Int × Int × Int) : Prop := x.1 < y.1 ∨ (x.1 = y.1 ∧ (x.2.1 < y.2.1 ∨ (x.2.1 = y.2.1 ∧ x.2.2 < y.2.2)))
instance (x y : Int × Int × Int) : Decidable (lex3 x y) := by unfold lex3; infer_instance
theorem lex3_asym {x y : Int × Int × Int} (h : lex3 x y) : ¬ lex3 y x := by unfold lex3 at *; omega
section
variable {b p : Nat} {low high : Int} (F : Fm b p low high)
include F
end
section
variable {b p : Nat} {low high : Int} (F : Fm b p low high)
include F
end
end Lw
namespace Lw
open PySem PySem.Spec PyProof.Rows L2 Gd Fr
end Lw
namespace Lw
open PySem PySem.Spec PyProof.Rows L2 Gd Fr
end Lw
namespace Lw
open PySem PySem.Spec PyProof.Rows L2 Gd Fr
end Lw
namespace Lw
open PySem PySem.Spec PyProof.Rows L2 Gd Fr
open scoped Rat
end Lw
namespace Lw
open PySem PySem.Spec PyProof.Rows L2 Gd Fr
open scoped Rat
end Lw
namespace Lw
open PySem PySem.Spec PyProof.Rows L2 Gd Fr
end Lw
set_option exponentiation.threshold 20000
namespace Gd
open PySem PySem.Spec PyProof.Rows L2
section
variable {X : Cx} {Γ : List VD} {B B1 B2 B' : Bag} {e a b c : Expr} {pos p : Pos}
end
end Gd
set_option exponentiation.threshold 20000
namespace Lw
open PySem PySem.Spec PyProof.Rows L2 Gd Fr
open scoped Rat
section
variable {b p : Nat} (h2 : 2 ≤ b)
include h2
end
section
variable {b p : Nat} (h2 : 2 ≤ b)
include h2
end
end Lw
set_option exponentiation.threshold 20000
namespace Lw
open PySem PySem.Spec PyProof.Rows L2 Gd Fr
open scoped Rat
structure RtOk (b : Nat) (low : Int) (q : Rat) (n d : Nat) : Prop where
  h0 : 0 < q
  hq : Qz n d q
  hn : n ≤ 8800
  hd : d ≤ 8800
  hL : q.den * b ^ (2 * low).toNat < 2 ^ 8800
section
variable {b p : Nat} {low high : Int} (F : Fm b p low high)
include F
end
end Lw
set_option exponentiation.threshold 20000
namespace Lw
open PySem PySem.Spec PyProof.Rows L2 Gd Fr
open scoped Rat
section
variable {b : Nat} (h2 : 2 ≤ b)
include h2
end
end Lw
set_option exponentiation.threshold 20000
namespace Lw
open PySem PySem.Spec PyProof.Rows L2 Gd Fr
open scoped Rat
section
variable {b p : Nat} {low high : Int} (F : Fm b p low high)
include F
end
section
variable (b p : Nat) (low high : Int)
end
end Lw
set_option exponentiation.threshold 20000
namespace Gd
open PySem PySem.Spec PyProof.Rows L2
section
variable {X : Cx} {Γ : List VD} {B B1 B2 B' : Bag} {e a b c : Expr} {pos p : Pos} {rest s1 : List Stmt} {E : En} {Φ : Post}
end
end Gd
set_option exponentiation.threshold 20000
namespace Lw
open PySem PySem.Spec PyProof.Rows L2 Gd Fr
open scoped Rat
end Lw
namespace Lw
open PySem PySem.Spec PyProof.Rows L2 Gd Fr
open scoped Rat
end Lw
namespace Lw
open PySem PySem.Spec PyProof.Rows L2 Gd Fr
open scoped Rat
end Lw
set_option exponentiation.threshold 20000
namespace Lw
open PySem PySem.Spec PyProof.Rows L2 Gd Fr
open scoped Rat
structure Sz (b p : Nat) (low high : Int) (P H J : Nat) : Prop where
  hP : b ^ p < 2 ^ P
  hH : b ^ high.toNat < 2 ^ H
  hL : b ^ (-low).toNat < 2 ^ J
  pj : P + H ≤ J
  p1 : 1 ≤ P
  h1 : 1 ≤ H
section
variable {b p : Nat} {low high : Int} {P H J : Nat} (F : Fm b p low high) (Z : Sz b p low high P H J)
include F Z
theorem Sz.pw {e : Int} (h : low ≤ e) (h' : e ≤ high) : Qz H J (pw b e) := by
  have b2 := F.b2
  refine pw_bd b2 ?_ ?_ Z.h1 (by have := Z.pj; have := Z.p1; omega)
  · exact Nat.lt_of_le_of_lt (Nat.pow_le_pow_right (by omega) (by omega)) Z.hH
  · exact Nat.lt_of_le_of_lt (Nat.pow_le_pow_right (by omega) (by omega)) Z.hL
theorem Sz.c {c : Int} (h0 : 0 ≤ c) (h1 : c < ((b ^ p : Nat) : Int)) : Qz P 1 (c : Rat) := by
  have := Z.hP
  exact ⟨by rw [Rat.num_intCast]; unfold Bd; omega, by rw [Rat.den_intCast]; unfold Bd; decide⟩
theorem Sz.half {q : Rat} (h0 : 0 ≤ q) (hq : Qz (J + 540) (J + 540) q) : Qz (P + 2 + (J + 540)) (2 + J) (((2 * cQ b (eQ b p low q) q + 1 : Int) : Rat) / 2 * Lw.pw b (eQ b p low q)) := by
  have b2 := F.b2
  have pj := Z.pj; have p1 := Z.p1; have z1 := Z.h1
  have hE := eQ_is (p := p) b2 low q
  have c0 := c_ge b2 h0 (eQ b p low q)
  have c1 := c_lt b2 hE
  have ebd := F.e_bd hq h0 hE
  have el := hE.1
  generalize eQ b p low q = e at *
  have hu : Qz (J + 540) J (Lw.pw b e) := by
    refine pw_bd b2 ?_ ?_ (by omega) (by omega)
    · have h3 : 2 ^ H ≤ 2 ^ (J + 540) := Nat.pow_le_pow_right (by decide) (by omega)
      rcases ebd with ⟨h, _, _⟩ | h | h
      · exact Nat.lt_of_le_of_lt (Nat.le_mul_of_pos_left _ q.den_pos) h
      · have : e.toNat = 0 := by omega
        rw [this, Nat.pow_zero]; exact Nat.one_lt_two_pow (by omega)
      · have h5 : b ^ e.toNat ≤ b ^ high.toNat := Nat.pow_le_pow_right (by omega) (by have := F.lh; omega)
        have := Z.hH
        omega
    · exact Nat.lt_of_le_of_lt (Nat.pow_le_pow_right (by omega) (by omega)) Z.hL
  have hc : Qz (P + 2) 1 ((2 * cQ b e q + 1 : Int) : Rat) := by
    have := Z.hP
    have e4 : 2 ^ (P + 2) = 2 ^ P * 4 := by rw [Nat.pow_add]
    exact ⟨by rw [Rat.num_intCast]; unfold Bd; omega, by rw [Rat.den_intCast]; unfold Bd; decide⟩
  have h2 : Qz 2 1 (2 : Rat) := ⟨by unfold Bd; decide, by unfold Bd; decide⟩
  have h2' : Qz (P + 2) 2 (((2 * cQ b e q + 1 : Int) : Rat) / 2) := by
    rw [Rat.div_def]
    have hi : Qz 1 2 ((2 : Rat)⁻¹) := ⟨by unfold Bd; decide +kernel, by unfold Bd; decide +kernel⟩
    have e1 : ((2 * cQ b e q + 1 : Int) : Rat) * (2 : Rat)⁻¹ = (2 * cQ b e q + 1) /. 2 := by rw [← Rat.div_def, Rat.divInt_eq_div]; rfl
    rw [e1]
    have hn : Bd (P + 2) (2 * cQ b e q + 1) := by have := hc.nu; rwa [Rat.num_intCast] at this
    obtain ⟨z1, z2⟩ := divInt_bd (n := 2 * cQ b e q + 1) (d := 2) (by decide) hn (b := 2) (by unfold Bd; decide)
    exact ⟨z1, z2⟩
  exact (h2'.mul hu).le (by omega) (by omega)
end
end Lw
set_option exponentiation.threshold 20000
namespace Gd
open PySem PySem.Spec PyProof.Rows L2
section
variable {X : Cx} {Γ : List VD} {B B1 B2 B' : Bag} {e a b c : Expr} {pos : Pos}
end
end Gd
set_option exponentiation.threshold 20000
namespace Lw
open PySem PySem.Spec PyProof.Rows L2 Gd Fr
open scoped Rat
section
variable {X : Cx} {Γ : List VD} {B B1 B2 B' : Bag} {e a b c : Expr} {pos : Pos} {x y : Int × Int × Int}
end
def plc (v : Va) : Prop := v.isZ = true → v.sg = 0
def Sp.gd (b : Nat) : Sp → Prop
  | .none => True
  | .span u v => plc u ∧ plc v ∧ u ≠ .inf 0 ∧ v ≠ .inf 1 ∧ ¬ lex3 (plT v) (plT u)
def Sp.ok2 (b p : Nat) (low high : Int) (s : Sp) : Prop := s.ok b p low high ∧ s.gd b
end Lw
namespace Lw
open PySem PySem.Spec PyProof.Rows L2 Gd Fr
open scoped Rat
def liesB : Sp → Sp → Bool
  | .none, _ => true
  | _, .none => false
  | .span a b, .span c d => !decide (lex3 (plT a) (plT c)) && !decide (lex3 (plT d) (plT b))
section
variable {b p : Nat} {low high : Int} (F : Fm b p low high)
theorem Sp.u2 {u v : Va} (h : (Sp.span u v).ok2 b p low high) : Vcan b p low high u ∧ u.isNan = false ∧ plc u := ⟨h.1.1.1, h.1.1.2, h.2.1⟩
theorem Sp.v2 {u v : Va} (h : (Sp.span u v).ok2 b p low high) : Vcan b p low high v ∧ v.isNan = false ∧ plc v := ⟨h.1.2.1, h.1.2.2, h.2.2.1⟩
include F
omit F in
theorem lex3_trans {x y z : Int × Int × Int} (h1 : ¬ lex3 y x) (h2 : ¬ lex3 z y) : ¬ lex3 z x := by unfold lex3 at *; omega
end
section
variable {b p : Nat} {low high : Int} (F : Fm b p low high)
include F
end
end Lw
set_option exponentiation.threshold 20000
namespace Lw
open PySem PySem.Spec PyProof.Rows L2 Gd Fr
open scoped Rat
section
variable {b p : Nat} {low high : Int} (F : Fm b p low high)
include F
end
end Lw
namespace Lw
open PySem PySem.Spec PyProof.Rows L2 Gd Fr
open scoped Rat
end Lw
set_option exponentiation.threshold 20000
namespace Lw
open PySem PySem.Spec PyProof.Rows L2 Gd Fr
open scoped Rat
theorem lex_irr (x : Int × Int × Int) : ¬ lex3 x x := fun h => lex3_asym h h
def Cm (N k : Nat) (x : Rat) : Prop := ∃ m : Int, x * ((N : Int) : Rat) = (m : Rat) ∧ Bd k m
theorem Cm.add {N k j : Nat} {x y : Rat} (h : Cm N k x) (h' : Cm N j y) : Cm N (k + j + 1) (x + y) := by
  obtain ⟨m, e, b⟩ := h
  obtain ⟨m', e', b'⟩ := h'
  exact ⟨m + m', by rw [Rat.intCast_add, ← e, ← e']; grind, b.add b'⟩
theorem Cm.neg {N k : Nat} {x : Rat} (h : Cm N k x) : Cm N k (-x) := by
  obtain ⟨m, e, b⟩ := h
  exact ⟨-m, by rw [Rat.intCast_neg, ← e]; grind, b.neg⟩
theorem Cm.le {N k j : Nat} {x : Rat} (h : Cm N k x) (e : k ≤ j) : Cm N j x := by
  obtain ⟨m, e1, b⟩ := h
  exact ⟨m, e1, b.le e⟩
theorem Cm.more {N k j : Nat} {x : Rat} (M : Nat) (hM : M < 2 ^ j) (h : Cm N k x) : Cm (M * N) (j + k) x := by
  obtain ⟨m, e1, b⟩ := h
  exact ⟨(M : Int) * m, by rw [Int.natCast_mul, Rat.intCast_mul, Rat.intCast_mul, ← e1]; grind, (Bd.nat hM).mul b⟩
theorem Cm.qz {N k d : Nat} {x : Rat} (h : Cm N k x) (hN : 0 < N) (hd : N < 2 ^ d) : Qz k d x := by
  obtain ⟨m, e, b⟩ := h
  rw [Rat.intCast_natCast] at e
  have h1 := den_le hN e
  refine ⟨?_, Bd.nat (Nat.lt_of_le_of_lt h1 hd)⟩
  have e2 : x.num * (N : Int) = m * (x.den : Int) := by
    rw [← Rat.intCast_inj, Rat.intCast_mul, Rat.intCast_mul, ← e, ← num_den x, Rat.intCast_natCast, Rat.intCast_natCast]; grind
  have e3 : x.num.natAbs * N = m.natAbs * x.den := by
    have := congrArg Int.natAbs e2
    rwa [Int.natAbs_mul, Int.natAbs_mul, Int.natAbs_natCast, Int.natAbs_natCast] at this
  have h3 : m.natAbs * x.den ≤ m.natAbs * N := Nat.mul_le_mul_left _ h1
  have h4 : x.num.natAbs ≤ m.natAbs := by
    rw [← e3] at h3
    exact Nat.le_of_mul_le_mul_right h3 hN
  unfold Bd at *
  omega
end Lw
set_option exponentiation.threshold 20000
namespace Gd
open PySem PySem.Spec PyProof.Rows L2
section
variable {X : Cx} {Γ : List VD} {B B1 B2 B' : Bag} {e a b c : Expr} {pos p : Pos} {Φ : Post}
theorem ex_catL (ha : EX X Γ B a fun y B1 => EX X Γ B1 b fun z B2 => ∃ ds es, y = .list ds ∧ z = .list es ∧ ds.length + es.length ≤ 1000 ∧ Φ (.list (ds ++ es)) B2) : EX X Γ B (.BinOp a .Add b pos) Φ :=
  ex_bin (ex_mono ha fun y B1 hy => ex_mono hy fun z B2 hz => by
    obtain ⟨ds, es, rfl, rfl, hl, hΦ⟩ := hz
    refine ⟨.list (ds ++ es), hΦ, fun g v w H0 H O r1 r2 Q q => ?_⟩
    obtain ⟨pa, xs, rfl, hx, rs⟩ := rvL (g := g) r1
    obtain ⟨pb, ys, rfl, hy, rt⟩ := rvL (g := g) r2
    refine ⟨pa, pb, xs, ys, rfl, rfl, O.ex _ _ hx, O.ex _ _ hy, by rw [rs.length, rt.length]; exact Nat.le_of_lt (small1000 hl), fun n hn => ?_⟩
    obtain ⟨t3, o3⟩ := laid (o := .lst (xs ++ ys)) O hn
    exact q _ _ _ t3 o3 (Rp.lst upd_same ((rs.app rt).mono t3.ex))) (fun _ _ h1 h2 => pe_op op_cat h1 h2)
end
end Gd
set_option exponentiation.threshold 20000
namespace Lw
open PySem PySem.Spec PyProof.Rows L2 Gd Fr
open scoped Rat
section
variable {b p : Nat} {low high : Int} (F : Fm b p low high)
include F
end
end Lw
set_option exponentiation.threshold 20000
namespace Lw
open PySem PySem.Spec PyProof.Rows L2 Gd Fr
open scoped Rat
inductive Xe | lo | hi | q (r : Rat)
deriving DecidableEq
namespace Xe
def d : Xe → PyData
  | .lo => .tuple [.int (-1), .int 0]
  | .hi => .tuple [.int 1, .int 0]
  | .q r => fq r
def n : Xe → Int
  | .lo => -1
  | .hi => 1
  | .q r => r.num
def e : Xe → Int
  | .q r => (r.den : Int)
  | _ => 0
theorem pair (x : Xe) : x.d = .tuple [.int x.n, .int x.e] := by cases x <;> rfl
def bd (n d : Nat) : Xe → Prop
  | .q r => Qz n d r
  | _ => True
def lt : Xe → Xe → Bool
  | .q a, .q b => decide (a < b)
  | .lo, .lo => false
  | .lo, _ => true
  | .q _, .hi => true
  | _, _ => false
def add : Xe → Xe → Xe
  | .q a, .q b => .q (a + b)
  | .q _, y => y
  | x, _ => x
def neg : Xe → Xe
  | .lo => .hi
  | .hi => .lo
  | .q a => .q (-a)
def mul (x y : Xe) : Xe :=
  if x.n = 0 ∨ y.n = 0 then .q 0 else match x, y with
    | .q a, .q b => .q (a * b)
    | _, _ => if decide (0 < x.n) = decide (0 < y.n) then .hi else .lo
def min (x y : Xe) : Xe := if y.lt x = true then y else x
def max (x y : Xe) : Xe := if x.lt y = true then y else x
theorem eqs (x y : Xe) : (decide (x.n = y.n) && decide (x.e = y.e)) = true ↔ x = y := by
  rw [Bool.and_eq_true, decide_eq_true_eq, decide_eq_true_eq]
  refine ⟨fun ⟨h1, h2⟩ => ?_, fun h => by rw [h]; exact ⟨rfl, rfl⟩⟩
  cases x with
  | q a =>
    have da : ¬ (a.den : Int) = 0 := den_ne a
    cases y with
    | q b =>
      have h1 : a.num = b.num := h1
      have h2 : (a.den : Int) = (b.den : Int) := h2
      congr 1
      exact Rat.ext h1 (by omega)
    | lo => exact absurd h2 da
    | hi => exact absurd h2 da
  | lo =>
    cases y with
    | q b => exact absurd h2.symm (den_ne b)
    | lo => rfl
    | hi => exact absurd h1 (by decide)
  | hi =>
    cases y with
    | q b => exact absurd h2.symm (den_ne b)
    | hi => rfl
    | lo => exact absurd h1 (by decide)
theorem eqv (x y : Xe) : PyData.eqv x.d y.d = true ↔ x = y := by rw [pair x, pair y, eqv_ii]; exact eqs x y
theorem irr (x : Xe) : x.lt x = false := by
  cases x with
  | q a => exact decide_eq_false (by grind)
  | _ => rfl
theorem asym {x y : Xe} (h : x.lt y = true) : y.lt x = false := by
  cases x <;> cases y <;> simp_all [lt] <;> grind
theorem tot {x y : Xe} (h : x.lt y = false) (h2 : y.lt x = false) : x = y := by
  cases x <;> cases y <;> simp_all [lt] <;> grind
theorem trans {x y z : Xe} (h : x.lt y = true) (h2 : y.lt z = true) : x.lt z = true := by
  cases x <;> cases y <;> cases z <;> simp_all [lt] <;> grind
def of (b : Nat) : Va → Xe
  | .inf s => if s = 0 then .hi else .lo
  | v => .q (v.wQ b)
end Xe
end Lw
namespace Gd
open PySem PySem.Spec PyProof.Rows L2
section
variable {X : Cx} {Γ : List VD} {B B1 : Bag} {e e1 elt : Expr} {scope : Scope} {pos pos' : Pos} {rest : List Stmt} {E : En} {d : VD}
end
end Gd
namespace Gd
open PySem PySem.Spec PyProof.Rows L2
section
variable {X : Cx} {Γ : List VD} {B B1 B2 : Bag} {e : Expr} {es : List Expr} {p pos : Pos}
end
end Gd
set_option exponentiation.threshold 20000
namespace Lw
open PySem PySem.Spec PyProof.Rows L2 Gd Fr
open scoped Rat
namespace Xe
theorem neg_lt (x y : Xe) : x.neg.lt y.neg = y.lt x := by
  cases x <;> cases y <;> simp [neg, lt] <;> grind
def cm (N k : Nat) : Xe → Prop
  | .q r => Cm N k r
  | _ => True
end Xe
end Lw
namespace Gd
open PySem PySem.Spec PyProof.Rows L2
section
variable {X : Cx} {Γ : List VD} {B B1 B2 : Bag} {i f : Expr}
end
end Gd
set_option exponentiation.threshold 20000
namespace Lw
open PySem PySem.Spec PyProof.Rows L2 Gd Fr
open scoped Rat
def opMany (w : Str) : Nat := if ("fused" : Str) = w then 3 else if ("opposite" : Str) = w then 1 else if ("size" : Str) = w then 1 else 2
theorem op_le (w : Str) : 1 ≤ opMany w ∧ opMany w ≤ 3 := by
  unfold opMany
  split
  · exact ⟨by decide, by decide⟩
  · split
    · exact ⟨by decide, by decide⟩
    · split <;> exact ⟨by decide, by decide⟩
section
variable {b p : Nat} {low high : Int} (F : Fm b p low high)
include F
end
end Lw
set_option exponentiation.threshold 20000
namespace Lw
open PySem PySem.Spec PyProof.Rows L2 Gd Fr
open scoped Rat
namespace Xe
theorem le_cases {x y : Xe} (h : y.lt x = false) : x = y ∨ x.lt y = true := by
  cases c : x.lt y with
  | true => exact .inr rfl
  | false => exact .inl (tot c h)
theorem le_trans {x y z : Xe} (h : y.lt x = false) (h2 : z.lt y = false) : z.lt x = false := by
  rcases le_cases h with rfl | a
  · exact h2
  · rcases le_cases h2 with rfl | b
    · exact h
    · exact asym (trans a b)
end Xe
section
variable {b p : Nat} {low high : Int} (F : Fm b p low high)
include F
end
section
variable {b p : Nat} {low high : Int} (F : Fm b p low high)
include F
end
end Lw
namespace Gd
open PySem PySem.Spec PyProof.Rows L2
section
variable {X : Cx} {i : Nat} {Γ : List VD} {B B1 B2 B' : Bag} {acc ds ys : List PyData} {e a b c : Expr} {es : List Expr} {d da db : VD} {y : PyData} {pos p p1 p2 p3 pos' : Pos} {rest ss s1 s2 : List Stmt} {E : EnO} {Es : En}
end
end Gd
set_option exponentiation.threshold 20000
namespace Lw
open PySem PySem.Spec PyProof.Rows L2 Gd Fr
open scoped Rat
section
variable {b p : Nat} {low high : Int} (F : Fm b p low high)
include F
end
def Xe.rt (b : Nat) (low : Int) (x : Xe) : Prop := x.e = 0 ∨ x.n ≤ 0 ∨ ∃ r, x = .q r ∧ RtOk b low r 3040 2341
end Lw
set_option exponentiation.threshold 20000
namespace Lw
open PySem PySem.Spec PyProof.Rows L2 Gd Fr
open scoped Rat
section
variable {b p : Nat} {low high : Int} (F : Fm b p low high)
include F
end
end Lw
set_option exponentiation.threshold 20000
namespace Lw
open PySem PySem.Spec PyProof.Rows L2 Gd Fr
open scoped Rat
section
variable {b p : Nat} {low high : Int} (F : Fm b p low high)
include F
end
end Lw
namespace Gd
open PySem PySem.Spec PyProof.Rows L2
section
variable {X : Cx} {Γ : List VD} {B B0 B1 B2 : Bag} {e fe i : Expr} {es : List Expr} {p pos dpos : Pos}
end
end Gd
set_option exponentiation.threshold 20000
namespace Lw
open PySem PySem.Spec PyProof.Rows L2 Gd Fr
open scoped Rat
section
variable {b p : Nat} {low high : Int} (F : Fm b p low high)
include F
end
end Lw
set_option exponentiation.threshold 20000
namespace Lw
open PySem PySem.Spec PyProof.Rows L2 Gd Fr
open scoped Rat
section
variable {b p : Nat} {low high : Int} (F : Fm b p low high)
include F
end
end Lw
set_option exponentiation.threshold 20000
namespace Lw
open PySem PySem.Spec PyProof.Rows L2 Gd Fr
open scoped Rat
section
variable {b p : Nat} {low high : Int} (F : Fm b p low high)
include F
end
end Lw
set_option exponentiation.threshold 20000
namespace Lw
open PySem PySem.Spec PyProof.Rows L2 Gd Fr
open scoped Rat
section
variable {b p : Nat} {low high : Int}
end
end Lw
namespace Gd
open PySem PySem.Spec PyProof.Rows L2
section
variable {X : Cx} {i : Nat} {Γ : List VD} {B B1 B2 B3 B' : Bag} {acc ds : List PyData} {e e2 a b c : Expr} {d da db : VD} {y y2 : PyData} {pos p p1 p2 p3 pos' px : Pos} {rest ss s1 s2 : List Stmt} {E : EnO}
end
end Gd
namespace Gd
open PySem PySem.Spec PyProof.Rows L2
section
variable {X : Cx} {Γ : List VD} {B B1 B2 : Bag} {i f : Expr}
end
end Gd
namespace Gd
open PySem PySem.Spec PyProof.Rows L2
section
variable {X : Cx} {Γ : List VD} {B B1 B2 : Bag} {a b : Expr} {pos : Pos}
end
end Gd
set_option exponentiation.threshold 20000
namespace Lw
open PySem PySem.Spec PyProof.Rows L2 Gd Fr
open scoped Rat
section
variable {b p : Nat} {low high : Int}
end
end Lw
set_option exponentiation.threshold 20000
namespace Lw
open PySem PySem.Spec PyProof.Rows L2 Gd Fr
open scoped Rat
end Lw
namespace Gd
open PySem PySem.Spec PyProof.Rows L2
section
variable {X : Cx} {Γ : List VD} {B B1 B2 : Bag} {e1 e2 e3 e4 i : Expr} {pos dpos : Pos}
end
section
variable {X : Cx} {Γ : List VD} {B B1 B2 B' : Bag} {e a b c elt : Expr} {scope : Scope} {j : Nat} {x : Str} {px : Pos} {ds ys acc : List PyData} {pos pos' p : Pos} {rest : List Stmt} {E : EnO} {d : VD} {y y1 : PyData}
variable {i : Nat}
end
end Gd
set_option exponentiation.threshold 20000
namespace Lw
open PySem PySem.Spec PyProof.Rows L2 Gd Fr
open scoped Rat
inductive Stp where
  | input (i : Nat)
  | told (q : Rat)
  | op (w : Str) (is : List Nat)
def Stp.d : Stp → PyData
  | .input i => .tuple [.str "input", .int (i : Nat)]
  | .told q => .tuple [.str "told", fq q]
  | .op w is => .tuple (.str w :: is.map fun i => PyData.int (i : Nat))
def pgWords : List Str := ["add", "take", "if", "least", "greatest", "opposite", "size", "times", "by", "fused", "root"]
def arity (w : Str) : Nat := if ("fused" : Str) = w then 3 else if ("if" : Str) = w then 4 else if ("opposite" : Str) = w then 1 else if ("size" : Str) = w then 1 else if ("root" : Str) = w then 1 else 2
def Stp.ok (many k : Nat) : Stp → Prop
  | .input i => i < many
  | .told q => Qz 11 5 q
  | .op w is => w ∈ pgWords ∧ is.length = arity w ∧ ∀ i ∈ is, i < k
abbrev SB := Sp × Bool
namespace Xe
end Xe
section
variable {b p : Nat} {low high : Int} (F : Fm b p low high)
include F
end
end Lw
namespace Gd
open PySem PySem.Spec PyProof.Rows L2
section
variable {X : Cx} {i : Nat} {Γ : List VD} {B B1 B2 B' : Bag} {acc ds dd : List PyData} {e c : Expr} {es : List Expr} {d : VD} {y : PyData} {pos p p1 p2 p3 pos' : Pos} {rest ss s1 s2 : List Stmt}
variable {E : EnO}
end
end Gd
namespace Gd
open PySem PySem.Spec PyProof.Rows L2
section
variable {X : Cx} {Γ : List VD} {B B1 B2 B' : Bag} {e a b c elt : Expr} {scope : Scope} {j : Nat} {x : Str} {px : Pos}
end
end Gd
namespace Gd
open PySem PySem.Spec PyProof.Rows L2
section
variable {X : Cx} {i : Nat} {Γ : List VD} {B B1 B2 B' : Bag} {acc ds : List PyData} {e a b c : Expr} {es : List Expr} {d : VD} {y : PyData} {pos p p1 p2 p3 pos' : Pos} {rest ss s1 s2 : List Stmt} {E : EnO} {Φ : List PyData → Bag → Prop}
end
end Gd
set_option exponentiation.threshold 20000
namespace Lw
open PySem PySem.Spec PyProof.Rows L2 Gd Fr
open scoped Rat
section
variable {b p : Nat} {low high : Int} (F : Fm b p low high)
include F
end
end Lw
set_option exponentiation.threshold 20000
namespace Lw
open PySem PySem.Spec PyProof.Rows L2 Gd Fr
open scoped Rat
def xle (x y : Xe) : Prop := y.lt x = false
theorem xle.refl (x : Xe) : xle x x := Xe.irr x
theorem xle.trans {x y z : Xe} (h : xle x y) (h2 : xle y z) : xle x z := Xe.le_trans h h2
theorem xle.tot (x y : Xe) : xle x y ∨ xle y x := by
  unfold xle
  cases c : y.lt x with
  | false => exact .inl rfl
  | true => exact .inr (Xe.asym c)
theorem xle.neg {x y : Xe} (h : xle x y) : xle y.neg x.neg := by unfold xle; rw [Xe.neg_lt]; exact h
end Lw
set_option exponentiation.threshold 20000
namespace Lw
open PySem PySem.Spec PyProof.Rows L2 Gd Fr
open scoped Rat
section
variable {b p : Nat} {low high : Int} (F : Fm b p low high)
include F
end
def spin (s t : Sp) : Prop := liesB s t = true
theorem spin_span {u v x y : Va} : spin (.span u v) (.span x y) ↔ ¬ lex3 (plT u) (plT x) ∧ ¬ lex3 (plT y) (plT v) := by
  show ((!decide (lex3 (plT u) (plT x))) && !decide (lex3 (plT y) (plT v))) = true ↔ _
  rw [Bool.and_eq_true, Bool.not_eq_true', Bool.not_eq_true', decide_eq_false_iff_not, decide_eq_false_iff_not]
theorem spin.refl (s : Sp) : spin s s := by
  cases s with
  | none => rfl
  | span u v => exact spin_span.mpr ⟨lex_irr _, lex_irr _⟩
theorem spin.trans {s t u : Sp} (h : spin s t) (h2 : spin t u) : spin s u := by
  cases s with
  | none => rfl
  | span a b => cases t with
    | none => cases h
    | span c d => cases u with
      | none => cases h2
      | span e f =>
        have h := spin_span.mp h; have h2 := spin_span.mp h2
        exact spin_span.mpr ⟨lex3_trans h2.1 h.1, lex3_trans h.2 h2.2⟩
section
variable {b p : Nat} {low high : Int} (F : Fm b p low high)
include F
end
end Lw
set_option exponentiation.threshold 20000
namespace Lw
open PySem PySem.Spec PyProof.Rows L2 Gd Fr
open scoped Rat
section
variable {b p : Nat} {low high : Int} (F : Fm b p low high)
include F
omit F in
def sbin (x' x : SB) : Prop := spin x'.1 x.1 ∧ (x.2 = true → x'.2 = true)
omit F in
theorem sbin.refl (x : SB) : sbin x x := ⟨spin.refl _, fun h => h⟩
omit F in
def bxin (box' box : List Sp) : Prop := box'.length = box.length ∧ ∀ (i : Nat) s s', box[i]? = some s → box'[i]? = some s' → spin s' s
end
end Lw
namespace Gd
open PySem PySem.Spec PyProof.Rows L2
section
variable {X : Cx} {Γ : List VD} {B B1 B2 B' : Bag} {e a b c elt : Expr} {scope : Scope} {j : Nat} {x : Str} {px pos : Pos} {Φ : Post}
end
end Gd
set_option exponentiation.threshold 20000
namespace Lw
open PySem PySem.Spec PyProof.Rows L2 Gd Fr
open scoped Rat
section
variable {b p : Nat} {low high : Int} (F : Fm b p low high)
include F
end
theorem bxin.refl (L : List Sp) : bxin L L := ⟨rfl, fun i s s' h h' => by rw [h] at h'; obtain rfl := Option.some.inj h'; exact spin.refl _⟩
theorem bxin.trans {L L' L'' : List Sp} (h : bxin L L') (h' : bxin L' L'') : bxin L L'' := ⟨by rw [h.1, h'.1], fun i s s' e e' => by
  have hl : i < L'.length := by rw [h'.1]; exact (List.getElem?_eq_some_iff.mp e).1
  have e2 : L'[i]? = some L'[i] := List.getElem?_eq_getElem hl
  exact (h.2 i _ _ e2 e').trans (h'.2 i _ _ e e2)⟩
end Lw
namespace Lw
open PySem PySem.Spec PyProof.Rows L2 Gd Fr
end Lw
set_option exponentiation.threshold 20000
namespace Lw
open PySem PySem.Spec PyProof.Rows L2 Gd Fr
open scoped Rat
structure Sml (b p : Nat) (low high : Int) : Prop where
  bp : b ^ p < 2 ^ 8
  bh : b ^ high.toNat < 2 ^ 11
  bl : b ^ (-low).toNat < 2 ^ 20
  nn : 0 ≤ (p : Int) + high + (-low).toNat
  bt : b ^ ((p : Int) + high + (-low).toNat).toNat < 2 ^ 17
section
variable {b p : Nat} {low high : Int} (F : Fm b p low high) (S : Sml b p low high)
include F S
end
def pt2 (x : Rat) : Xe × Xe := (.q x, .q x)
section
variable {b p : Nat} {low high : Int} (F : Fm b p low high)
include F
end
section
variable {b p : Nat} {low high : Int} (F : Fm b p low high)
include F
end
end Lw
set_option exponentiation.threshold 20000
namespace Lw
open PySem PySem.Spec PyProof.Rows L2 Gd Fr
open scoped Rat
end Lw
namespace Lw
end Lw
set_option exponentiation.threshold 20000
namespace Lw
open PySem PySem.Spec PyProof.Rows L2 Gd Fr
open scoped Rat
end Lw
set_option exponentiation.threshold 20000
namespace Lw
open PySem PySem.Spec PyProof.Rows L2 Gd Fr
open scoped Rat
section
variable {b p : Nat} {low high : Int} (F : Fm b p low high)
include F
end
end Lw
namespace Gd
open PySem PySem.Spec PyProof.Rows L2
section
variable {X : Cx} {Γ : List VD} {B B1 : Bag} {a : Expr} {p p2 p3 pos : Pos}
variable {elt e : Expr} {scope : Scope} {j : Nat} {ds : List PyData} {Φ : Post}
end
end Gd
set_option exponentiation.threshold 20000
namespace Lw
open PySem PySem.Spec PyProof.Rows L2 Gd Fr
open scoped Rat
section
variable {t : F4} (F : Fm t.1 t.2.1 t.2.2.1 t.2.2.2)
include F
end
end Lw
set_option exponentiation.threshold 20000
namespace Lw
open PySem PySem.Spec PyProof.Rows L2 Gd Fr
open scoped Rat
end Lw
namespace Lw
open PySem PySem.Spec PyProof.Rows L2 Gd Fr
open scoped Rat
end Lw
set_option exponentiation.threshold 20000
namespace Lw
open PySem PySem.Spec PyProof.Rows L2 Gd Fr
open scoped Rat
end Lw
namespace Gd
open PySem PySem.Spec PyProof.Rows L2
section
variable {X : Cx} {i : Nat} {Γ : List VD} {B : Bag} {acc : List PyData} {e : Expr} {pos : Pos} {s1 rest : List Stmt} {E : EnO}
end
end Gd
set_option exponentiation.threshold 20000
namespace Lw
open PySem PySem.Spec PyProof.Rows L2 Gd Fr
open scoped Rat
end Lw
namespace Gd
open PySem PySem.Spec PyProof.Rows L2
section
variable {X : Cx} {Γ : List VD} {B B1 B2 : Bag} {a b c e elt : Expr} {scope : Scope} {pos p pos' : Pos} {rest s1 : List Stmt} {E : En} {d : VD}
end
section
variable {X : Cx} {Γ : List VD} {B : Bag} {a b : Expr} {pos : Pos} {Φ : Post}
end
end Gd
set_option exponentiation.threshold 20000
namespace Lw
open PySem PySem.Spec PyProof.Rows L2 Gd Fr
open scoped Rat
section
variable {b p : Nat} {low high : Int} (F : Fm b p low high)
include F
end
end Lw
namespace Gd
open PySem PySem.Spec PyProof.Rows L2 RZ
section
variable {X : Cx} {Γ : List VD} {B B1 B2 B' : Bag} {a b c e e1 elt : Expr} {es : List Expr} {scope : Scope} {pos pos' p p2 p3 : Pos} {rest s1 : List Stmt} {E : En} {d : VD} {ds : List PyData} {y : PyData}
end
end Gd
set_option exponentiation.threshold 20000
namespace Lw
open PySem PySem.Spec PyProof.Rows L2 Gd Fr
open scoped Rat
section
variable {b p : Nat} {low high : Int} (F : Fm b p low high)
include F
end
section
variable {b p : Nat} {low high : Int} {L : List Stp} {s : Sp}
variable (F : Fm b p low high)
include F
end
end Lw
namespace Gd
open PySem PySem.Spec PyProof.Rows L2
def dict1 : List (PyData × PyData) → Bool
  | [(.tuple [.int i, .int j], .int n)] => decide (i.natAbs.log2 < 1920) && (decide (j.natAbs.log2 < 1920) && decide (n.natAbs.log2 < 1920))
  | _ => false
theorem dict1_inv {kvs : List (PyData × PyData)} (h : dict1 kvs = true) : ∃ i j n, kvs = [(.tuple [.int i, .int j], .int n)] ∧ i.natAbs.log2 < 1920 ∧ j.natAbs.log2 < 1920 ∧ n.natAbs.log2 < 1920 := by
  unfold dict1 at h
  split at h
  · rename_i i j n
    simp only [Bool.and_eq_true, decide_eq_true_eq] at h
    exact ⟨i, j, n, rfl, h.1, h.2.1, h.2.2⟩
  · cases h
mutual
def datB : PyData → Bool
  | .none => true
  | .bool _ => true
  | .int i => decide (i.natAbs.log2 < 1920)
  | .str x => PyData.strOk x
  | .list xs => datA xs
  | .tuple xs => datA xs
  | .dict kvs => kvs.isEmpty || dict1 kvs
def datA : List PyData → Bool
  | [] => true
  | x :: xs => datB x && datA xs
end
structure OkA (d : PyData) : Prop where
  any : datB d = true
  dp : d.depth ≤ 60
  bulk : d.bulk ≤ 5000
mutual
theorem any_show : ∀ d : PyData, datB d = true → d.showable = true ∧ d.leavesShort 1921 = true
  | .none, _ => by simp only [PyData.showable, PyData.leavesShort, and_self]
  | .bool _, _ => by simp only [PyData.showable, PyData.leavesShort, and_self]
  | .int i, h => by
    simp only [datB] at h
    exact ⟨by simp only [PyData.showable]; exact h, nice_short (.int i) (by simp only [nice]; exact h)⟩
  | .str x, h => by
    simp only [datB] at h
    exact ⟨by simp only [PyData.showable], nice_short (.str x) (by simp only [nice]; exact h)⟩
  | .list xs, h => by simp only [datB] at h; simp only [PyData.showable, PyData.leavesShort]; exact any_showA xs h
  | .tuple xs, h => by simp only [datB] at h; simp only [PyData.showable, PyData.leavesShort]; exact any_showA xs h
  | .dict kvs, h => by
    simp only [datB, Bool.or_eq_true, List.isEmpty_iff] at h
    rcases h with h | h
    · subst h
      simp only [PyData.showable, PyData.showableKv, PyData.leavesShort, PyData.leavesShortKv, and_self]
    · obtain ⟨i, j, n, rfl, h1, h2, h3⟩ := dict1_inv h
      have k : ∀ i : Int, i.natAbs.log2 < 1920 → PyData.showable (.int i) = true ∧ PyData.leavesShort 1921 (.int i) = true := fun i h =>
        ⟨by simp only [PyData.showable]; exact decide_eq_true h, nice_short (.int i) (by simp only [nice]; exact decide_eq_true h)⟩
      simp only [PyData.showable, PyData.showableAll, PyData.showableKv, PyData.leavesShort, PyData.leavesShortAll, PyData.leavesShortKv, Bool.and_eq_true, Bool.and_true]
      have k1 := k i h1
      have k2 := k j h2
      have k3 := k n h3
      simp only [PyData.showable, PyData.leavesShort] at k1 k2 k3
      simp only [k1, k2, k3, and_self]
theorem any_showA : ∀ ds : List PyData, datA ds = true → PyData.showableAll ds = true ∧ PyData.leavesShortAll 1921 ds = true
  | [], _ => by simp only [PyData.showableAll, PyData.leavesShortAll, and_self]
  | x :: xs, h => by
    simp only [datA, Bool.and_eq_true] at h
    simp only [PyData.showableAll, PyData.leavesShortAll, Bool.and_eq_true]
    exact ⟨⟨(any_show x h.1).1, (any_showA xs h.2).1⟩, (any_show x h.1).2, (any_showA xs h.2).2⟩
end
theorem OkA.len {d : PyData} (h : OkA d) : d.shown.length ≤ sizeLine := by
  have h1 := PyData.shown_le_bulk 1921 (by decide) d (any_show d h.any).2
  have h2 := h.bulk
  rw [show sizeLine = 16777216 from by decide]
  omega
theorem Rp.dict1 {K : PySem.W.Frag} {H : Hp} {v : V} {i j n : Int} (h : Rp K H v (.dict [(.tuple [.int i, .int j], .int n)])) : ∃ a, v = .ref a ∧ H a = some (.dT [([.inl i, .inl j], V.int n)]) := by
  generalize hd : PyData.dict [(.tuple [.int i, .int j], .int n)] = d at h
  cases h with
  | non => cases hd
  | bl b => cases hd
  | int i => cases hd
  | str x => cases hd
  | lst _ _ => cases hd
  | tup _ _ => cases hd
  | dct h => cases hd
  | dctT kvs h =>
    injection hd with hd
    cases kvs with
    | nil => cases hd
    | cons p r =>
      obtain ⟨k, m⟩ := p
      cases r with
      | cons q r => simp only [List.map_cons, List.cons.injEq] at hd; obtain ⟨_, hd⟩ := hd; cases hd
      | nil =>
        simp only [List.map_cons, List.map_nil, List.cons.injEq, Prod.mk.injEq, PyData.tuple.injEq, PyData.int.injEq, and_true] at hd
        obtain ⟨hk, rfl⟩ := hd
        cases k with
        | nil => cases hk
        | cons x k =>
          cases k with
          | nil => simp only [List.map_cons, List.map_nil, List.cons.injEq] at hk; obtain ⟨_, hk⟩ := hk; cases hk
          | cons y k =>
            cases k with
            | cons z k => simp only [List.map_cons, List.cons.injEq] at hk; obtain ⟨_, _, hk⟩ := hk; cases hk
            | nil =>
              simp only [List.map_cons, List.map_nil, List.cons.injEq, PyData.int.injEq, and_true] at hk
              obtain ⟨rfl, rfl⟩ := hk
              exact ⟨_, rfl, h⟩
section
variable {X : Cx} {pins : List (Addr × Obj)} {σ : L2.St} {H : Hp} {s : Shared}
end
section
variable {X : Cx} {Γ : List VD} {B B1 B2 B' : Bag} {a b e : Expr} {es : List Expr} {d : VD} {y : PyData} {pos p pos' : Pos}
end
end Gd
set_option exponentiation.threshold 20000
namespace Lw
open PySem PySem.Spec PyProof.Rows L2 Gd Fr
open scoped Rat
inductive Pap where
  | in_
  | part (i : Nat) (x y : Pap)
def Pap.d : Pap → PyData
  | .in_ => .tuple [.str "in"]
  | .part i x y => .tuple [.str "part", .int (i : Nat), x.d, y.d]
section
variable {b p : Nat} {low high : Int} {L : List Stp} {s : Sp}
end
structure An (D W : Nat) (d : PyData) : Prop where
  any : datB d = true
  dp : d.depth ≤ D
  bk : d.bulk ≤ W
structure AnA (D W : Nat) (ds : List PyData) : Prop where
  any : datA ds = true
  dp : PyData.depthAll ds ≤ D
  bk : PyData.bulkAll ds ≤ W
theorem An.le {D W D' W' : Nat} {d : PyData} (h : An D W d) (e : D ≤ D') (f : W ≤ W') : An D' W' d := ⟨h.any, Nat.le_trans h.dp e, Nat.le_trans h.bk f⟩
theorem AnA.le {D W D' W' : Nat} {d : List PyData} (h : AnA D W d) (e : D ≤ D') (f : W ≤ W') : AnA D' W' d := ⟨h.any, Nat.le_trans h.dp e, Nat.le_trans h.bk f⟩
theorem An.ok {D W : Nat} {d : PyData} (h : An D W d) (e : D ≤ 60 := by decide) (f : W ≤ 5000 := by decide) : OkA d := ⟨h.any, Nat.le_trans h.dp e, Nat.le_trans h.bk f⟩
theorem AnA.nil {D W : Nat} : AnA D W [] := ⟨by simp only [datA], by simp only [PyData.depthAll]; omega, by simp only [PyData.bulkAll]; omega⟩
theorem AnA.cons {D W W' : Nat} {d : PyData} {ds : List PyData} (h : An D W d) (r : AnA D W' ds) : AnA D (W + 1 + W') (d :: ds) :=
  ⟨by simp only [datA, Bool.and_eq_true]; exact ⟨h.any, r.any⟩, by have := h.dp; have := r.dp; simp only [PyData.depthAll]; omega, by have := h.bk; have := r.bk; simp only [PyData.bulkAll]; omega⟩
theorem An.tup {D W : Nat} {ds : List PyData} (h : AnA D W ds) : An (D + 1) W (.tuple ds) := ⟨by simp only [datB]; exact h.any, by have := h.dp; simp only [PyData.depth]; omega, by have := h.bk; simp only [PyData.bulk]; omega⟩
theorem An.lst {D W : Nat} {ds : List PyData} (h : AnA D W ds) : An (D + 1) W (.list ds) := ⟨by simp only [datB]; exact h.any, by have := h.dp; simp only [PyData.depth]; omega, by have := h.bk; simp only [PyData.bulk]; omega⟩
theorem An.tup_inv {D W : Nat} {ds : List PyData} (h : An (D + 1) W (.tuple ds)) : AnA D W ds := ⟨by have := h.any; simp only [datB] at this; exact this, by have := h.dp; simp only [PyData.depth] at this; omega, by have := h.bk; simp only [PyData.bulk] at this; omega⟩
theorem AnA.mem {D W : Nat} : ∀ {ds : List PyData}, AnA D W ds → ∀ d ∈ ds, An D W d
  | [], _, _, h => by cases h
  | x :: xs, h, d, hd => by
    have a := h.any
    have b := h.dp
    have c := h.bk
    simp only [datA, Bool.and_eq_true] at a
    simp only [PyData.depthAll] at b
    simp only [PyData.bulkAll] at c
    rcases List.mem_cons.mp hd with rfl | hd
    · exact ⟨a.1, by omega, by omega⟩
    · exact AnA.mem (ds := xs) ⟨a.2, by omega, by omega⟩ d hd
theorem AnA.app {D W W' : Nat} : ∀ {ds es : List PyData}, AnA D W ds → AnA D W' es → AnA D (W + W') (ds ++ es)
  | [], es, _, h => h.le (Nat.le_refl _) (by omega)
  | x :: xs, es, h, h' => by
    have a := h.any
    have b := h.dp
    have c := h.bk
    simp only [datA, Bool.and_eq_true] at a
    simp only [PyData.depthAll] at b
    simp only [PyData.bulkAll] at c
    have r := AnA.app (D := D) (W := W - (x.bulk + 1)) (ds := xs) ⟨a.2, by omega, by omega⟩ h'
    rw [List.cons_append]
    exact (AnA.cons (D := D) (W := x.bulk) ⟨a.1, by omega, Nat.le_refl _⟩ r).le (Nat.le_refl _) (by omega)
theorem An.int {D W n : Nat} {i : Int} (h : Bd n i) (e : n ≤ 1920 := by decide) : An D W (.int i) := ⟨by
  have := nice_int h e
  simp only [nice] at this
  simp only [datB]; exact this, by simp only [PyData.depth]; omega, by simp only [PyData.bulk]; omega⟩
theorem An.bool {D W : Nat} {i : Bool} : An D W (.bool i) := ⟨by simp only [datB], by simp only [PyData.depth]; omega, by simp only [PyData.bulk]; omega⟩
theorem An.none {D W : Nat} : An D W .none := ⟨by simp only [datB], by simp only [PyData.depth]; omega, by simp only [PyData.bulk]; omega⟩
theorem An.dict {D W : Nat} (h : 1 ≤ D) : An D W (.dict []) := ⟨by simp only [datB, List.isEmpty_nil, Bool.true_or], by simp only [PyData.depth, PyData.depthKv]; omega, by simp only [PyData.bulk, PyData.bulkKv]; omega⟩
theorem An.str {D W : Nat} {x : Str} (h : PyData.strOk x = true) (h2 : x.cps.size ≤ W) : An D W (.str x) := ⟨by simp only [datB]; exact h, by simp only [PyData.depth]; omega, by simp only [PyData.bulk]; exact h2⟩
end Lw
namespace Lw
open PySem PySem.Spec PyProof.Rows L2 Gd Fr
def Pap.dep : Pap → Nat
  | .in_ => 1
  | .part _ x y => max x.dep y.dep + 1
end Lw
namespace Lw
open PySem PySem.Spec PyProof.Rows L2 Gd Fr
section
variable {b p : Nat} {low high : Int} {L : List Stp} {s : Sp}
end
end Lw
namespace HT
open PySem PySem.Spec PyProof.Rows L2
section
variable {prog : Program} {w : World} {A : Around} {E : Value → Shared → Prop} {s : Shared}
end
end HT
namespace Gd
open PySem PySem.Spec PyProof.Rows L2
section
variable {X : Cx} {Γ : List VD} {B B1 : Bag} {a b e : Expr} {k : Nat} {p p1 p2 p3 pos : Pos} {ds : List PyData} {Φ : Post}
end
end Gd
set_option exponentiation.threshold 20000
namespace Lw
open PySem PySem.Spec PyProof.Rows L2 Gd Fr
open scoped Rat
def Pap.ok : Pap → Prop
  | .in_ => True
  | .part i x y => i ≤ 8 ∧ x.ok ∧ y.ok
theorem an_str {D W : Nat} {x : Str} (h : PyData.strOk x = true := by decide +kernel) (h2 : x.cps.size ≤ W := by decide) : An D W (.str x) := An.str h h2
theorem small_int {D W : Nat} {i : Int} (h0 : -100 ≤ i) (h1 : i ≤ 100) : An D W (.int i) := An.int (n := 8) (by unfold Bd; omega)
theorem an_part {n W : Nat} {i x y : PyData} (hi : An n 0 i) (hx : An n W x) (hy : An n W y) : An (n + 1) (8 + 2 * W) (.tuple [.str "part", i, x, y]) :=
  (An.tup (AnA.cons (an_str (D := n) (W := 4)) (AnA.cons hi (AnA.cons hx (AnA.cons hy (AnA.nil (W := 0))))))).le (Nat.le_refl _) (by omega)
def wp : Nat → Nat
  | 0 => 0
  | n + 1 => 8 + 2 * wp n
theorem Pap.an : ∀ (x : Pap) {n : Nat}, x.dep ≤ n → x.ok → An n (wp n) x.d
  | .in_, 0, h, _ => by simp only [Pap.dep] at h; omega
  | .in_, n + 1, _, _ => (An.tup (AnA.cons (an_str (D := n) (W := 2)) (AnA.nil (W := 0)))).le (Nat.le_refl _) (by simp only [wp]; omega)
  | .part i x y, 0, h, _ => by simp only [Pap.dep] at h; omega
  | .part i x y, n + 1, h, ok => by
    simp only [Pap.dep] at h
    obtain ⟨h1, h2, h3⟩ := ok
    exact an_part (small_int (by omega) (by omega)) (x.an (by omega) h2) (y.an (by omega) h3)
inductive PB : Nat → PyData → Prop
  | none (n : Nat) : PB n .none
  | inw (n : Nat) : PB n (.str "in")
  | partw (n : Nat) : PB n (.str "part")
  | int (n i : Nat) (h : i ≤ 8) : PB n (.int (i : Nat))
  | pap (n : Nat) (x : Pap) (h : x.dep ≤ n) (ok : x.ok) : PB n x.d
theorem Pap.items (x : Pap) {n : Nat} (h : x.dep ≤ n + 1) (ok : x.ok) : ∃ ds : List PyData, x.d = .tuple ds ∧ ds ≠ [] ∧ ds.length ≤ 4 ∧ AnA n (wp (n + 1)) ds ∧ ∀ d ∈ ds, PB n d := by
  have a := x.an h ok
  cases x with
  | in_ => exact ⟨_, rfl, by simp, by simp, a.tup_inv, fun d hd => by rw [List.mem_singleton.mp hd]; exact .inw n⟩
  | part i x y =>
    obtain ⟨h1, h2, h3⟩ := ok
    simp only [Pap.dep] at h
    refine ⟨_, rfl, by simp, by simp, a.tup_inv, fun d hd => ?_⟩
    simp only [List.mem_cons, List.not_mem_nil, or_false] at hd
    rcases hd with rfl | rfl | rfl | rfl
    · exact .partw n
    · exact .int n i h1
    · exact .pap n x (by omega) h2
    · exact .pap n y (by omega) h3
theorem len_bulk : ∀ ds : List PyData, ds.length ≤ PyData.bulkAll ds
  | [] => Nat.zero_le _
  | x :: xs => by
    have := len_bulk xs
    simp only [PyData.bulkAll, List.length_cons]; omega
end Lw
namespace Lw
open PySem PySem.Spec PyProof.Rows L2 Gd Fr
def wq : Nat → Nat
  | 0 => 0
  | n + 1 => 24 + 2 * wq n
theorem Pap.nd : ∀ (x : Pap) {n : Nat}, x.dep ≤ n → x.ok → Nd (n + 1) (wq n) x.d
  | .in_, 0, h, _ => by simp only [Pap.dep] at h; omega
  | .in_, n + 1, _, _ => (Nd.tuple (NdA.cons ((Nd.str (x := "in") (by decide +kernel) (by decide)).le (D' := n + 1) (W' := 20) (by omega) (Nat.le_refl _)) (NdA.nil (W := 0)))).le (Nat.le_refl _) (by simp only [wq]; omega)
  | .part i x y, 0, h, _ => by simp only [Pap.dep] at h; omega
  | .part i x y, n + 1, h, ok => by
    simp only [Pap.dep] at h
    obtain ⟨h1, h2, h3⟩ := ok
    have a := x.nd (n := n) (by omega) h2
    have b := y.nd (n := n) (by omega) h3
    exact (Nd.tuple (NdA.cons ((Nd.str (x := "part") (by decide +kernel) (by decide)).le (D' := n + 1) (W' := 20) (by omega) (Nat.le_refl _)) (NdA.cons ((Nd.int (n := 8) (i := (i : Nat)) (by unfold Bd; omega)).le (D' := n + 1) (W' := 0) (by omega) (Nat.le_refl _)) (NdA.cons a (NdA.cons b (NdA.nil (W := 0))))))).le (Nat.le_refl _) (by simp only [wq]; omega)
end Lw
namespace Gd
open PySem PySem.Spec PyProof.Rows L2
section
variable {X : Cx} {Γ : List VD} {B B1 B2 B3 B' : Bag} {a b e : Expr} {es : List Expr} {d : VD} {y : PyData} {pos p pos' p1 p2 p3 p4 : Pos}
end
end Gd
set_option exponentiation.threshold 20000
namespace Lw
open PySem PySem.Spec PyProof.Rows L2 Gd Fr
open scoped Rat
def bendW : List Str := ["num", "inf", "nan", "span", "none", "inexact", "tiny", "over", "invalid", "by", "even", "up", "down", "zero", "away", "input", "told", "if", "add", "take", "times", "root", "fused", "size", "least", "greatest", "opposite", "few", "near", ""]
theorem bendW_facts : ∀ x ∈ bendW, (PyData.strOk x = true ∧ x.cps.size ≤ 10) ∧ (PyData.strOk (x ++ "s") = true ∧ (x ++ "s").cps.size ≤ 20) ∧ (PyData.strOk (cutS x none (some (-1))) = true ∧ (cutS x none (some (-1))).cps.size ≤ 20) ∧ (PyData.strOk (Txt.upper x) = true ∧ (Txt.upper x).cps.size ≤ 20) := by
  have key : bendW.all (fun x => (PyData.strOk x && decide (x.cps.size ≤ 10)) && ((PyData.strOk (x ++ "s") && decide ((x ++ "s").cps.size ≤ 20)) && ((PyData.strOk (cutS x none (some (-1))) && decide ((cutS x none (some (-1))).cps.size ≤ 20)) && (PyData.strOk (Txt.upper x) && decide ((Txt.upper x).cps.size ≤ 20))))) = true := by decide +kernel
  intro x hx
  have := List.all_eq_true.mp key x hx
  simp only [Bool.and_eq_true, decide_eq_true_eq] at this
  exact this
mutual
def bendB : PyData → Bool
  | .int i => decide (i.natAbs.log2 < 1900)
  | .str x => bendW.contains x
  | .tuple xs => bendA xs
  | d => datB d
def bendA : List PyData → Bool
  | [] => true
  | x :: xs => bendB x && bendA xs
end
mutual
theorem bendB_dat : ∀ d : PyData, bendB d = true → datB d = true
  | .none, h => by simp only [datB]
  | .bool _, h => by simp only [datB]
  | .int i, h => by simp only [bendB, decide_eq_true_eq] at h; simp only [datB, decide_eq_true_eq]; omega
  | .str x, h => by
    simp only [bendB] at h
    simp only [datB]
    exact (bendW_facts x (by simpa using h)).1.1
  | .list xs, h => by simpa only [bendB] using h
  | .tuple xs, h => by
    simp only [bendB] at h
    simp only [datB]
    exact bendA_dat xs h
  | .dict xs, h => by simpa only [bendB] using h
theorem bendA_dat : ∀ ds : List PyData, bendA ds = true → datA ds = true
  | [], _ => by simp only [datA]
  | x :: xs, h => by
    simp only [bendA, Bool.and_eq_true] at h
    simp only [datA, Bool.and_eq_true]
    exact ⟨bendB_dat x h.1, bendA_dat xs h.2⟩
end
theorem bendA_mem : ∀ {ds : List PyData}, bendA ds = true → ∀ d ∈ ds, bendB d = true
  | x :: xs, h, d, hd => by
    simp only [bendA, Bool.and_eq_true] at h
    rcases List.mem_cons.mp hd with rfl | hd
    · exact h.1
    · exact bendA_mem h.2 d hd
structure BN (n W : Nat) (d : PyData) : Prop where
  ok : bendB d = true
  dp : d.depth ≤ n
  bk : d.bulk ≤ W
theorem BN.an {n W : Nat} {d : PyData} (h : BN n W d) : An n W d := ⟨bendB_dat d h.ok, h.dp, h.bk⟩
theorem BN.tup {n W : Nat} {ds : List PyData} (h : BN n W (.tuple ds)) : (ds ≠ [] → 1 ≤ n) ∧ AnA (n - 1) W ds ∧ ∀ d ∈ ds, BN (n - 1) W d := by
  have h1 := h.ok
  have h2 := h.dp
  have h3 := h.bk
  simp only [bendB] at h1
  simp only [PyData.depth] at h2
  simp only [PyData.bulk] at h3
  have a : AnA (n - 1) W ds := ⟨bendA_dat ds h1, by omega, h3⟩
  exact ⟨fun _ => by omega, a, fun d hd => ⟨bendA_mem h1 d hd, (a.mem d hd).dp, (a.mem d hd).bk⟩⟩
def LenOk : PyData → Prop
  | .tuple ds => ds.length ≤ 1000
  | _ => True
theorem An.len {D W : Nat} {d : PyData} (h : An D W d) (e : W ≤ 1000) : LenOk d := by
  cases d with
  | tuple ds =>
    have := h.bk
    simp only [PyData.bulk] at this
    exact Nat.le_trans (len_bulk ds) (by omega)
  | _ => trivial
end Lw
namespace Gd
open PySem PySem.Spec PyProof.Rows L2
section
variable {X : Cx} {Γ : List VD} {B B1 B2 : Bag} {a b c e elt : Expr} {scope : Scope} {acc : List PyData} {pos pos' p : Pos} {rest : List Stmt} {E : En} {d : VD} {j : Nat} {x : Str} {px : Pos}
theorem ej_lenS {y : Str} (hl : y.length ≤ sizeLine) (hm : X.mg "len" = none) (ha : EJ X Γ B a (.da (.str y)) B1) (hs : starEach [a] X.env = [(false, eval a X.env)] := by rfl) (hg : Gl X "len" := by rfl) :
    EJ X Γ B (.Call (.Name "len" p) [a] [] pos) (.da (.int y.length)) B1 :=
  ej_callB call_len hm (aj_cons ha aj_nil hs) (fun g vs H0 H O r Q q => by
    obtain ⟨v, rfl, h⟩ := rv1 r
    refine ⟨v, y.length, rfl, ?_, q _ _ _ To.refl O (Rp.int _)⟩
    cases h with
    | str => exact ⟨hl, rfl⟩) (hg := hg) (he := hs)
end
end Gd
set_option exponentiation.threshold 20000
namespace Lw
open PySem PySem.Spec PyProof PyProof.Rows L2 Gd Fr
open scoped Rat
theorem tk_ex {B : Bag} (h : Bok B) (m : Int) (h0 : 0 < m) (h1 : m < 2 ^ 60) : ∃ (v : Int) (B' : Bag), R_take [.bag, .da (.int m)] B (.int v) B' ∧ 0 ≤ v ∧ v < m ∧ Bok B' :=
  ⟨tkV B m, tkB B m, R_take.mk B m h0 (by unfold Bd; exact Nat.lt_of_lt_of_le (show _ < 2 ^ 60 by omega) (Nat.pow_le_pow_right (by decide) (by decide))) h, tkV_ge B h0, tkV_lt B h0, tkB_ok h m⟩
theorem sm_ex {α : Type} (xs : List α) (f : α → PyData) {B : Bag} (hl : xs.length ≤ 1000) (h : Bok B) (h0 : 0 < xs.length) : ∃ x ∈ xs, ∃ B' : Bag, R_some [.bag, .da (.list (xs.map f))] B (f x) B' ∧ Bok B' := by
  obtain ⟨x, hx, hp⟩ := pick_ex xs f B h0
  have := R_some.mk B (xs.map f) (by rw [List.length_map]; exact h0) (by rw [List.length_map]; exact hl) h
  rw [hp] at this
  exact ⟨x, hx, _, this, tkB_ok h _⟩
def d3 (t : Int × Int × Int) : PyData := .tuple [.int t.1, .int t.2.1, .int t.2.2]
end Lw
namespace Gd
open PySem PySem.Spec PyProof.Rows L2 RZ
section
variable {X : Cx} {Γ : List VD} {B B1 B2 B' : Bag} {e a b c : Expr} {elt : Expr} {scope : Scope} {j : Nat} {x : Str} {px : Pos} {ds ys : List PyData} {pos pos' : Pos} {acc : List PyData}
end
end Gd
namespace Gd
open PySem PySem.Spec PyProof.Rows L2
section
variable {X : Cx} {Γ : List VD} {B B1 B2 B' : Bag} {e a b c : Expr} {es : List Expr} {elt : Expr} {scope : Scope} {pos pos' : Pos} {acc : List PyData}
end
end Gd
namespace Gd
open PySem PySem.Spec PyProof.Rows L2
section
variable {P : Program} {w : World} {A : Around} {E : Value → Shared → Prop} {s : Shared} {a : Addr} {l0 : Addr} {l : List Str} {items : Array Value}
end
section
variable {X : Cx} {Γ : List VD} {B B1 : Bag} {b : Expr} {pos p : Pos} {Φ : Post}
end
end Gd
namespace Gd
open PySem PySem.Spec PyProof.Rows L2
section
variable {X : Cx} {Γ : List VD} {B B1 B2 : Bag} {a e : Expr} {pos p p' kp : Pos} {rest : List Stmt} {ds : List PyData}
end
end Gd
namespace Gd
open PySem PySem.Spec PyProof.Rows L2
section
variable {X : Cx} {Γ : List VD} {B B1 B2 : Bag} {a b c elt : Expr} {scope : Scope} {pos p : Pos}
end
end Gd
namespace Gd
open PySem PySem.Spec PyProof.Rows L2
section
variable {X : Cx} {Γ : List VD} {B B1 B2 : Bag} {a b : Expr} {pos : Pos}
end
end Gd
namespace Gd
open PySem PySem.Spec PyProof.Rows L2
section
variable {X : Cx} {Γ : List VD} {B B1 B2 : Bag} {a b e : Expr} {pos p p' : Pos} {rest : List Stmt} {ds : List PyData}
end
end Gd
namespace HT
open PySem PySem.Spec PyProof.Rows L2
open PySem.Builtin PySem.Builtin.Str PySem.Builtin.Int
section
variable {prog : Program} {w : World} {A : Around} {E : Value → Shared → Prop} {s : Shared} {a : Int} {t : Tok}
theorem call_int_reprD {Q : Value → Shared → Prop} (hn : s.heap.NoDigits) (hl : a.natAbs < 10 ^ 4300) (h1 : Q (.str (toString a) s.toks) { s with toks := s.toks + 1 }) :
    wpAny (model prog w) A (call (.builtin "int.__repr__") [.int a t]) Q E s := by
  refine wpAny_call_entry F.slot_int_repr (typeIs_int s a t) F.entry_int_repr ?_ (F.args_int_repr_1 _)
  unfold Builtin.«int.__repr__»
  show wpAny _ _ (do let r ← Builtin.overDigitLimit? a; _) _ _ s
  refine wpAny_bind (overDigitLimit_any hn (fun hlt => ?_) (fun hge => absurd hl (Nat.not_lt.mpr hge)))
  exact wpAny_bind (wpAny_mkStr (wpAny_pure ⟨_, rfl, h1⟩) (int_text_fits10 hlt))
theorem strOf_intD {Q : Value → Shared → Prop} (hn : s.heap.NoDigits) (hl : a.natAbs < 10 ^ 4300) (h1 : Q (.str (toString a) s.toks) { s with toks := s.toks + 1 }) :
    wpAny (model prog w) A (PySem.Builtin.Str.strOf (.int a t)) Q E s := by
  unfold PySem.Builtin.Str.strOf
  rw [show isExactStr (.int a t) = false from rfl]
  try (have hv : [Value.int a t].any Value.onHeap = false := rfl; simp only [cRoomFor, hv, Bool.false_eq_true, if_false, pure_bind])
  refine wpAny_bind (m := callSpecial? (.int a t) (Str.ofString "__str__")) (wpAny_callSpecial?_slot (name := Str.ofString "__str__") (typeIs_int s a t) F.slot_int_str ?_)
  refine wpAny_call_entry F.slot_int_str (typeIs_int s a t) entry_object_str ?_ (args_object_str _)
  unfold Builtin.«object.__str__»
  refine wpAny_bind (m := slotArgs "__str__" 0 _) (wpAny_pure ?_)
  try (have hv : [Value.int a t].any Value.onHeap = false := rfl; simp only [cRoomFor, hv, Bool.false_eq_true, if_false, pure_bind])
  refine wpAny_bind (m := callSpecialIfBound? (.int a t) (Str.ofString "__repr__")) (wpAny_callSpecialIfBound?_slot (name := Str.ofString "__repr__") (typeIs_int s a t) F.slot_int_repr
    (call_int_reprD hn hl ?_))
  exact wpAny_pure ⟨_, rfl, wpAny_pure h1⟩
theorem str_of_intD {Q : Value → Shared → Prop} (hn : s.heap.NoDigits) (hl : a.natAbs < 10 ^ 4300) (h1 : Q (.str (toString a) s.toks) { s with toks := s.toks + 1 }) :
    wpAny (model prog w) A (call (.type "str") [.int a t]) Q E s :=
  callType_new F.called_str (by decide) (F.typeCall_str_1 _) (F.newCall_str_1 _) (fun obj => F.args_object_init_2 obj _) F.entry_str_new
    (meets_str_new (S := fun A R s => s.heap.NoDigits ∧ R (.ok (.ret (.str (toString a) s.toks))) { s with toks := s.toks + 1 })
      fun _ _ _ _ _ hq => strOf_intD hq.1 hl hq.2)
    ⟨hn, ⟨typeIs_str _ _ _, h1⟩⟩
end
end HT
namespace Gd
open PySem PySem.Spec PyProof.Rows L2
section
variable {X : Cx} {Γ : List VD} {B B1 B2 : Bag} {a b c e elt : Expr} {scope : Scope} {acc : List PyData} {pos pos' p : Pos} {rest : List Stmt} {E : En} {d : VD} {j : Nat} {x : Str} {px : Pos}
theorem call_strD {k : Nat} (g : Gx k X) (nd : X.base.NoDigits) : CallR X (.type "str") (fun xs H Q => ∃ i : Int, xs = [.int i] ∧ i.natAbs < 10 ^ 4300 ∧ Q (.str (toString i)) H) := by
  intro pins s σ H xs us Q I r h
  obtain ⟨i, rfl, hz, q⟩ := h
  obtain ⟨u, rfl, t, rfl⟩ := vals1 r
  exact HT.str_of_intD (nd.keeps fun b o e => (I.env0.bs b o e).1) hz ⟨.str _, H, I.tok _, ⟨_, rfl⟩, q⟩
theorem ej_strD {k : Nat} {i : Int} (g : Gx k X) (nd : X.base.NoDigits) (hi : i.natAbs < 10 ^ 4300) (hm : X.mg "str" = none) (ha : EJ X Γ B a (.da (.int i)) B1) (hs : starEach [a] X.env = [(false, eval a X.env)] := by rfl) (hg : Gl X "str" := by rfl) :
    EJ X Γ B (.Call (.Name "str" p) [a] [] pos) (.da (.str (toString i))) B1 :=
  ej_callTy (call_strD g nd) hm (aj_cons ha aj_nil hs) (fun g vs H0 H O r Q q => by
    obtain ⟨v, rfl, h⟩ := rv1 r
    exact ⟨i, by rw [rvI h], hi, q _ _ _ To.refl O (Rp.str _)⟩) (hg := hg) (he := hs)
theorem divp2 {i j : Int} (hj : 0 < j) (h : Bd 8999 j ∨ Bd 8999 i) : CDivP i j := by
  by_cases hl : j.natAbs.log2 < 9000
  · exact ⟨hj, PyProof.noPylong_of_log2 hl⟩
  · have hi : Bd 8999 i := by
      rcases h with h | h
      · exact absurd (lg (h.le (Nat.le_refl _)) (by decide)) hl
      · exact h
    refine divp_ok hj ?_
    have e1 := intBits_le hi
    have e2 : Builtin.Int.intBits j = j.natAbs.log2 + 1 := by
      unfold Builtin.Int.intBits
      rw [if_neg (show ¬ (j == 0) = true by simpa using (show j ≠ 0 by omega))]
    omega
theorem ej_divmodP {i j : Int} (hm : X.mg "divmod" = none) (ha : EJ X Γ B a (.da (.int i)) B1) (hb : EJ X Γ B1 b (.da (.int j)) B2) (hc : CDivP i j) (hg : Gl X "divmod" := by rfl)
    (h1 : starEach [a, b] X.env = (false, eval a X.env) :: starEach [b] X.env := by rfl) (h2 : starEach [b] X.env = (false, eval b X.env) :: starEach [] X.env := by rfl)
    (hpl : (backTo pos (starEach [b] X.env)).any (·.1) = false := by rfl) :
    EJ X Γ B (.Call (.Name "divmod" p) [a, b] [] pos) (.da (.tuple [.int (i / j), .int (i % j)])) B2 :=
  ej_callB call_divmodW hm (aj_cons ha (aj_cons hb aj_nil h2) h1) (fun g vs H0 H O r Q q => by
    obtain ⟨v, w, rfl, r1, r2⟩ := rv2 r
    refine ⟨i, j, by rw [rvI r1, rvI r2], hc, fun n hn => ?_⟩
    obtain ⟨t2, o2⟩ := laid (o := .tup [.int (i / j), .int (i % j)]) O hn
    exact q _ _ _ t2 o2 (Rp.tup (SqT.of upd_same) (.cons (.int _) (.cons (.int _) .nil)))) (hg := hg) (he := h1) (hpl := hpl)
theorem op_fdivP : OpR X (binaryOp .FloorDiv) (rI CDivP fun i j => .int (i / j)) := opI fun i j _ _ _ _ _ hc q => by
  exact floordiv_int (by have := hc.1; omega) (by rw [Int.fdiv_eq_ediv_of_nonneg i (by have := hc.1; omega)]; exact q) (.inl hc.2)
theorem ej_fdivP {i j : Int} (ha : EJ X Γ B a (.da (.int i)) B1) (hb : EJ X Γ B1 b (.da (.int j)) B2) (hc : CDivP i j) : EJ X Γ B (.BinOp a .FloorDiv b pos) (.da (.int (i / j))) B2 :=
  ej_iic ha hb op_fdivP hc fun _ => .int _
theorem sj_unpackTN (is : List Nat) (j : Nat) {ts : List Expr} {t2 : Expr} {k k1 : Nat} {pt p1 : Pos} {ds : List PyData} {y : PyData} (hc : X.calm = true) (h : EJ X Γ B e (.da (.tuple [.tuple ds, y])) B1) (hg : PGs X ts (gNames is)) (hj : PG X t2 (gName j)) (hl : is.length = ds.length)
    (q : SJ X ((setAll Γ is ds).set j (.da y)) B1 rest E) (hn1 : (assignEach ts X.env).length = ds.length := by rfl) (hst1 : (assignEach ts X.env).findIdx? (·.1) = none := by rfl)
    (ha1 : (assignEach [.Tuple ts k1 p1, t2] X.env).map (·.2) = assign (.Tuple ts k1 p1) X.env :: (assignEach [t2] X.env).map (·.2) := by rfl)
    (ha2 : (assignEach [t2] X.env).map (·.2) = assign t2 X.env :: (assignEach [] X.env).map (·.2) := by rfl)
    (hn : (assignEach [.Tuple ts k1 p1, t2] X.env).length = 2 := by rfl) (hst : (assignEach [.Tuple ts k1 p1, t2] X.env).findIdx? (·.1) = none := by rfl)
    (h1 : swapsWithSole [.Tuple [.Tuple ts k1 p1, t2] k pt] e pos.line X.env = pure false := by rfl) (h2 : swappedStores [.Tuple [.Tuple ts k1 p1, t2] k pt] e X.env = pure none := by rfl)
    (h3 : (assignEach [.Tuple [.Tuple ts k1 p1, t2] k pt] X.env).map (·.2) = [assign (.Tuple [.Tuple ts k1 p1, t2] k pt) X.env] := by rfl) :
    SJ X Γ B (.Assign [.Tuple [.Tuple ts k1 p1, t2] k pt] e pos :: rest) E := fun g σ H0 H Ev O D G =>
  ⟨_, pss_cons (ps_asg (we e) (pg_tup hc (pgs_cons (pg_tup hc hg hn1 hst1) (pgs_cons hj pgs_nil ha2) ha1) hn hst) h1 h2 h3) (ws rest), h g σ H0 H Ev O _ fun v H1 H' t o r => by
    obtain ⟨p, xs, rfl, hxs, rs⟩ := rvT r
    cases rs with
    | cons r1 rs =>
      cases rs with
      | cons r2 rs =>
        cases rs
        obtain ⟨q1, ys, rfl, hys, rs1⟩ := rvT (g := g) r1
        refine ⟨p, _, rfl, seqT o.ex hxs, rfl, _, _, rfl, ⟨q1, ys, rfl, seqT o.ex hys, rs1.length, gNames_run is ys ds σ Γ rs1 hl (Ev.mono t.ex) fun σ' e' => ?_⟩⟩
        exact ⟨_, _, rfl, ⟨rfl, q g _ H1 H' (e'.set (d := .da y) j r2) o D (G.on t)⟩⟩⟩
theorem ex_repLn {Φ : Post} {k : Nat} (ha : EX X Γ B a fun y B1 => EX X Γ B1 b fun z B2 => ∃ ds, y = .list ds ∧ z = .int (k : Int) ∧ ds.length ≤ 1000 ∧ Φ (.list (List.replicate k ds).flatten) B2) (hk : k ≤ 1000) : EX X Γ B (.BinOp a .Mult b pos) Φ :=
  ex_bin (ex_mono ha fun y B1 hy => ex_mono hy fun z B2 hz => by
    obtain ⟨ds, rfl, rfl, hl, hΦ⟩ := hz
    refine ⟨.list (List.replicate k ds).flatten, hΦ, fun g v w H0 H O r1 r2 Q q => ?_⟩
    obtain ⟨p, xs, rfl, hx, rs⟩ := rvL (g := g) r1
    obtain rfl := rvI (g := g) r2
    have hxl : xs.length = ds.length := rs.length
    refine ⟨p, (k : Int), xs, rfl, rfl, O.ex _ _ hx, by omega, by omega, ?_, fun m hm => ?_⟩
    · rw [sizeLine_eq, Int.toNat_natCast]
      have : xs.length * k ≤ 1000 * 1000 := Nat.mul_le_mul (by omega) hk
      omega
    · rw [Int.toNat_natCast]
      obtain ⟨t2, o2⟩ := laid (o := .lst (List.replicate k xs).flatten) O hm
      have rep : ∀ k : Nat, RpAll X.K H0 (List.replicate k xs).flatten (List.replicate k ds).flatten := fun k => by
        induction k with
        | zero => exact .nil
        | succ k ih => rw [List.replicate_succ, List.replicate_succ, List.flatten_cons, List.flatten_cons]; exact rs.app ih
      exact q _ _ _ t2 o2 (Rp.lst upd_same ((rep k).mono t2.ex))) (fun _ _ h1 h2 => pe_op op_rep h1 h2)
end
end Gd
set_option exponentiation.threshold 20000
namespace Lw
open PySem PySem.Spec PyProof PyProof.Rows L2 Gd Fr
open scoped Rat
theorem rep {y : Rat} {N D : Int} (hD : 0 < D) (h : (N : Rat) = y * (D : Rat)) : ∃ g : Int, 0 < g ∧ N = y.num * g ∧ D = (y.den : Int) * g := by
  have dp := den_pos y
  have e1 : y.num * D = N * (y.den : Int) := by
    have e : y * ((y.den : Int) : Rat) = (y.num : Rat) := by
      exact num_den y
    have e2 : ((N * (y.den : Int) : Int) : Rat) = ((y.num * D : Int) : Rat) := by
      rw [Rat.intCast_mul, Rat.intCast_mul, h, ← e]; grind
    exact (Rat.intCast_inj.mp e2).symm
  have dv : (y.den : Int) ∣ D := by
    have h1 : (y.den : Int) ∣ y.num * D := ⟨N, by rw [e1, Int.mul_comm]⟩
    have h2 : y.den ∣ y.num.natAbs * D.natAbs := by
      have := Int.natAbs_dvd_natAbs.mpr h1
      rwa [Int.natAbs_mul, Int.natAbs_natCast] at this
    have h3 := Nat.Coprime.dvd_of_dvd_mul_left y.reduced.symm h2
    exact Int.natAbs_dvd_natAbs.mp (by rw [Int.natAbs_natCast]; exact h3)
  obtain ⟨g, rfl⟩ := dv
  have hg : 0 < g := by
    refine Decidable.byContradiction fun z => ?_
    have : (y.den : Int) * g ≤ (y.den : Int) * 0 := Int.mul_le_mul_of_nonneg_left (by omega) (by omega)
    omega
  refine ⟨g, hg, ?_, rfl⟩
  refine Int.eq_of_mul_eq_mul_right (show (y.den : Int) ≠ 0 by omega) ?_
  rw [← e1]
  simp only [Int.mul_assoc, Int.mul_comm, Int.mul_left_comm]
def toC (way : Str) (s : Int) (y : Rat) : Int :=
  if outw way s (y.num / (y.den : Int)) (pt (y.num % (y.den : Int)) (y.den : Int)) = true then y.num / (y.den : Int) + 1 else y.num / (y.den : Int)
theorem near_toC {way : Str} {x : Rat} {s : Int} (hs : x ≠ 0 → s = sgn x) : absI (nearI way x) = toC way s (absQ x) := by
  have hn : (absQ x).num = absI x.num ∧ (absQ x).den = x.den := by
    unfold absQ absI
    by_cases h : x < 0
    · rw [if_pos h, if_pos ((num_neg_iff x).mpr h), Rat.neg_num, Rat.neg_den]; exact ⟨rfl, rfl⟩
    · rw [if_neg h, if_neg (fun z => h ((num_neg_iff x).mp z))]; exact ⟨rfl, rfl⟩
  have dp := den_pos x
  have a0 : 0 ≤ absI x.num := by unfold absI; split <;> omega
  have q0 : 0 ≤ absI x.num / (x.den : Int) := Int.ediv_nonneg a0 (by omega)
  have ho : outw way (sgn x) (absI x.num / (x.den : Int)) (pt (absI x.num % (x.den : Int)) (x.den : Int)) = outw way s (absI x.num / (x.den : Int)) (pt (absI x.num % (x.den : Int)) (x.den : Int)) := by
    by_cases h : x = 0
    · subst h
      have : pt (absI (0 : Rat).num % ((0 : Rat).den : Int)) ((0 : Rat).den : Int) = 0 := by decide
      rw [this]; unfold outw; rw [if_pos (.inl rfl), if_pos (.inl rfl)]
    · rw [hs h]
  unfold nearI toC
  dsimp only
  rw [hn.1, hn.2, ho]
  generalize absI x.num / (x.den : Int) = c at *
  split <;> split <;> (unfold absI; split <;> omega)
section
variable {way : Str} {s g : Int} {y : Rat}
theorem toC_parts (hg : 0 < g) : (y.num * g) / ((y.den : Int) * g) = y.num / (y.den : Int) ∧ y.num * g - y.num / (y.den : Int) * ((y.den : Int) * g) = (y.num % (y.den : Int)) * g := by
  have dp := den_pos y
  refine ⟨Int.mul_ediv_mul_of_pos_left _ _ hg, ?_⟩
  have := Int.emod_add_mul_ediv y.num (y.den : Int)
  have e : y.num % (y.den : Int) = y.num - y.num / (y.den : Int) * (y.den : Int) := by
    have := Int.mul_comm (y.den : Int) (y.num / (y.den : Int)); omega
  rw [e, Int.sub_mul, Int.mul_assoc]
theorem toC_0 (hg : 0 < g) (h : (y.num % (y.den : Int)) * g = 0 ∨ way = "zero") : toC way s y = y.num / (y.den : Int) := by
  unfold toC outw
  have h' : pt (y.num % (y.den : Int)) (y.den : Int) = 0 ∨ way = "zero" := by
    rcases h with h | h
    · left
      unfold pt
      rw [if_pos]
      rcases Int.mul_eq_zero.mp h with z | z
      · exact z
      · omega
    · exact .inr h
  rw [if_pos h', if_neg (by decide)]
theorem pt_ne (hg : 0 < g) (h : ¬ ((y.num % (y.den : Int)) * g = 0 ∨ way = "zero")) : ¬ (pt (y.num % (y.den : Int)) (y.den : Int) = 0 ∨ way = "zero") := by
  rintro (z | z)
  · apply h; left
    unfold pt at z
    split at z
    · rename_i e; rw [e, Int.zero_mul]
    · split at z
      · cases z
      · split at z <;> cases z
  · exact h (.inr z)
theorem toC_1 (hg : 0 < g) (h : ¬ ((y.num % (y.den : Int)) * g = 0 ∨ way = "zero")) (hs : s = 0 ∨ s = 1) (hw : way = "up" ∨ way = "down") : toC way s y = y.num / (y.den : Int) + (if (decide (way = "up") == decide (s = 0)) = true then 1 else 0) := by
  unfold toC outw
  rw [if_neg (pt_ne hg h)]
  rcases hw with rfl | rfl
  · rw [if_pos rfl]
    rcases hs with rfl | rfl <;> simp
  · rw [if_neg (show ¬ (("down" : Str) = "up") by decide), if_pos rfl]
    rcases hs with rfl | rfl <;> simp [show ¬ (("down" : Str) = "up") by decide]
theorem toC_2 (hg : 0 < g) (h : ¬ ((y.num % (y.den : Int)) * g = 0 ∨ way = "zero")) (hw : ¬ (way = "up" ∨ way = "down")) (h2 : 2 * ((y.num % (y.den : Int)) * g) ≠ (y.den : Int) * g) :
    toC way s y = y.num / (y.den : Int) + (if decide ((y.den : Int) * g < 2 * ((y.num % (y.den : Int)) * g)) = true then 1 else 0) := by
  have hp := pt_ne hg h
  unfold toC outw
  rw [if_neg hp, if_neg (fun z => hw (.inl z)), if_neg (fun z => hw (.inr z))]
  rw [← Int.mul_assoc] at h2 ⊢
  have h3 : 2 * (y.num % (y.den : Int)) ≠ (y.den : Int) := fun z => h2 (by rw [z])
  have e : ((y.den : Int) * g < 2 * (y.num % (y.den : Int)) * g) ↔ ((y.den : Int) < 2 * (y.num % (y.den : Int))) := ⟨fun z => Int.lt_of_mul_lt_mul_right z (by omega), fun z => Int.mul_lt_mul_of_pos_right z hg⟩
  rw [decide_eq_decide.mpr e]
  have p1 : ¬ pt (y.num % (y.den : Int)) (y.den : Int) = 0 := fun z => hp (.inl z)
  unfold pt at p1 ⊢
  by_cases z0 : y.num % (y.den : Int) = 0
  · rw [if_pos z0] at p1; exact absurd rfl p1
  · rw [if_neg z0]
    by_cases z1 : 2 * (y.num % (y.den : Int)) < (y.den : Int)
    · rw [if_pos z1, if_neg (show ¬ ((1 : Int) = 2) by decide), decide_eq_false (show ¬ (y.den : Int) < 2 * (y.num % (y.den : Int)) by omega)]
      simp
    · rw [if_neg z1, if_neg h3, if_neg (show ¬ ((3 : Int) = 2) by decide), decide_eq_true (show (y.den : Int) < 2 * (y.num % (y.den : Int)) by omega)]
      simp
theorem toC_3 (hg : 0 < g) (h : ¬ ((y.num % (y.den : Int)) * g = 0 ∨ way = "zero")) (hw : ¬ (way = "up" ∨ way = "down")) (h2 : 2 * ((y.num % (y.den : Int)) * g) = (y.den : Int) * g) :
    toC way s y = y.num / (y.den : Int) + (if (decide (way = "away") || decide (y.num / (y.den : Int) % 2 = 1)) = true then 1 else 0) := by
  have hp := pt_ne hg h
  unfold toC outw
  rw [if_neg hp, if_neg (fun z => hw (.inl z)), if_neg (fun z => hw (.inr z))]
  rw [← Int.mul_assoc] at h2
  have h3 : 2 * (y.num % (y.den : Int)) = (y.den : Int) := Int.eq_of_mul_eq_mul_right (by omega) h2
  have e : pt (y.num % (y.den : Int)) (y.den : Int) = 2 := by
    have p1 : ¬ pt (y.num % (y.den : Int)) (y.den : Int) = 0 := fun z => hp (.inl z)
    unfold pt at p1 ⊢
    by_cases z : y.num % (y.den : Int) = 0
    · rw [if_pos z] at p1; exact absurd rfl p1
    · rw [if_neg z, if_neg (show ¬ 2 * (y.num % (y.den : Int)) < (y.den : Int) by omega), if_pos h3]
  simp only [e, if_true]
  split <;> rename_i z <;> simp [z]
end
theorem toC_ge {way : Str} {s : Int} {y : Rat} : y.num / (y.den : Int) ≤ toC way s y ∧ toC way s y ≤ y.num / (y.den : Int) + 1 := by
  unfold toC; split <;> omega
theorem exact_iff {way : Str} {s : Int} {y : Rat} {g : Int} (hg : 0 < g) : toC way s y * ((y.den : Int) * g) = y.num * g ↔ (y.den : Int) = 1 := by
  have dp := den_pos y
  constructor
  · intro h
    have h' : toC way s y * (y.den : Int) = y.num := Int.eq_of_mul_eq_mul_right (show g ≠ 0 by omega) (by rw [Int.mul_assoc]; exact h)
    have d : y.den ∣ y.num.natAbs := by
      rw [← h', Int.natAbs_mul, Int.natAbs_natCast]; exact Nat.dvd_mul_left ..
    have := Nat.Coprime.eq_one_of_dvd y.reduced.symm d
    omega
  · intro h
    have e0 : y.num % (y.den : Int) = 0 := by rw [h]; omega
    rw [toC_0 (g := 1) (by decide) (.inl (by rw [e0]; rfl)), h]
    rw [Int.ediv_one, Int.one_mul]
def dl (n : Nat) : Nat := (Nat.repr n).length
theorem dl_pos (n : Nat) : 1 ≤ dl n := by
  exact Nat.length_repr_pos
theorem lt_dl (n : Nat) : n < 10 ^ dl n := (Nat.length_repr_le_iff (dl_pos n)).mp (Nat.le_refl _)
theorem dl_le {n : Nat} (h : 0 < n) : 10 ^ (dl n - 1) ≤ n := by
  by_cases h1 : dl n = 1
  · rw [h1]; omega
  · refine Nat.le_of_not_lt fun z => ?_
    have h0 := dl_pos n
    have := (Nat.length_repr_le_iff (show 0 < dl n - 1 by omega)).mpr z
    have e : (Nat.repr n).length = dl n := rfl
    omega
theorem dl_is {n L : Nat} (h : 10 ^ L ≤ n) (h' : n < 10 ^ (L + 1)) : dl n = L + 1 := by
  have h1 : dl n ≤ L + 1 := (Nat.length_repr_le_iff (by omega)).mpr h'
  refine Nat.le_antisymm h1 (Nat.le_of_not_lt fun z => ?_)
  have := Nat.pow_le_pow_right (show 0 < 10 by decide) (show dl n ≤ L by omega)
  have := lt_dl n
  omega
theorem dl_str (n : Nat) : (toString (n : Int) : Str).length = dl n := by rw [PySem.ofString_length]; rfl
end Lw
set_option exponentiation.threshold 20000
namespace Lw
open PySem PySem.Spec PyProof PyProof.Rows L2 Gd Fr
open scoped Rat
structure FmD (b p : Nat) (low high : Int) : Prop where
  b2 : 2 ≤ b
  b6 : b < 2 ^ 6
  p2 : 2 ≤ p
  bp : b ^ p < 2 ^ 400
  lo : -1200 ≤ low
  lh : low ≤ high
  hi : high ≤ 1200
  bl : b ^ (-low).toNat ≤ 10 ^ 1400
  bh : b ^ p * b ^ high.toNat ≤ 10 ^ 400
def fmdB (t : F4) : Bool := decide (2 ≤ t.1) && (decide (t.1 < 2 ^ 6) && (decide (2 ≤ t.2.1) && (decide (t.1 ^ t.2.1 < 2 ^ 400) && (decide (-1200 ≤ t.2.2.1) && (decide (t.2.2.1 ≤ t.2.2.2) && (decide (t.2.2.2 ≤ 1200) && (decide (t.1 ^ (-t.2.2.1).toNat ≤ 10 ^ 1400) && decide (t.1 ^ t.2.1 * t.1 ^ t.2.2.2.toNat ≤ 10 ^ 400))))))))
theorem fmd_of {t : F4} (h : fmdB t = true) : FmD t.1 t.2.1 t.2.2.1 t.2.2.2 := by
  unfold fmdB at h
  simp only [Bool.and_eq_true, decide_eq_true_eq] at h
  obtain ⟨h1, h2, h3, h4, h5, h6, h7, h8, h9⟩ := h
  exact ⟨h1, h2, h3, h4, h5, h6, h7, h8, h9⟩
def toldF : List F4 := [(2, 3, -2, 1), (10, 2, -2, 0), (4, 3, -3, 3), (2, 2, 0, 0), (6, 4, -10, 8), (36, 2, -3, 2), (2, 5, -9, 9)]
def toldF2 : List F4 := [(2, 11, -24, 5), (2, 24, -149, 104), (2, 53, -1074, 971), (10, 7, -101, 90), (16, 6, -70, 57), (10, 16, -398, 369)] ++ [(2, 64, 30, 90), (10, 40, -60, -50), (12, 9, -1200, -1190)]
theorem told_fm : (toldF ++ toldF2).all fmdB = true := by decide +kernel
def Post_tfm (_ : List VD) (_ : Bag) (r : PyData) (B' : Bag) : Prop := Bok B' ∧ ∃ (b p : Nat) (low high : Int), r = fmP b p low high ∧ FmD b p low high
def NumD (b p : Nat) (low high s c e : Int) : Prop := (s = 0 ∨ s = 1) ∧ 0 ≤ c ∧ c < ((b ^ p : Nat) : Int) ∧ low ≤ e ∧ e ≤ high
def Pre_tc (Γ : List VD) (B : Bag) : Prop := ∃ (b p : Nat) (low high e : Int), Γ = [.bag, .da (fmP b p low high), .da (.int e)] ∧ FmD b p low high ∧ Bok B
def Post_tc (Γ : List VD) (_ : Bag) (r : PyData) (B' : Bag) : Prop := Bok B' ∧ ∀ (b p : Nat) (low high e : Int), Γ = [.bag, .da (fmP b p low high), .da (.int e)] → ∃ c : Int, r = .int c ∧ 1 ≤ c ∧ c < ((b ^ p : Nat) : Int)
def Pre_tn (Γ : List VD) (B : Bag) : Prop := ∃ (b p : Nat) (low high : Int), Γ = [.bag, .da (fmP b p low high)] ∧ FmD b p low high ∧ Bok B
def Post_tn (Γ : List VD) (_ : Bag) (r : PyData) (B' : Bag) : Prop := Bok B' ∧ ∀ (b p : Nat) (low high : Int), Γ = [.bag, .da (fmP b p low high)] → ∃ s c e : Int, r = (Va.num s c e).d ∧ NumD b p low high s c e ∧ 0 < c
def Post_tw (_ : List VD) (_ : Bag) (r : PyData) (B' : Bag) : Prop := Bok B' ∧ ∃ way ∈ wayList, r = .str way
section
variable {b p : Nat} {low high : Int} (F : FmD b p low high)
include F
theorem FmD.pn {e : Int} (h1 : low ≤ e) (h2 : e ≤ high) : Qz 1400 4700 (pw b e) := by
  have e1 := pw_num b F.b2 e
  have b0 : 0 < b := by have := F.b2; omega
  have u1 : b ^ e.toNat ≤ b ^ high.toNat := Nat.pow_le_pow_right b0 (by omega)
  have u2 : b ^ (-e).toNat ≤ b ^ (-low).toNat := Nat.pow_le_pow_right b0 (by omega)
  have u3 : b ^ high.toNat ≤ b ^ p * b ^ high.toNat := Nat.le_mul_of_pos_left _ (Nat.pow_pos b0)
  have k1 : 10 ^ 400 < 2 ^ 1400 := by decide +kernel
  have k2 : 10 ^ 1400 < 2 ^ 4700 := by decide +kernel
  have v1 := F.bl; have v2 := F.bh
  refine ⟨?_, ?_⟩
  · rw [e1.1]; unfold Bd; rw [Int.natAbs_natCast]; exact Nat.lt_of_le_of_lt (Nat.le_trans u1 (Nat.le_trans u3 v2)) k1
  · rw [e1.2]; unfold Bd; rw [Int.natAbs_natCast]; exact Nat.lt_of_le_of_lt (Nat.le_trans u2 v1) k2
end
inductive R_worthD : Rel
  | mk (b p : Nat) (low high s c e : Int) (B : Bag) (F : FmD b p low high) (h : NumD b p low high s c e) : R_worthD [.da (fmP b p low high), .da (Va.d (.num s c e))] B (fq (Va.wQ b (.num s c e))) B
inductive R_cross : Rel
  | mk (a b c d : Int) (B : Bag) (h1 : Bd 20000 a) (h2 : Bd 20000 b) (h3 : Bd 20000 c) (h4 : Bd 20000 d) : R_cross [.da (.tuple [.int a, .int b]), .da (.tuple [.int c, .int d])] B (.int (a * d - c * b)) B
inductive R_lsize : Rel
  | mk (b p : Nat) (low high c e : Int) (B : Bag) (F : FmD b p low high) (h0 : 0 ≤ c) (h1 : c < ((b ^ p : Nat) : Int)) (h2 : low ≤ e) (h3 : e ≤ high) :
      R_lsize [.da (fmP b p low high), .da (.int c), .da (.int e)] B (.tuple [.int (c * ((b ^ e.toNat : Nat) : Int)), .int ((b ^ (-e).toNat : Nat) : Int)]) B
inductive R_top : Rel
  | mk (n d : Nat) (q : Rat) (k : Int) (B : Bag) (hn : 0 < n) (hd : 0 < d) (h : (n : Rat) = q * (d : Rat)) (h1 : pw 10 k ≤ q) (h2 : q < pw 10 (k + 1)) (b1 : n < 10 ^ 4300) (b2 : d < 10 ^ 4300) : R_top [.da (.int n), .da (.int d)] B (.int (k + 1)) B
inductive R_lint : Rel
  | mk (way : Str) (s N D : Int) (y : Rat) (B : Bag) (hw : way ∈ wayList) (hs : s = 0 ∨ s = 1) (h0 : 0 ≤ y) (hD : 0 < D) (h : (N : Rat) = y * (D : Rat)) (hb : Bd 8999 D ∨ Bd 8999 N) (h1 : Bd 20000 N) (h2 : Bd 20000 D) :
      R_lint [.da (.str way), .da (.int s), .da (.int N), .da (.int D)] B (.int (toC way s y)) B
def toE (y : Rat) : PyData := .bool (decide ((y.den : Int) = 1))
inductive R_ltold : Rel
  | mk (way : Str) (s n d e : Int) (q : Rat) (B : Bag) (hw : way ∈ wayList) (hs : s = 0 ∨ s = 1) (h0 : 0 ≤ q) (hd : 0 < d) (h : (n : Rat) = q * (d : Rat)) (h1 : Bd 2000 n) (h2 : Bd 4700 d) (e1 : -2000 ≤ e) (e2 : e ≤ 2000) :
      R_ltold [.da (.str way), .da (.int s), .da (.int n), .da (.int d), .da (.int e)] B (.tuple [.int (toC way s (q / pw 10 e)), toE (q / pw 10 e)]) B
inductive R_utold : Rel
  | mk (b p : Nat) (low high s c e : Int) (at' : Int) (way : Str) (B : Bag) (F : FmD b p low high) (h : NumD b p low high s c e) (hw : way ∈ wayList) (e1 : -2000 ≤ at') (e2 : at' ≤ 2000) :
      R_utold [.da (fmP b p low high), .da (Va.num s c e).d, .da (.int at'), .da (.str way)] B (.tuple [.tuple [.int s, .int (toC way s ((c : Rat) * pw b e / pw 10 at')), .int at'], toE ((c : Rat) * pw b e / pw 10 at')]) B
def tdP (way : Str) (s : Int) (q : Rat) (k : Int) (many : Nat) : PyData :=
  .tuple [if toC way s (q / pw 10 (k + 1 - many)) = ((10 ^ many : Nat) : Int) then .tuple [.int s, .int ((10 ^ (many - 1) : Nat) : Int), .int (k + 2 - many)] else .tuple [.int s, .int (toC way s (q / pw 10 (k + 1 - many))), .int (k + 1 - many)], toE (q / pw 10 (k + 1 - many))]
inductive R_tdig : Rel
  | zero (b p : Nat) (low high s e : Int) (many : Nat) (way : Str) (B : Bag) (F : FmD b p low high) (h : NumD b p low high s 0 e) (hw : way ∈ wayList) (m1 : 1 ≤ many) (m2 : many ≤ 400) :
      R_tdig [.da (fmP b p low high), .da (Va.num s 0 e).d, .da (.int many), .da (.str way)] B (.tuple [.tuple [.int s, .int 0, .int 0], .bool true]) B
  | mk (b p : Nat) (low high s c e : Int) (k : Int) (many : Nat) (way : Str) (B : Bag) (F : FmD b p low high) (h : NumD b p low high s c e) (hc : 0 < c) (hw : way ∈ wayList) (m1 : 1 ≤ many) (m2 : many ≤ 400)
      (h1 : pw 10 k ≤ (c : Rat) * pw b e) (h2 : (c : Rat) * pw b e < pw 10 (k + 1)) :
      R_tdig [.da (fmP b p low high), .da (Va.num s c e).d, .da (.int many), .da (.str way)] B (tdP way s ((c : Rat) * pw b e) k many) B
inductive R_tplace : Rel
  | mk (b p : Nat) (low high s c e : Int) (pl : Int) (way : Str) (B : Bag) (F : FmD b p low high) (h : NumD b p low high s c e) (hw : way ∈ wayList) (e1 : -2000 ≤ pl) (e2 : pl ≤ 2000) :
      R_tplace [.da (fmP b p low high), .da (Va.num s c e).d, .da (.int pl), .da (.str way)] B (.tuple [.tuple [.int s, .int (toC way s ((c : Rat) * pw b e / pw 10 (-pl))), .int (-pl)], toE ((c : Rat) * pw b e / pw 10 (-pl))]) B
inductive R_nearW : Rel
  | mk (way : Str) (x : Rat) (B : Bag) (hp : CDivP (absI x.num) (x.den : Int)) (h2 : Bd 20000 (x.den : Int)) : R_nearW [.da (.str way), .da (fq x)] B (.int (nearI way x)) B
inductive R_overW : Rel
  | mk (n d m c : Nat) (x y : Rat) (B : Bag) (hx : Qz n d x) (hy : Qz m c y) (h1 : n ≤ 90000) (h2 : c ≤ 90000) (h3 : d ≤ 8900) (h4 : m ≤ 8900) (h : y ≠ 0) : R_overW [.da (fq x), .da (fq y)] B (fq (x / y)) B
section
variable {b p : Nat} {low high s c e : Int} (F : FmD b p low high) (h : NumD b p low high s c e)
include F h
theorem ndd_qz : Qz 1800 4701 ((c : Rat) * pw b e) := by
  obtain ⟨hs, c0, c1, l1, l2⟩ := h
  have hc : Qz 400 1 (c : Rat) := by
    refine ⟨?_, by rw [Rat.den_intCast]; unfold Bd; decide⟩
    rw [Rat.num_intCast]; unfold Bd; have := F.bp; omega
  exact (hc.mul (F.pn l1 l2)).le (by decide) (by decide)
theorem ndd_lt : (c : Rat) * pw b e < pw 10 400 := by
  obtain ⟨hs, c0, c1, l1, l2⟩ := h
  have b2 := F.b2
  have b0 : 0 < b := by omega
  have pe := pw_pos b2 e
  have e1 : pw b e ≤ ((b ^ high.toNat : Nat) : Rat) := by
    rw [← pw_nat]; exact pw_mono b2 (by omega)
  have e2 : (c : Rat) * pw b e < ((b ^ p : Nat) : Rat) * pw b e := by
    refine Rat.mul_lt_mul_of_pos_right ?_ pe
    rw [← Rat.intCast_natCast]; exact cast_lt.mpr c1
  have e3 : ((b ^ p : Nat) : Rat) * pw b e ≤ ((b ^ p : Nat) : Rat) * ((b ^ high.toNat : Nat) : Rat) := Rat.mul_le_mul_of_nonneg_left e1 (Rat.natCast_nonneg)
  have e4 : ((b ^ p : Nat) : Rat) * ((b ^ high.toNat : Nat) : Rat) ≤ pw 10 400 := by
    rw [show (400 : Int) = ((400 : Nat) : Int) from rfl, pw_nat, ← Rat.natCast_mul]; exact Rat.natCast_le_natCast.mpr F.bh
  exact Std.lt_of_lt_of_le e2 (Rat.le_trans e3 e4)
theorem ndd_ge (hc : 0 < c) : pw 10 (-1400) ≤ (c : Rat) * pw b e := by
  obtain ⟨hs, c0, c1, l1, l2⟩ := h
  have b2 := F.b2
  have e1 : pw b low ≤ pw b e := pw_mono b2 l1
  have e2 : pw 10 (-1400) ≤ pw b low := by
    have t1 : pw b (-low) ≤ pw 10 1400 := by
      refine Rat.le_trans (pw_mono b2 (show -low ≤ ((-low).toNat : Int) by omega)) ?_
      rw [pw_nat, show (1400 : Int) = ((1400 : Nat) : Int) from rfl, pw_nat]
      exact Rat.natCast_le_natCast.mpr F.bl
    have t2 : pw b low * pw b (-low) = 1 := by rw [← pw_add b2, show low + -low = 0 by omega, pw_zero]
    have t3 : pw 10 (-1400) * pw 10 1400 = 1 := by rw [← pw_add (by decide), show (-1400 : Int) + 1400 = 0 by decide, pw_zero]
    have t4 : pw 10 (-1400) * pw b low * pw b (-low) ≤ pw 10 (-1400) * pw b low * pw 10 1400 := Rat.mul_le_mul_of_nonneg_left t1 (Rat.le_of_lt (Rat.mul_pos (pw_pos (by decide) _) (pw_pos b2 _)))
    have t5 : pw 10 (-1400) * pw b low * pw b (-low) = pw 10 (-1400) := by rw [Rat.mul_assoc, t2, Rat.mul_one]
    have t6 : pw 10 (-1400) * pw b low * pw 10 1400 = pw b low := by
      calc pw 10 (-1400) * pw b low * pw 10 1400 = (pw 10 (-1400) * pw 10 1400) * pw b low := by grind
        _ = _ := by rw [t3, Rat.one_mul]
    rw [t5, t6] at t4
    exact t4
  have e3 : pw b e ≤ (c : Rat) * pw b e := by
    have : (1 : Rat) * pw b e ≤ (c : Rat) * pw b e := Rat.mul_le_mul_of_nonneg_right (by exact_mod_cast hc) (Rat.le_of_lt (pw_pos b2 e))
    rwa [Rat.one_mul] at this
  exact Rat.le_trans e2 (Rat.le_trans e1 e3)
theorem ndd_k (hc : 0 < c) {k : Int} (h1 : pw 10 k ≤ (c : Rat) * pw b e) (h2 : (c : Rat) * pw b e < pw 10 (k + 1)) : -1400 ≤ k ∧ k < 400 := by
  have a1 := ndd_lt F h
  have a2 := ndd_ge F h hc
  have m : ∀ {x y : Int}, pw 10 x < pw 10 y → x < y := fun {x y} z => Int.not_le.mp fun w => Rat.not_lt.mpr (pw_mono (by decide) w) z
  have u1 := m (Std.lt_of_le_of_lt h1 a1)
  have u2 := m (Std.lt_of_le_of_lt a2 h2)
  omega
end
theorem ten_qz {e : Int} (h1 : -2000 ≤ e) (h2 : e ≤ 2000) : (0 ≤ e → Qz 6650 1 (pw 10 e)) ∧ (e < 0 → Qz 1 6650 (pw 10 e)) ∧ Qz 6650 6650 (pw 10 e) := by
  have e1 := pw_num 10 (by decide) e
  have k : 10 ^ 2000 < 2 ^ 6650 := by decide +kernel
  have t : ∀ n : Nat, n ≤ 2000 → Bd 6650 ((10 ^ n : Nat) : Int) := fun n hn => by
    unfold Bd; rw [Int.natAbs_natCast]
    exact Nat.lt_of_le_of_lt (Nat.pow_le_pow_right (by decide) hn) k
  have z : ∀ x : Int, x ≤ 0 → Bd 1 ((10 ^ x.toNat : Nat) : Int) := fun x hx => by
    rw [show x.toNat = 0 by omega]; unfold Bd; decide
  refine ⟨fun h => ⟨?_, ?_⟩, fun h => ⟨?_, ?_⟩, ⟨?_, ?_⟩⟩
  · rw [e1.1]; exact t _ (by omega)
  · rw [e1.2]; exact z _ (by omega)
  · rw [e1.1]; exact z _ (by omega)
  · rw [e1.2]; exact t _ (by omega)
  · rw [e1.1]; exact t _ (by omega)
  · rw [e1.2]; exact t _ (by omega)
theorem ten_ne (e : Int) : pw 10 e ≠ 0 := fun z => by have := pw_pos (b := 10) (by decide) e; rw [z] at this; exact absurd this (by decide)
theorem ten_divp {q : Rat} {e : Int} (hq : Qz 1800 4701 q) (h1 : -2000 ≤ e) (h2 : e ≤ 2000) : CDivP (absI (q / pw 10 e).num) ((q / pw 10 e).den : Int) ∧ Bd 20000 ((q / pw 10 e).den : Int) ∧ Bd 8999 ((q / pw 10 e).num / ((q / pw 10 e).den : Int)) := by
  obtain ⟨t1, t2, t3⟩ := ten_qz h1 h2
  have hn := ten_ne e
  have d := hq.div t3 hn
  have ab : ∀ {n : Nat} {i : Int}, Bd n i → Bd n (absI i) := fun {n i} h => by unfold absI Bd at *; split <;> omega
  refine ⟨divp2 (den_pos _) ?_, d.de.le (by decide), ?_⟩
  · by_cases h : 0 ≤ e
    · exact .inr (ab ((hq.div (t1 h) hn).nu.le (by decide)))
    · exact .inl ((hq.div (t2 (by omega)) hn).de.le (by decide))
  · have := d.nu
    unfold Bd at this ⊢
    have dp := den_pos (q / pw 10 e)
    generalize (q / pw 10 e).num = N at *
    generalize ((q / pw 10 e).den : Int) = D at *
    have l1 : (N / D).natAbs ≤ N.natAbs := Int.natAbs_ediv_le_natAbs N D
    exact Nat.lt_of_le_of_lt l1 (Nat.lt_of_lt_of_le this (Nat.pow_le_pow_right (by decide) (by decide)))
theorem tn_sgn {b : Nat} (h2 : 2 ≤ b) {s c e at' : Int} (hs : s = 0 ∨ s = 1) (h0 : 0 ≤ c) : (Va.num s c e).wQ b / pw 10 at' ≠ 0 → s = sgn ((Va.num s c e).wQ b / pw 10 at') := by
  intro h
  have pe := pw_pos h2 e
  have pt := pw_pos (b := 10) (by decide) at'
  have hw : (Va.num s c e).wQ b = ((if s = 1 then -c else c : Int) : Rat) * pw b e := rfl
  have hi : (0 : Rat) < (pw 10 at')⁻¹ := Rat.inv_pos.mpr pt
  have c0 : c ≠ 0 := by
    rintro rfl
    apply h
    rw [hw]
    have : (if s = 1 then -(0 : Int) else 0) = 0 := by split <;> rfl
    rw [this, Rat.intCast_zero, Rat.zero_mul, Rat.div_def, Rat.zero_mul]
  unfold sgn
  rcases hs with rfl | rfl
  · rw [if_neg (fun z => ?_)]
    have z := (num_neg_iff _).mp z
    rw [hw, if_neg (by decide), Rat.div_def] at z
    have cp : (0 : Rat) ≤ (c : Rat) := by exact_mod_cast h0
    have := Rat.mul_nonneg (Rat.mul_nonneg cp (Rat.le_of_lt pe)) (Rat.le_of_lt hi)
    exact absurd z (Rat.not_lt.mpr this)
  · rw [if_pos]
    refine (num_neg_iff _).mpr ?_
    rw [hw, if_pos rfl, Rat.div_def, Rat.intCast_neg]
    have cp : (0 : Rat) < (c : Rat) := by exact_mod_cast (show 0 < c by omega)
    have := Rat.mul_pos (Rat.mul_pos cp pe) hi
    grind
theorem tn_abs {b : Nat} (h2 : 2 ≤ b) {s c e at' : Int} (h0 : 0 ≤ c) : absQ ((Va.num s c e).wQ b / pw 10 at') = (c : Rat) * pw b e / pw 10 at' := by
  have hi : (0 : Rat) < (pw 10 at')⁻¹ := Rat.inv_pos.mpr (pw_pos (b := 10) (by decide) at')
  rw [Rat.div_def, absQ_mul_pos _ hi, absQ_w h2 h0, Rat.div_def]
theorem ten_4401 : 10 ^ 4401 < 2 ^ 20000 := by decide +kernel
theorem top_cmp {n d : Nat} {q : Rat} {e : Int} (hn : 0 < n) (hd : 0 < d) (h : (n : Rat) = q * (d : Rat)) : ((10 ^ e.toNat : Nat) : Int) * d - n * ((10 ^ (-e).toNat : Nat) : Int) ≤ 0 ↔ pw 10 e ≤ q := by
  have dp : (0 : Rat) < (d : Rat) := Rat.natCast_pos.mpr hd
  have vp : (0 : Rat) < ((10 ^ (-e).toNat : Nat) : Rat) := Rat.natCast_pos.mpr (Nat.pow_pos (by decide))
  have ep : pw 10 e * ((10 ^ (-e).toNat : Nat) : Rat) = ((10 ^ e.toNat : Nat) : Rat) := by
    rw [← pw_nat, ← pw_add (by decide), ← pw_nat]; congr 1; omega
  have a : ((10 ^ e.toNat : Nat) : Int) * d - n * ((10 ^ (-e).toNat : Nat) : Int) ≤ 0 ↔ ((10 ^ e.toNat : Nat) : Int) * d ≤ n * ((10 ^ (-e).toNat : Nat) : Int) := by omega
  rw [a, ← Rat.intCast_le_intCast, Rat.intCast_mul, Rat.intCast_mul, Rat.intCast_natCast, Rat.intCast_natCast, Rat.intCast_natCast, Rat.intCast_natCast, h, ← ep]
  have e1 : pw 10 e * ((10 ^ (-e).toNat : Nat) : Rat) * (d : Rat) = pw 10 e * (((10 ^ (-e).toNat : Nat) : Rat) * (d : Rat)) := Rat.mul_assoc ..
  have e2 : q * (d : Rat) * ((10 ^ (-e).toNat : Nat) : Rat) = q * (((10 ^ (-e).toNat : Nat) : Rat) * (d : Rat)) := by grind
  rw [e1, e2]
  have pp := Rat.mul_pos vp dp
  exact ⟨fun z => Rat.le_of_mul_le_mul_right z pp, fun z => Rat.mul_le_mul_of_nonneg_right z (Rat.le_of_lt pp)⟩
theorem top_le {q : Rat} {e k : Int} (h1 : pw 10 e ≤ q) (h2 : q < pw 10 (k + 1)) : e ≤ k := by
  refine Decidable.byContradiction fun z => ?_
  exact Rat.not_lt.mpr (Std.le_trans (pw_mono (b := 10) (by decide) (show k + 1 ≤ e by omega)) h1) h2
theorem top_start {n d : Nat} {q : Rat} {k : Int} (hn : 0 < n) (hd : 0 < d) (h : (n : Rat) = q * (d : Rat)) (h2 : q < pw 10 (k + 1)) : (dl n : Int) - dl d - 1 ≤ k + 1 := by
  have h3 := top_le (e := (dl n : Int) - dl d - 1) (k := k) ((top_cmp hn hd h).mp ?_) h2
  · omega
  have a1 := dl_le hn
  have a2 := Nat.le_of_lt (lt_dl d)
  have p1 := dl_pos n
  generalize hx : ((dl n : Int) - dl d - 1).toNat = x
  generalize hy : (-((dl n : Int) - dl d - 1)).toNat = y
  have e1 : x + dl d ≤ dl n - 1 + y := by omega
  have c1 : 10 ^ x * d ≤ 10 ^ x * 10 ^ dl d := Nat.mul_le_mul_left _ a2
  have c2 : 10 ^ x * 10 ^ dl d ≤ 10 ^ (dl n - 1) * 10 ^ y := by rw [← Nat.pow_add, ← Nat.pow_add]; exact Nat.pow_le_pow_right (by decide) e1
  have c3 : 10 ^ (dl n - 1) * 10 ^ y ≤ n * 10 ^ y := Nat.mul_le_mul_right _ a1
  have c4 : 10 ^ x * d ≤ n * 10 ^ y := Nat.le_trans c1 (Nat.le_trans c2 c3)
  have c5 : ((10 ^ x * d : Nat) : Int) ≤ ((n * 10 ^ y : Nat) : Int) := Int.ofNat_le.mpr c4
  rw [Int.natCast_mul, Int.natCast_mul] at c5
  omega
theorem top_bound {n d : Nat} {q : Rat} {k : Int} (hn : 0 < n) (hd : 0 < d) (h : (n : Rat) = q * (d : Rat)) (h1 : pw 10 k ≤ q) (b1 : n < 10 ^ 4300) : k < 4300 := by
  have h3 := (top_cmp hn hd h).mpr h1
  refine Int.not_le.mp fun z => ?_
  have t : (-k).toNat = 0 := by omega
  rw [t, Nat.pow_zero] at h3
  have c1 : 10 ^ 4300 ≤ 10 ^ k.toNat := Nat.pow_le_pow_right (by decide) (by omega)
  have c2 : 10 ^ k.toNat * 1 ≤ 10 ^ k.toNat * d := Nat.mul_le_mul_left _ hd
  have c3 : ((10 ^ k.toNat * 1 : Nat) : Int) ≤ ((10 ^ k.toNat * d : Nat) : Int) := Int.ofNat_le.mpr c2
  rw [Int.natCast_mul, Int.natCast_mul] at c3
  omega
theorem at_rat {n d e : Int} {q : Rat} (h : (n : Rat) = q * (d : Rat)) : ((n * ((10 ^ (-e).toNat : Nat) : Int) : Int) : Rat) = q / pw 10 e * ((d * ((10 ^ e.toNat : Nat) : Int) : Int) : Rat) := by
  have ep : pw 10 e * ((10 ^ (-e).toNat : Nat) : Rat) = ((10 ^ e.toNat : Nat) : Rat) := by
    rw [← pw_nat, ← pw_add (by decide), ← pw_nat]; congr 1; omega
  rw [Rat.intCast_mul, Rat.intCast_mul, Rat.intCast_natCast, Rat.intCast_natCast, h, ← ep]
  have e1 : q / pw 10 e * ((d : Rat) * (pw 10 e * ((10 ^ (-e).toNat : Nat) : Rat))) = (q / pw 10 e * pw 10 e) * ((d : Rat) * ((10 ^ (-e).toNat : Nat) : Rat)) := by grind
  rw [e1, Rat.div_mul_cancel (ten_ne e)]
  grind
theorem at_bits {n d e : Int} (h1 : Bd 2000 n) (h2 : Bd 4700 d) (e1 : -2000 ≤ e) (e2 : e ≤ 2000) :
    Bd 8650 (n * ((10 ^ (-e).toNat : Nat) : Int)) ∧ Bd 11350 (d * ((10 ^ e.toNat : Nat) : Int)) ∧ Bd 6650 ((10 ^ (-e).toNat : Nat) : Int) ∧ Bd 6650 ((10 ^ e.toNat : Nat) : Int) ∧ (Bd 8999 (d * ((10 ^ e.toNat : Nat) : Int)) ∨ Bd 8999 (n * ((10 ^ (-e).toNat : Nat) : Int))) := by
  have k : 10 ^ 2000 < 2 ^ 6650 := by decide +kernel
  have t : ∀ m : Nat, m ≤ 2000 → Bd 6650 ((10 ^ m : Nat) : Int) := fun m hm => by
    unfold Bd; rw [Int.natAbs_natCast]
    exact Nat.lt_of_le_of_lt (Nat.pow_le_pow_right (by decide) hm) k
  have t1 := t (-e).toNat (by omega)
  have t2 := t e.toNat (by omega)
  refine ⟨h1.mul t1, h2.mul t2, t1, t2, .inr ((h1.mul t1).le (by decide))⟩
theorem at_c {way : Str} {s N D : Int} {y : Rat} {g : Int} (g0 : 0 < g) (hN : Bd 8650 N) (hy : 0 ≤ y) (h : N = y.num * g) : Bd 8651 (toC way s y) := by
  have t := toC_ge (way := way) (s := s) (y := y)
  have dp := den_pos y
  have n0 : 0 ≤ y.num := Rat.num_nonneg.mpr hy
  have l0 : 0 ≤ y.num / (y.den : Int) := Int.ediv_nonneg n0 (by omega)
  have l1 : y.num / (y.den : Int) ≤ y.num := Int.ediv_le_self _ n0
  have l2 : y.num * 1 ≤ y.num * g := Int.mul_le_mul_of_nonneg_left (by omega) n0
  unfold Bd at hN ⊢
  have k : 2 ^ 8650 + 1 ≤ 2 ^ 8651 := by decide +kernel
  omega
theorem size_nd {b p : Nat} {low high s c e : Int} (F : FmD b p low high) (h : NumD b p low high s c e) (hc : 0 < c) :
    ∃ n d : Nat, 0 < n ∧ 0 < d ∧ (n : Rat) = (c : Rat) * pw b e * (d : Rat) ∧ c * ((b ^ e.toNat : Nat) : Int) = n ∧ ((b ^ (-e).toNat : Nat) : Int) = d ∧ n < 10 ^ 4300 ∧ d < 10 ^ 4300 ∧ Bd 2000 (n : Int) ∧ Bd 4700 (d : Int) := by
  obtain ⟨s01, c0, c1, l1, l2⟩ := h
  have b2 := F.b2
  have pn := F.pn l1 l2
  have e1 := pw_num b b2 e
  have h1 := pn.nu; have h2 := pn.de
  rw [e1.1] at h1; rw [e1.2] at h2
  have hcb : Bd 400 c := by unfold Bd; have := F.bp; omega
  have h3 := hcb.mul h1
  obtain ⟨m, rfl⟩ : ∃ m : Nat, c = (m : Int) := ⟨c.toNat, by omega⟩
  have bp : 0 < b ^ e.toNat := Nat.pow_pos (by omega)
  have bq : 0 < b ^ (-e).toNat := Nat.pow_pos (by omega)
  have k1 : 2 ^ 1800 < 10 ^ 4300 := by decide +kernel
  have k2 : 2 ^ 4700 < 10 ^ 4300 := by decide +kernel
  have ep : pw b e * ((b ^ (-e).toNat : Nat) : Rat) = ((b ^ e.toNat : Nat) : Rat) := by
    rw [← pw_nat, ← pw_add b2, ← pw_nat]; congr 1; omega
  rw [← Int.natCast_mul] at h3
  refine ⟨m * b ^ e.toNat, b ^ (-e).toNat, Nat.mul_pos (by omega) bp, bq, ?_, by rw [Int.natCast_mul], rfl, ?_, ?_, h3.le (by decide), h2⟩
  · rw [Rat.natCast_mul, Rat.mul_assoc, ep, Rat.intCast_natCast]
  · unfold Bd at h3; rw [Int.natAbs_natCast] at h3; exact Nat.lt_trans h3 k1
  · unfold Bd at h2; rw [Int.natAbs_natCast] at h2; exact Nat.lt_trans h2 k2
def natI (n : Nat) : PyData := .int (n : Int)
theorem td_form {way : Str} {s : Int} {q : Rat} {k : Int} {many : Nat} (h1 : pw 10 k ≤ q) (h2 : q < pw 10 (k + 1)) (m1 : 1 ≤ many) :
    ∃ (C : Nat) (e : Int) (b : Bool), tdP way s q k many = .tuple [.tuple [.int s, .int (C : Int), .int e], .bool b] ∧ 10 ^ (many - 1) ≤ C ∧ C < 10 ^ many ∧ (e = k + 2 - many ∨ e = k + 1 - many) := by
  have b1 : pw 10 ((many - 1 : Nat) : Int) * pw 10 (k + 1 - many) = pw 10 k := by rw [← pw_add (by decide)]; congr 1; omega
  have b2 : pw 10 (many : Int) * pw 10 (k + 1 - many) = pw 10 (k + 1) := by rw [← pw_add (by decide)]; congr 1; omega
  have pp := pw_pos (b := 10) (by decide) (k + 1 - many)
  have hy : q / pw 10 (k + 1 - many) * pw 10 (k + 1 - many) = q := Rat.div_mul_cancel (ten_ne _)
  have y1 : pw 10 ((many - 1 : Nat) : Int) ≤ q / pw 10 (k + 1 - many) := Rat.le_of_mul_le_mul_right (by rw [b1, hy]; exact h1) pp
  have y2 : q / pw 10 (k + 1 - many) < pw 10 (many : Int) := Rat.lt_of_mul_lt_mul_right (by rw [b2, hy]; exact h2) (Rat.le_of_lt pp)
  unfold tdP
  generalize q / pw 10 (k + 1 - many) = y at *
  rw [pw_nat] at y1 y2
  have dp := den_pos y
  have n1 : ((10 ^ (many - 1) : Nat) : Int) * (y.den : Int) ≤ y.num := by
    have := Rat.mul_le_mul_of_nonneg_right y1 (show (0 : Rat) ≤ ((y.den : Int) : Rat) from by exact_mod_cast (Int.le_of_lt dp))
    rw [num_den, ← Rat.intCast_natCast, ← Rat.intCast_mul] at this
    exact_mod_cast this
  have n2 : y.num < ((10 ^ many : Nat) : Int) * (y.den : Int) := by
    have := Rat.mul_lt_mul_of_pos_right y2 (show (0 : Rat) < ((y.den : Int) : Rat) from by exact_mod_cast dp)
    rw [num_den, ← Rat.intCast_natCast, ← Rat.intCast_mul] at this
    exact_mod_cast this
  have l1 : ((10 ^ (many - 1) : Nat) : Int) ≤ y.num / (y.den : Int) := (Int.le_ediv_iff_mul_le dp).mpr n1
  have l2 : y.num / (y.den : Int) < ((10 ^ many : Nat) : Int) := Int.ediv_lt_of_lt_mul dp n2
  have tg := toC_ge (way := way) (s := s) (y := y)
  by_cases z : toC way s y = ((10 ^ many : Nat) : Int)
  · rw [if_pos z]
    exact ⟨10 ^ (many - 1), k + 2 - many, _, rfl, Nat.le_refl _, Nat.pow_lt_pow_right (by decide) (by omega), .inl rfl⟩
  · rw [if_neg z]
    have u0 : (0 : Int) ≤ ((10 ^ (many - 1) : Nat) : Int) := Int.natCast_nonneg _
    have t0 : 0 ≤ toC way s y := by omega
    refine ⟨(toC way s y).toNat, k + 1 - many, _, by rw [Int.toNat_of_nonneg t0]; rfl, by omega, by omega, .inr rfl⟩
theorem okb_told {s C e : Int} {b : Bool} (hs : s = 0 ∨ s = 1) (hC : Bd 12000 C) (he : Bd 60 e) : OkB (.tuple [.tuple [.int s, .int C, .int e], .bool b]) := by
  have l : ∀ {i : Int}, Bd 12000 i → decide (Nat.log2 i.natAbs < 12900) = true := fun {i} h => decide_eq_true (PySem.Flt.log2_lt_of (by decide) (Nat.lt_of_lt_of_le h (Nat.pow_le_pow_right (by decide) (by decide))))
  have ls : Bd 12000 s := Bd.le (n := 60) (by unfold Bd; omega) (by decide)
  refine ⟨?_, ?_, ?_⟩
  · simp only [niceB, niceBAll, l ls, l hC, l (he.le (by decide)), Bool.and_self]
  · simp only [PyData.depth, PyData.depthAll]; decide
  · simp only [PyData.bulk, PyData.bulkAll]; decide
theorem told_bd {C : Nat} (h : C < 10 ^ 400) : Bd 12000 (C : Int) := by
  unfold Bd; rw [Int.natAbs_natCast]
  exact Nat.lt_trans h (by decide +kernel)
theorem place_bd {b p : Nat} {low high s c e e' : Int} {way : Str} (F : FmD b p low high) (h : NumD b p low high s c e) (h1 : -2000 ≤ e') (h2 : e' ≤ 2000) : Bd 12000 (toC way s ((c : Rat) * pw b e / pw 10 e')) := by
  have t := (ten_divp (ndd_qz F h) h1 h2).2.2
  have g := toC_ge (way := way) (s := s) (y := (c : Rat) * pw b e / pw 10 e')
  have k : 2 ^ 8999 + 1 ≤ 2 ^ 12000 := by decide +kernel
  unfold Bd at t ⊢
  omega
end Lw
set_option exponentiation.threshold 20000
namespace K42
open PySem PySem.Spec PyProof.Rows L2 Gd Fr Lw
open scoped Rat

def topS (i : Nat) : Stmt := PySem.Challenge.pw_nearestheld_k42_told_digits_and_places.main.body.getD i (.Pass ⟨0, 0, 0, 0⟩)
variable {P : Program} {w : World} {K : PySem.W.Frag} {mg : Str → Option Value} {base : Heap}

abbrev s_integer_power : Stmt := topS 2
theorem sc_integer_power : FnScope ["base", "e", "power"] ["base", "e"] (defScope s_integer_power) := ⟨rfl, rfl, rfl, by decide +kernel, rfl, by decide +kernel, by decide +kernel⟩

theorem c_of_integer_power (T : At K mg "integer_power" s_integer_power ["base", "e"]) : Cal P w K mg base "integer_power" 4 R_pow :=
  cal_at T sc_integer_power (by rintro _ _ _ _ ⟨⟩; rfl) fun f cd0 A out s H E G Γ B r B' hR => by
  obtain ⟨b, e, B, hb, he⟩ := hR
  refine sj_set 2 G.nd ej_int ?_
  refine sj_while G.nd (fun Γ' B' => ∃ k m j : Nat, Γ' = [.da (.int ((b ^ k : Nat) : Int)), .da (.int m), .da (.int ((b ^ j : Nat) : Int))] ∧ j + k * m = e ∧ B' = B) (fun Γ' _ => (intAt Γ' 1).toNat)
    ⟨1, e, 0, by rw [Nat.pow_one]; rfl, by omega, rfl⟩ ?_
  rintro Γ' B' ⟨k, m, j, rfl, hk, rfl⟩
  refine ⟨_, tj_gt (ej_dat 1) ej_int, fun h => ?_, fun h => ?_⟩
  · have hm : 0 < m := by have := of_decide_eq_true h; omega
    obtain ⟨k1, j1⟩ := k_le hk hm
    refine sj_ifM (fun Γ' B2 => ∃ j' : Nat, Γ' = [.da (.int ((b ^ k : Nat) : Int)), .da (.int m), .da (.int ((b ^ j' : Nat) : Int))] ∧ j' + (k + k) * (m / 2) = e ∧ B2 = B') (tj_eqI G.hu (ej_mod (ej_dat 1) ej_int (by decide)) ej_int) (fun h1 => ?_) (fun h1 => ?_) ?_
    · refine sj_set 2 G.nd (ej_mul (ej_dat 2) (ej_dat 0) (cm (bd_pow j hb) (bd_pow k hb) (by omega))) (sj_nil ?_)
      rw [pow_up]
      exact ⟨j + k, rfl, turn_odd hk (by have := of_decide_eq_true h1; omega), rfl⟩
    · exact sj_nil ⟨j, rfl, turn_even hk (by have := of_decide_eq_false h1; omega), rfl⟩
    · rintro Γ2 B2 ⟨j', rfl, hj', rfl⟩
      refine sj_set 0 G.nd (ej_mul (ej_dat 0) (ej_dat 0) (cm (bd_pow k hb) (bd_pow k hb) (by omega))) ?_
      refine sj_set 1 G.nd (ej_fdiv (ej_dat 1) ej_int (cdv (show Bd 2 2 from by unfold Bd; decide) (by decide))) (sj_nil ?_)
      rw [pow_sq, half]
      exact ⟨⟨k + k, m / 2, j', rfl, hj', rfl⟩, show ((m / 2 : Nat) : Int).toNat < (m : Int).toNat by omega⟩
  · have hm : ¬ 0 < m := by have := of_decide_eq_false h; omega
    have := j_end hk hm
    subst this
    exact sj_ret (ej_dat 2) ⟨rfl, rfl⟩

abbrev s_reduced : Stmt := topS 4
theorem sc_reduced : FnScope ["n", "d", "ahead", "behind", "twos", "common"] ["n", "d"] (defScope s_reduced) := ⟨rfl, rfl, rfl, by decide +kernel, rfl, by decide +kernel, by decide +kernel⟩

theorem c_of_reduced (m_gcd : mg "gcd" = some (.builtin "math.gcd")) (m_min : mg "min" = none) (c_u_twos_in : Cal P w K mg base "_twos_in" 1 R_twos) (T : At K mg "reduced" s_reduced ["n", "d"]) : Cal P w K mg base "reduced" 3 R_reduced :=
  cal_at T sc_reduced (by rintro _ _ _ _ ⟨⟩; rfl) fun f cd0 A out s H E G Γ B r B' hR => by
  obtain ⟨n, d, B, hd, hb⟩ := hR
  refine sj_when (tj_eqI G.hu (ej_dat 0) ej_int) (fun h => ?_) (fun h => ?_)
  · have h0 : n = 0 := of_decide_eq_true h
    subst h0
    exact sj_ret (ej_tupD (ad_cons ej_int (ad_cons ej_int ad_nil)) (Nat.le_of_ble_eq_true rfl)) ⟨by rw [Rat.zero_divInt]; rfl, rfl⟩
  · have hn : n ≠ 0 := of_decide_eq_false h
    obtain ⟨i, a, rfl⟩ := tw_ex hn
    obtain ⟨j, b, rfl⟩ := tw_ex hd
    refine sj_par 2 3 G.nd G.calm (aj_cons (ej_call c_u_twos_in (G.le (by decide)) (aj_cons (ej_dat 0) aj_nil) (R_twos.mk i a B)) (aj_cons (ej_call c_u_twos_in (G.le (by decide)) (aj_cons (ej_dat 1) aj_nil) (R_twos.mk j b B)) aj_nil)) ?_ (by decide) (by rfl)
    obtain ⟨t, hi, hj, ht, em⟩ : ∃ t : Nat, t ≤ i ∧ t ≤ j ∧ (t = i ∨ t = j) ∧ min (i : Int) (j : Int) = (t : Int) := ⟨min i j, by omega, by omega, by omega, by omega⟩
    refine sj_set 4 G.nd (ej_is (ej_min G.calm m_min (ej_dat 2) (ej_dat 3)) (congrArg PyData.int em)) ?_
    refine sj_par 0 1 G.nd G.calm (aj_cons (ej_is (ej_shr (ej_dat 0) (ej_dat 4)) (congrArg PyData.int (tw_shr hi a))) (aj_cons (ej_is (ej_shr (ej_dat 1) (ej_dat 4)) (congrArg PyData.int (tw_shr hj b))) aj_nil)) ?_ (by decide) (by rfl)
    have ek : (j : Int) - (t : Int) = ((j - t : Nat) : Int) := by omega
    have e0 : tw (j - t) b / 2 ^ (j - t) = tw 0 b := by rw [tw_shr (Nat.le_refl _), Nat.sub_self]
    refine sj_set 5 G.nd (ej_gcd m_gcd (ej_dat 0) (ej_is (ej_shr (ej_dat 1) (ej_is (ej_sub (ej_dat 3) (ej_dat 4)) (congrArg PyData.int ek))) (congrArg PyData.int e0))) ?_
    have hd' : tw (j - t) b ≠ 0 := tw_ne _ _
    have eg : Nat.gcd (tw (i - t) a).natAbs (tw 0 b).natAbs = Nat.gcd (tw (i - t) a).natAbs (tw (j - t) b).natAbs := by
      refine (gcd_odd _ b ?_).symm
      rcases ht with rfl | rfl
      · left; rw [Nat.sub_self]; exact tw_odd a
      · right; exact Nat.sub_self _
    rw [eg, divInt_tw hi hj a b]
    have hb' : Bd 8900 (tw (j - t) b) := bd_tw hb (Nat.sub_le _ _)
    have cx : ∀ m, CDivX m (com (tw (i - t) a) (tw (j - t) b)) := fun m => cdx (com_bd hd' hb') (com_ne hd')
    refine sj_if (tj_lt (ej_dat 1) ej_int) (fun h => ?_) (fun h => ?_)
    · refine sj_set 5 G.nd (ej_neg (ej_dat 5)) (sj_nil ?_)
      have e : -((Nat.gcd (tw (i - t) a).natAbs (tw (j - t) b).natAbs : Nat) : Int) = com (tw (i - t) a) (tw (j - t) b) := (if_pos (of_decide_eq_true h)).symm
      rw [e]
      exact sj_ret (ej_tupD (ad_cons (ej_fdivX (ej_dat 0) (ej_dat 5) (cx _)) (ad_cons (ej_fdivX (ej_dat 1) (ej_dat 5) (cx _)) ad_nil)) (Nat.le_of_ble_eq_true rfl)) ⟨by rw [red_num hd', red_den hd']; rfl, rfl⟩
    · refine sj_nil ?_
      have e : ((Nat.gcd (tw (i - t) a).natAbs (tw (j - t) b).natAbs : Nat) : Int) = com (tw (i - t) a) (tw (j - t) b) := (if_neg (of_decide_eq_false h)).symm
      rw [e]
      exact sj_ret (ej_tupD (ad_cons (ej_fdivX (ej_dat 0) (ej_dat 5) (cx _)) (ad_cons (ej_fdivX (ej_dat 1) (ej_dat 5) (cx _)) ad_nil)) (Nat.le_of_ble_eq_true rfl)) ⟨by rw [red_num hd', red_den hd']; rfl, rfl⟩

abbrev s_times : Stmt := topS 5
theorem sc_times : FnScope ["one", "other", "first", "right", "second", "left"] ["one", "other"] (defScope s_times) := ⟨rfl, rfl, rfl, by decide +kernel, rfl, by decide +kernel, by decide +kernel⟩

theorem c_of_times (c_reduced : Cal P w K mg base "reduced" 3 R_reduced) (T : At K mg "times" s_times ["one", "other"]) : Cal P w K mg base "times" 4 (R_two (· * ·)) :=
  cal_at T sc_times (by rintro _ _ _ _ ⟨⟩; rfl) fun f cd0 A out s H E G Γ B r B' hR => by
  obtain ⟨n, d, m, c, x, y, B, hx, hy, h1, h2, h3⟩ := hR
  obtain ⟨b1, b2⟩ := divInt_bd (den_ne y) hx.nu hy.de
  obtain ⟨b3, b4⟩ := divInt_bd (den_ne x) hy.nu hx.de
  refine sj_unpack [2, 3] (ds := [.int (x.num /. (y.den : Int)).num, .int ((x.num /. (y.den : Int)).den : Int)]) G.calm (ej_call c_reduced (G.le (by decide)) (aj_cons (ej_at (ej_dat (d := fq x) 0)) (aj_cons (ej_at (ej_dat (d := fq y) 1)) aj_nil)) (R_reduced.mk _ _ _ (den_ne y) (hy.de.le (by omega)))) (pgs_cons (pg_name (i := 2) G.nd rfl (Or.inl rfl)) (pgs_cons (pg_name (i := 3) G.nd rfl (Or.inl rfl)) pgs_nil)) rfl ?_
  refine sj_unpack [4, 5] (ds := [.int (y.num /. (x.den : Int)).num, .int ((y.num /. (x.den : Int)).den : Int)]) G.calm (ej_call c_reduced (G.le (by decide)) (aj_cons (ej_at (ej_dat (d := fq y) 1)) (aj_cons (ej_at (ej_dat (d := fq x) 0)) aj_nil)) (R_reduced.mk _ _ _ (den_ne x) (hx.de.le (by omega)))) (pgs_cons (pg_name (i := 4) G.nd rfl (Or.inl rfl)) (pgs_cons (pg_name (i := 5) G.nd rfl (Or.inl rfl)) pgs_nil)) rfl ?_
  exact sj_ret (ej_tupD (ad_cons (ej_mul (ej_dat 2) (ej_dat 4) (cmz b1 b3)) (ad_cons (ej_mul (ej_dat 5) (ej_dat 3) (cmz b4 b2)) ad_nil)) (Nat.le_of_ble_eq_true rfl)) ⟨mul_by x y, rfl⟩
theorem c_of_timesW (c_reduced : Cal P w K mg base "reduced" 3 R_reduced) (T_times : At K mg "times" s_times ["one", "other"]) : Cal P w K mg base "times" 4 R_timesW :=
  cal_at T_times sc_times (by rintro _ _ _ _ ⟨⟩; rfl) fun f cd0 A out s H E G Γ B r B' hR => by
  obtain ⟨n, d, m, c, x, y, B, hx, hy, h1, h2, h3, h4⟩ := hR
  obtain ⟨b1, b2⟩ := divInt_bd (den_ne y) hx.nu hy.de
  obtain ⟨b3, b4⟩ := divInt_bd (den_ne x) hy.nu hx.de
  refine sj_unpack [2, 3] (ds := [.int (x.num /. (y.den : Int)).num, .int ((x.num /. (y.den : Int)).den : Int)]) G.calm (ej_call c_reduced (G.le (by decide)) (aj_cons (ej_at (ej_dat (d := fq x) 0)) (aj_cons (ej_at (ej_dat (d := fq y) 1)) aj_nil)) (R_reduced.mk _ _ _ (den_ne y) (hy.de.le (by omega)))) (pgs_cons (pg_name (i := 2) G.nd rfl (Or.inl rfl)) (pgs_cons (pg_name (i := 3) G.nd rfl (Or.inl rfl)) pgs_nil)) rfl ?_
  refine sj_unpack [4, 5] (ds := [.int (y.num /. (x.den : Int)).num, .int ((y.num /. (x.den : Int)).den : Int)]) G.calm (ej_call c_reduced (G.le (by decide)) (aj_cons (ej_at (ej_dat (d := fq y) 1)) (aj_cons (ej_at (ej_dat (d := fq x) 0)) aj_nil)) (R_reduced.mk _ _ _ (den_ne x) (hx.de.le (by omega)))) (pgs_cons (pg_name (i := 4) G.nd rfl (Or.inl rfl)) (pgs_cons (pg_name (i := 5) G.nd rfl (Or.inl rfl)) pgs_nil)) rfl ?_
  exact sj_ret (ej_tupD (ad_cons (ej_mul (ej_dat 2) (ej_dat 4) (cmz b1 b3)) (ad_cons (ej_mul (ej_dat 5) (ej_dat 3) (cmz b4 b2)) ad_nil)) (Nat.le_of_ble_eq_true rfl)) ⟨mul_by x y, rfl⟩

abbrev s_over : Stmt := topS 6
theorem sc_over : FnScope ["one", "other", "n", "d"] ["one", "other"] (defScope s_over) := ⟨rfl, rfl, rfl, by decide +kernel, rfl, by decide +kernel, by decide +kernel⟩

theorem c_of_over (c_timesW : Cal P w K mg base "times" 4 R_timesW) (T : At K mg "over" s_over ["one", "other"]) : Cal P w K mg base "over" 5 R_overW :=
  cal_at T sc_over (by rintro _ _ _ _ ⟨⟩; rfl) fun f cd0 A out s H E G Γ B r B' hR => by
  obtain ⟨n, d, m, c, x, y, B, hx, hy, h1, h2, h3, h4, h0⟩ := hR
  refine sj_unpack [2, 3] (ds := [.int y.num, .int (y.den : Int)]) G.calm (ej_dat (d := fq y) 1) (pgs_cons (pg_name (i := 2) G.nd rfl (Or.inl rfl)) (pgs_cons (pg_name (i := 3) G.nd rfl (Or.inl rfl)) pgs_nil)) rfl ?_
  refine sj_ret (ej_call c_timesW (G.le (by decide)) (aj_cons (ej_dat 0) (aj_cons (ej_if (d := .da (fq y⁻¹)) (tj_lt (ej_dat 2) ej_int) (fun h => ?_) (fun h => ?_)) aj_nil)) (R_timesW.mk n d c m x y⁻¹ B hx (qz_inv hy h0) h1 h2 h3 h4)) ⟨by show fq _ = fq _; rw [Rat.div_def], rfl⟩
  · exact ej_is (ej_tupD (ad_cons (ej_neg (ej_dat 3)) (ad_cons (ej_neg (ej_dat 2)) ad_nil)) (Nat.le_of_ble_eq_true rfl)) (fq_invN (of_decide_eq_true h))
  · exact ej_is (ej_tupD (ad_cons (ej_dat 3) (ad_cons (ej_dat 2) ad_nil)) (Nat.le_of_ble_eq_true rfl)) (fq_invP h0 (of_decide_eq_false h))

abbrev s_size_of : Stmt := topS 7
theorem sc_size_of : FnScope ["one"] ["one"] (defScope s_size_of) := ⟨rfl, rfl, rfl, by decide +kernel, rfl, by decide +kernel, by decide +kernel⟩

theorem c_of_size_of (m_abs : mg "abs" = none) (T : At K mg "size_of" s_size_of ["one"]) : Cal P w K mg base "size_of" 4 (R_one fun x => fq (absQ x)) :=
  cal_at T sc_size_of (by rintro _ _ _ _ ⟨⟩; rfl) fun f cd0 A out s H E G Γ B r B' hR => by
  obtain ⟨x, B⟩ := hR
  refine sj_ret (ej_tupD (ad_cons (ej_abs m_abs (ej_at (ej_dat 0))) (ad_cons (ej_at (ej_dat 0)) ad_nil)) (Nat.le_of_ble_eq_true rfl)) ⟨?_, rfl⟩
  unfold fq
  rw [(absQ_num x).1, (absQ_num x).2]

abbrev s_power_of : Stmt := topS 8
theorem sc_power_of : FnScope ["base", "e"] ["base", "e"] (defScope s_power_of) := ⟨rfl, rfl, rfl, by decide +kernel, rfl, by decide +kernel, by decide +kernel⟩

theorem c_of_power_of (c_integer_power : Cal P w K mg base "integer_power" 4 R_pow) (T : At K mg "power_of" s_power_of ["base", "e"]) : Cal P w K mg base "power_of" 5 R_power_of :=
  cal_at T sc_power_of (by rintro _ _ _ _ ⟨⟩; rfl) fun f cd0 A out s H E G Γ B r B' hR => by
  obtain ⟨b, e, B, h0, hb, h1, h2⟩ := hR
  refine sj_when (tj_lt (ej_dat 1) ej_int) (fun h => ?_) (fun h => ?_)
  · have he : e < 0 := of_decide_eq_true h
    have hn : -e = ((-e).toNat : Int) := by omega
    refine sj_ret (ej_tupD (ad_cons ej_int (ad_cons (ej_call c_integer_power (G.le (by decide)) (aj_cons (ej_dat 0) (aj_cons (ej_is (ej_neg (ej_dat 1)) (congrArg PyData.int hn)) aj_nil)) (R_pow.mk b (-e).toNat B hb (by omega))) ad_nil)) (Nat.le_of_ble_eq_true rfl)) ⟨?_, rfl⟩
    unfold pw
    rw [if_pos he, fq_inv (Nat.pow_pos h0)]
  · have he : ¬ e < 0 := of_decide_eq_false h
    have hn : e = (e.toNat : Int) := by omega
    refine sj_ret (ej_tupD (ad_cons (ej_call c_integer_power (G.le (by decide)) (aj_cons (ej_dat 0) (aj_cons (ej_is (ej_dat 1) (congrArg PyData.int hn)) aj_nil)) (R_pow.mk b e.toNat B hb (by omega))) (ad_cons ej_int ad_nil)) (Nat.le_of_ble_eq_true rfl)) ⟨?_, rfl⟩
    unfold pw
    rw [if_neg he, fq_nat]


abbrev s_nearest_integer : Stmt := topS 9
theorem sc_nearest_integer : FnScope ["way", "one", "s", "size", "left"] ["way", "one"] (defScope s_nearest_integer) := ⟨rfl, rfl, rfl, by decide +kernel, rfl, by decide +kernel, by decide +kernel⟩

theorem c_of_nearest_integer (m_abs : mg "abs" = none) (m_divmod : mg "divmod" = none) (c_sign_of_fraction : Cal P w K mg base "sign_of_fraction" 4 (R_one fun x => .int (sgn x))) (c_part_of : Cal P w K mg base "part_of" 4 R_part)
    (c_is_taken_outward : Cal P w K mg base "is_taken_outward" 4 R_outw) (T : At K mg "nearest_integer" s_nearest_integer ["way", "one"]) : Cal P w K mg base "nearest_integer" 5 R_nearW :=
  cal_at T sc_nearest_integer (by rintro _ _ _ _ ⟨⟩; rfl) fun f cd0 A out s H E G Γ B r B' hR => by
  obtain ⟨way, x, B, hp, hd⟩ := hR
  refine sj_set 2 G.nd (ej_call c_sign_of_fraction (G.le (by decide)) (aj_cons (ej_dat 1) aj_nil) (R_one.mk x B)) ?_
  refine sj_unpack [3, 4] G.calm (ej_divmodP m_divmod (ej_abs m_abs (ej_at (ej_dat 1))) (ej_at (ej_dat 1)) hp) (pgs_cons (pg_name (i := 3) G.nd rfl (Or.inl rfl)) (pgs_cons (pg_name (i := 4) G.nd rfl (Or.inl rfl)) pgs_nil)) rfl ?_
  refine sj_ifM (fun Γ' B2 => ∃ c', Γ' = [.da (.str way), .da (fq x), .da (.int (sgn x)), .da (.int c'), .da (.int (absI x.num % (x.den : Int)))] ∧ nearI way x = (if sgn x = 1 then -c' else c') ∧ B2 = B)
    (tj_val (ej_call c_is_taken_outward (G.le (by decide)) (aj_cons (ej_dat 0) (aj_cons (ej_dat 2) (aj_cons (ej_dat 3) (aj_cons (ej_call c_part_of (G.le (by decide)) (aj_cons (ej_dat 4) (aj_cons (ej_at (ej_dat 1)) aj_nil)) (R_part.mk _ _ B 20000 (hd.mod (den_pos x)) (by omega))) aj_nil)))) (R_outw.mk way _ _ _ B))) (fun h => ?_) (fun h => ?_) ?_
  · refine sj_set 3 G.nd (ej_add (ej_dat 3) ej_int) (sj_nil ⟨absI x.num / (x.den : Int) + 1, rfl, ?_, rfl⟩)
    have h' : outw way (sgn x) (absI x.num / (x.den : Int)) (pt (absI x.num % (x.den : Int)) (x.den : Int)) = true := h
    dsimp only [nearI]
    rw [if_pos h']
  · refine sj_nil ⟨absI x.num / (x.den : Int), rfl, ?_, rfl⟩
    have h' : ¬ outw way (sgn x) (absI x.num / (x.den : Int)) (pt (absI x.num % (x.den : Int)) (x.den : Int)) = true := by
      intro z; rw [show outw way (sgn x) (absI x.num / (x.den : Int)) (pt (absI x.num % (x.den : Int)) (x.den : Int)) = false from h] at z; cases z
    dsimp only [nearI]
    rw [if_neg h']
  · rintro Γ2 B2 ⟨c', rfl, e, rfl⟩
    rw [e]
    refine sj_ret (ej_ifI (tj_eqI G.hu (ej_dat 2) ej_int) (fun _ => (ej_neg (ej_dat 3))) fun _ => (ej_dat 3)) ⟨?_, rfl⟩
    by_cases h : sgn x = 1
    · rw [if_pos h, decide_eq_true h]; rfl
    · rw [if_neg h, decide_eq_false h]; rfl

abbrev s_sign_of_fraction : Stmt := topS 10
theorem sc_sign_of_fraction : FnScope ["one"] ["one"] (defScope s_sign_of_fraction) := ⟨rfl, rfl, rfl, by decide +kernel, rfl, by decide +kernel, by decide +kernel⟩

theorem c_of_sign_of_fraction (T : At K mg "sign_of_fraction" s_sign_of_fraction ["one"]) : Cal P w K mg base "sign_of_fraction" 4 (R_one fun x => .int (sgn x)) :=
  cal_at T sc_sign_of_fraction (by rintro _ _ _ _ ⟨⟩; rfl) fun f cd0 A out s H E G Γ B r B' hR => by
  obtain ⟨x, B⟩ := hR
  refine sj_ret (ej_ifI (tj_lt (ej_at (ej_dat 0)) ej_int) (fun _ => ej_int) fun _ => ej_int) ⟨?_, rfl⟩
  unfold sgn
  by_cases h : x.num < 0
  · rw [if_pos h, decide_eq_true h]; rfl
  · rw [if_neg h, decide_eq_false h]; rfl

abbrev s_part_of : Stmt := topS 11
theorem sc_part_of : FnScope ["left", "whole"] ["left", "whole"] (defScope s_part_of) := ⟨rfl, rfl, rfl, by decide +kernel, rfl, by decide +kernel, by decide +kernel⟩

theorem c_of_part_of (T : At K mg "part_of" s_part_of ["left", "whole"]) : Cal P w K mg base "part_of" 4 R_part :=
  cal_at T sc_part_of (by rintro _ _ _ _ ⟨⟩; rfl) fun f cd0 A out s H E G Γ B r B' hR => by
  obtain ⟨l, m, B, n, hl, hn⟩ := hR
  have cm2 : CMulW 2 l := cm (n := 2) (by unfold Bd; decide) hl (by omega)
  refine sj_when (tj_eqI G.hu (ej_dat 0) ej_int) (fun h => ?_) (fun h => ?_)
  · exact sj_ret ej_int ⟨by unfold pt; rw [if_pos (of_decide_eq_true h)], rfl⟩
  · refine sj_when (tj_lt (ej_mul ej_int (ej_dat 0) cm2) (ej_dat 1)) (fun h2 => ?_) (fun h2 => ?_)
    · exact sj_ret ej_int ⟨by unfold pt; rw [if_neg (of_decide_eq_false h), if_pos (of_decide_eq_true h2)], rfl⟩
    · refine sj_ret (ej_ifI (tj_eqI G.hu (ej_mul ej_int (ej_dat 0) cm2) (ej_dat 1)) (fun _ => ej_int) fun _ => ej_int) ⟨?_, rfl⟩
      unfold pt
      rw [if_neg (of_decide_eq_false h), if_neg (of_decide_eq_false h2)]
      by_cases h3 : 2 * l = m
      · rw [if_pos h3, decide_eq_true h3]; rfl
      · rw [if_neg h3, decide_eq_false h3]; rfl

abbrev s_is_taken_outward : Stmt := topS 12
theorem sc_is_taken_outward : FnScope ["way", "s", "c", "part"] ["way", "s", "c", "part"] (defScope s_is_taken_outward) := ⟨rfl, rfl, rfl, by decide +kernel, rfl, by decide +kernel, by decide +kernel⟩

theorem c_of_is_taken_outward (T : At K mg "is_taken_outward" s_is_taken_outward ["way", "s", "c", "part"]) : Cal P w K mg base "is_taken_outward" 4 R_outw :=
  cal_at T sc_is_taken_outward (by rintro _ _ _ _ ⟨⟩; rfl) fun f cd0 A out s H E G Γ B r B' hR => by
  obtain ⟨way, s, c, part, B⟩ := hR
  refine sj_when (tj_w (wj_or (tj_eqI G.hu (ej_dat 3) ej_int) fun _ => (wj_or1 (tj_eqS (ej_dat 0) ej_str)))) (fun h => ?_) (fun h => ?_)
  · have h : part = 0 ∨ way = "zero" := by simpa using h
    exact sj_ret ej_bl ⟨by unfold outw; rw [if_pos h], rfl⟩
  · have h : ¬ (part = 0 ∨ way = "zero") := by simpa using h
    unfold outw
    rw [if_neg h]
    refine sj_when (tj_eqS (ej_dat 0) ej_str) (fun h => ?_) (fun h => ?_)
    · exact sj_ret (ej_eqI G.hu (ej_dat 1) ej_int) ⟨by rw [if_pos (of_decide_eq_true h)], rfl⟩
    · rw [if_neg (of_decide_eq_false h)]
      refine sj_when (tj_eqS (ej_dat 0) ej_str) (fun h => ?_) (fun h => ?_)
      · exact sj_ret (ej_eqI G.hu (ej_dat 1) ej_int) ⟨by rw [if_pos (of_decide_eq_true h)], rfl⟩
      · rw [if_neg (of_decide_eq_false h)]
        refine sj_when (tj_eqI G.hu (ej_dat 3) ej_int) (fun h => ?_) (fun h => ?_)
        · exact sj_ret (ej_or (ej_eqS (ej_dat 0) ej_str) fun _ => (ej_one (ej_eqI G.hu (ej_mod (ej_dat 2) ej_int (by decide)) ej_int))) ⟨by rw [if_pos (of_decide_eq_true h)], rfl⟩
        · exact sj_ret (ej_eqI G.hu (ej_dat 3) ej_int) ⟨by rw [if_neg (of_decide_eq_false h)], rfl⟩

abbrev s_power_below : Stmt := topS 13
theorem sc_power_below : FnScope ["base", "one", "n", "d"] ["base", "one"] (defScope s_power_below) := ⟨rfl, rfl, rfl, by decide +kernel, rfl, by decide +kernel, by decide +kernel⟩

theorem c_of_power_below (c_u_power_within : Cal P w K mg base "_power_within" 4 R_within) (T : At K mg "power_below" s_power_below ["base", "one"]) : Cal P w K mg base "power_below" 5 R_pbelow :=
  cal_at T sc_power_below (by rintro _ _ _ _ ⟨⟩; rfl) fun f cd0 A out s H E G Γ B r B' hR => by
  obtain ⟨b, q, k, n, d, B, h2, h0, hq, hn, hd, h1, h3⟩ := hR
  have hn0 : 0 < q.num := by
    have : 0 ≤ q.num := Rat.num_nonneg.mpr (Rat.le_of_lt h0)
    have : q.num ≠ 0 := fun z => absurd h0 (by rw [Rat.num_eq_zero.mp z]; decide)
    omega
  have hd0 := den_pos q
  have eN : q.num = (q.num.toNat : Int) := by omega
  refine sj_unpack [2, 3] G.calm (ej_dat (d := .tuple [.int q.num, .int (q.den : Int)]) 1) (pgs_cons (pg_name (i := 2) G.nd rfl (Or.inl rfl)) (pgs_cons (pg_name (i := 3) G.nd rfl (Or.inl rfl)) pgs_nil)) rfl ?_
  refine sj_when (tj_ge (ej_dat 2) (ej_dat 3)) (fun h => ?_) (fun h => ?_)
  · have hge : (q.den : Int) ≤ q.num := of_decide_eq_true h
    have hk : 0 ≤ k := by
      refine Decidable.byContradiction fun hk => ?_
      have h4 : pw b (k + 1) ≤ pw b 0 := pw_mono h2 (by omega)
      rw [show (0 : Int) = ((0 : Nat) : Int) - (0 : Nat) by omega] at h4
      have := (lt_pw_iff h2 q 0 0).mp (ltle h3 h4)
      rw [Nat.pow_zero] at this; omega
    have ek : k = (k.toNat : Int) := by omega
    have a1 := (pw_le_iff h2 q 0 k.toNat).mp (by rw [show ((k.toNat : Nat) : Int) - (0 : Nat) = k by omega]; exact h1)
    have a3 := (lt_pw_iff h2 q 0 (k.toNat + 1)).mp (by rw [show ((k.toNat + 1 : Nat) : Int) - (0 : Nat) = k + 1 by omega]; exact h3)
    rw [Nat.pow_zero, eN] at a1 a3
    have b1 : q.den * b ^ k.toNat ≤ q.num.toNat := by
      have : ((q.den * b ^ k.toNat : Nat) : Int) ≤ (q.num.toNat : Int) := by rw [Int.natCast_mul]; omega
      omega
    have b3 : q.num.toNat < q.den * b ^ (k.toNat + 1) := by
      have : (q.num.toNat : Int) < ((q.den * b ^ (k.toNat + 1) : Nat) : Int) := by rw [Int.natCast_mul]; omega
      omega
    have hq2 := hq.nu
    have hw : q.num.toNat / q.den < 2 ^ 8900 := by
      unfold Bd at hq2
      have : 2 ^ n ≤ 2 ^ 8900 := Nat.pow_le_pow_right (by decide) hn
      exact Nat.lt_of_le_of_lt (Nat.div_le_self _ _) (by omega)
    have ew : q.num / (q.den : Int) = ((q.num.toNat / q.den : Nat) : Int) := by rw [Int.natCast_ediv, ← eN]
    rw [ek]
    refine sj_ret (ej_call c_u_power_within (G.le (by decide)) (aj_cons (ej_dat 0) (aj_cons (ej_is (ej_fdiv (ej_dat 2) (ej_dat 3) (cdv hq.de hd0 (by omega))) (congrArg PyData.int ew)) aj_nil)) (R_within.mk b _ k.toNat B h2 hw ?_ ?_)) ⟨rfl, rfl⟩
    · exact (Nat.le_div_iff_mul_le q.den_pos).mpr (by rw [Nat.mul_comm]; exact b1)
    · exact (Nat.div_lt_iff_lt_mul q.den_pos).mpr (by rw [Nat.mul_comm]; exact b3)
  · have hlt : q.num < (q.den : Int) := by have := of_decide_eq_false h; omega
    have hk : k < 0 := by
      refine Decidable.byContradiction fun hk => ?_
      have h4 : pw b 0 ≤ pw b k := pw_mono h2 (by omega)
      rw [show (0 : Int) = ((0 : Nat) : Int) - (0 : Nat) by omega] at h4
      have := (pw_le_iff h2 q 0 0).mp (Rat.le_trans h4 h1)
      rw [Nat.pow_zero] at this; omega
    generalize hm : (-1 - k).toNat = m
    have ek : k = -1 - (m : Int) := by omega
    have a1 := (pw_le_iff h2 q (m + 1) 0).mp (by rw [show ((0 : Nat) : Int) - (m + 1 : Nat) = k by omega]; exact h1)
    have a3 := (lt_pw_iff h2 q m 0).mp (by rw [show ((0 : Nat) : Int) - (m : Nat) = k + 1 by omega]; exact h3)
    rw [Nat.pow_zero, eN] at a1 a3
    have b1 : q.den ≤ q.num.toNat * b ^ (m + 1) := by
      have : (q.den : Int) ≤ ((q.num.toNat * b ^ (m + 1) : Nat) : Int) := by rw [Int.natCast_mul]; omega
      omega
    have b3 : q.num.toNat * b ^ m < q.den := by
      have : ((q.num.toNat * b ^ m : Nat) : Int) < (q.den : Int) := by rw [Int.natCast_mul]; omega
      omega
    have hq2 := hq.de
    have hn1 : 0 < q.num.toNat := by omega
    have hw : (q.den - 1) / q.num.toNat < 2 ^ 8900 := by
      unfold Bd at hq2
      rw [Int.natAbs_natCast] at hq2
      have : 2 ^ d ≤ 2 ^ 8900 := Nat.pow_le_pow_right (by decide) hd
      exact Nat.lt_of_le_of_lt (Nat.div_le_self _ _) (by omega)
    have ew : ((q.den : Int) - 1) / q.num = (((q.den - 1) / q.num.toNat : Nat) : Int) := by
      rw [Int.natCast_ediv, ← eN]; congr 1; have := q.den_pos; omega
    rw [ek]
    refine sj_ret (ej_sub (ej_neg ej_int) (ej_call c_u_power_within (G.le (by decide)) (aj_cons (ej_dat 0) (aj_cons (ej_is (ej_fdiv (ej_sub (ej_dat 3) ej_int) (ej_dat 2) (cdv hq.nu hn0 (by omega))) (congrArg PyData.int ew)) aj_nil)) (R_within.mk b _ m B h2 hw ?_ ?_))) ⟨rfl, rfl⟩
    · exact (Nat.le_div_iff_mul_le hn1).mpr (by rw [Nat.mul_comm]; omega)
    · exact (Nat.div_lt_iff_lt_mul hn1).mpr (by rw [Nat.mul_comm]; omega)

abbrev s_u_power_within : Stmt := topS 14
theorem sc_u_power_within : FnScope ["base", "whole", "squares", "power", "k", "left", "square"] ["base", "whole"] (defScope s_u_power_within) := ⟨rfl, rfl, rfl, by decide +kernel, rfl, by decide +kernel, by decide +kernel⟩

theorem c_of_u_power_within (m_rev : mg "reversed" = none) (T : At K mg "_power_within" s_u_power_within ["base", "whole"]) : Cal P w K mg base "_power_within" 4 R_within :=
  cal_at T sc_u_power_within (by rintro _ _ _ _ ⟨⟩; rfl) fun f cd0 A out s H E G Γ B r B' hR => by
  obtain ⟨b, wh, k0, B, h2, hw, h1, h3⟩ := hR
  refine sj_own 2 G.nd (fj_lstD ad_nil (by decide)) (by exact Nat.le_of_ble_eq_true rfl) ?_
  refine ow_set 3 G.nd (by decide) (ej_dat 0) ?_
  refine ow_while (fun Γ' B' acc => ∃ j : Nat, Γ' = [.da (.int b), .da (.int wh), .no, .da (.int ((b ^ 2 ^ j : Nat) : Int)), .no, .no, .no] ∧ B' = B ∧ acc = sqs b j ∧ ∀ i, i < j → b ^ 2 ^ i ≤ wh) (fun Γ' _ _ => (wh + 1 : Nat) - (intAt Γ' 3).toNat)
    ⟨0, by rw [Nat.pow_zero, Nat.pow_one]; rfl, rfl, rfl, fun i hi => absurd hi (by omega)⟩ ?_
  rintro Γ' B' acc ⟨j, rfl, rfl, rfl, hj⟩
  have hj14 := few_sq h2 hw hj
  refine ⟨_, tj_le (ej_dat 3) (ej_dat 1), fun h => ?_, fun h => ?_⟩
  · have hle : b ^ 2 ^ j ≤ wh := by have := of_decide_eq_true h; omega
    have hbd : Bd 8900 ((b ^ 2 ^ j : Nat) : Int) := Bd.nat (Nat.lt_of_le_of_lt hle hw)
    refine ow_app G.nd (ej_dat 3) (by rw [sqs_len]; omega) ?_
    refine ow_set 3 G.nd (by decide) (ej_mul (ej_dat 3) (ej_dat 3) (cmz hbd hbd)) (ow_nil ⟨⟨j + 1, ?_, rfl, sqs_succ b j, fun i hi => ?_⟩, ?_⟩)
    · rw [sq_next]; rfl
    · by_cases e : i = j
      · subst e; exact hle
      · exact hj i (by omega)
    · show (wh + 1 : Nat) - (((b ^ 2 ^ j : Nat) : Int) * ((b ^ 2 ^ j : Nat) : Int)).toNat < (wh + 1 : Nat) - (((b ^ 2 ^ j : Nat) : Int)).toNat
      rw [sq_next, Int.toNat_natCast, Int.toNat_natCast]
      have : b ^ 2 ^ j < b ^ 2 ^ (j + 1) := Nat.pow_lt_pow_right (by omega) (Nat.pow_lt_pow_right (by decide) (by omega))
      omega
  · have hgt : wh < b ^ 2 ^ j := by have := of_decide_eq_false h; omega
    have w1 : 1 ≤ wh := Nat.le_trans (Nat.pow_pos (by omega)) h1
    refine ow_end ?_
    refine sj_par 4 5 G.nd G.calm (aj_cons ej_int (aj_cons (ej_dat 1) aj_nil)) ?_ (by decide) (by rfl)
    refine sj_forRev (ds := sqs b j) 6 G.nd G.calm m_rev (fun i Γ' B2 => ∃ (k l : Nat) (z : VD), Γ' = [.da (.int b), .da (.int wh), .da (.list (sqs b j)), .da (.int ((b ^ 2 ^ j : Nat) : Int)), .da (.int k), .da (.int l), z] ∧ B2 = B' ∧
      l = wh / b ^ (k * 2 ^ (j - i)) ∧ l < b ^ 2 ^ (j - i) ∧ 1 ≤ l) (ej_dat 2) ⟨0, wh, .no, rfl, rfl, by rw [Nat.zero_mul, Nat.pow_zero, Nat.div_one], hgt, w1⟩ (fun i y Γ' B2 hi hy hP => ?_) (fun Γ' B2 hP => ?_)
    · obtain ⟨k, l, z, rfl, rfl, e1, e2, e3⟩ := hP
      rw [sqs_len] at hi hy
      obtain rfl := sqs_at hy
      have em : j - i = (j - 1 - i) + 1 := by omega
      have em' : j - (i + 1) = j - 1 - i := by omega
      rw [em] at e1 e2
      have hbs : Bd 8900 ((b ^ 2 ^ (j - 1 - i) : Nat) : Int) := Bd.nat (Nat.lt_of_le_of_lt (hj _ (by omega)) hw)
      have hps : 0 < b ^ 2 ^ (j - 1 - i) := Nat.pow_pos (by omega)
      refine sj_set 4 G.nd (ej_mulC ej_int (ej_dat 4) (.inl (by decide))) ?_
      refine sj_ifM (fun Γ3 B3 => ∃ (k l : Nat) (z : VD), Γ3 = [.da (.int b), .da (.int wh), .da (.list (sqs b j)), .da (.int ((b ^ 2 ^ j : Nat) : Int)), .da (.int k), .da (.int l), z] ∧ B3 = B2 ∧
        l = wh / b ^ (k * 2 ^ (j - (i + 1))) ∧ l < b ^ 2 ^ (j - (i + 1)) ∧ 1 ≤ l) (tj_le (ej_dat 6) (ej_dat 5)) (fun h => ?_) (fun h => ?_) (fun Γ3 B3 q => sj_nil q)
      · have hs : b ^ 2 ^ (j - 1 - i) ≤ l := by have := of_decide_eq_true h; omega
        obtain ⟨q1, q2, q3⟩ := step_yes h2 e1 e2 e3 hs
        refine sj_set 4 G.nd (ej_add (ej_dat 4) ej_int) ?_
        refine sj_set 5 G.nd (ej_fdiv (ej_dat 5) (ej_dat 6) (cdv hbs (by omega))) (sj_nil ?_)
        rw [em']
        exact ⟨2 * k + 1, l / b ^ 2 ^ (j - 1 - i), _, by rw [← Int.natCast_ediv]; rfl, rfl, q1, q2, q3⟩
      · have hs : ¬ b ^ 2 ^ (j - 1 - i) ≤ l := by have := of_decide_eq_false h; omega
        obtain ⟨q1, q2⟩ := step_no (k := k) e1 hs
        refine sj_nil ?_
        rw [em']
        exact ⟨2 * k, l, _, rfl, rfl, q1, q2, e3⟩
    · obtain ⟨k, l, z, rfl, rfl, e1, e2, e3⟩ := hP
      rw [sqs_len, Nat.sub_self] at e1 e2
      obtain ⟨q1, q2⟩ := log_end h2 e1 e2 e3
      obtain rfl := pow_uniq h2 q1 q2 h1 h3
      exact sj_ret (ej_dat 4) ⟨rfl, rfl⟩

abbrev s_u_twos_in : Stmt := topS 15
theorem sc_u_twos_in : FnScope ["n"] ["n"] (defScope s_u_twos_in) := ⟨rfl, rfl, rfl, by decide +kernel, rfl, by decide +kernel, by decide +kernel⟩

theorem c_of_u_twos_in (T : At K mg "_twos_in" s_u_twos_in ["n"]) : Cal P w K mg base "_twos_in" 1 R_twos :=
  cal_at T sc_u_twos_in (by rintro _ _ _ _ ⟨⟩; rfl) fun f cd0 A out s H E G Γ B r B' hR => by
  obtain ⟨k, a, B⟩ := hR
  exact sj_ret (ej_sub (ej_bits (ej_band (ej_dat 0) (ej_neg (ej_dat 0)))) ej_int) ⟨by rw [tw_low, bits_two], rfl⟩

abbrev s_worth : Stmt := topS 17
theorem sc_worth : FnScope ["form", "number", "_", "s", "c", "e"] ["form", "number"] (defScope s_worth) := ⟨rfl, rfl, rfl, by decide +kernel, rfl, by decide +kernel, by decide +kernel⟩

theorem c_of_worth (c_times : Cal P w K mg base "times" 4 (R_two (· * ·))) (c_power_of : Cal P w K mg base "power_of" 5 R_power_of) (T : At K mg "worth" s_worth ["form", "number"]) : Cal P w K mg base "worth" 6 R_worthD :=
  cal_at T sc_worth (by rintro _ _ _ _ ⟨⟩; rfl) fun f cd0 A out s H E G Γ B r B' hR => by
  obtain ⟨b, p, low, high, s, c, e, B, F, hv⟩ := hR
  obtain ⟨h1, h3, h4, h5, h6⟩ := hv
  have b2 := F.b2; have bp := F.bp; have lo := F.lo; have hi := F.hi
  refine sj_unpack [2, 3, 4, 5] G.calm (ej_dat (d := .tuple [.str "num", .int s, .int c, .int e]) 1) (pgs_cons (pg_name (i := 2) G.nd rfl (Or.inl rfl)) (pgs_cons (pg_name (i := 3) G.nd rfl (Or.inl rfl)) (pgs_cons (pg_name (i := 4) G.nd rfl (Or.inl rfl)) (pgs_cons (pg_name (i := 5) G.nd rfl (Or.inl rfl)) pgs_nil)))) rfl ?_
  have hc : Qz 700 1 (((if s = 1 then -c else c : Int)) : Rat) := by
    refine ⟨?_, by rw [Rat.den_intCast]; unfold Bd; decide⟩
    rw [Rat.num_intCast]; unfold Bd
    split <;> omega
  refine sj_ret (ej_call c_times (G.le (by decide)) (aj_cons (ej_is (y := fq ((if s = 1 then -c else c : Int) : Rat)) (ej_tupD (ad_cons (ej_if (d := .da (.int (if s = 1 then -c else c))) (tj_eqI G.hu (ej_dat 3) ej_int) (fun h => ?_) (fun h => ?_)) (ad_cons ej_int ad_nil)) (Nat.le_of_ble_eq_true rfl)) (fq_int _).symm)
    (aj_cons (ej_call c_power_of (G.le (by decide)) (aj_cons (ej_at (ej_dat (d := .tuple [.int b, .int p, .int low, .int high]) 0)) (aj_cons (ej_dat 5) aj_nil)) (R_power_of.mk b e B (by omega) F.b6 (by omega) (by omega))) aj_nil))
    (R_two.mk _ _ _ _ _ _ B hc (F.pn h5 h6) (by decide) (by decide) (by decide))) ⟨rfl, rfl⟩
  · rw [if_pos (of_decide_eq_true h)]; exact ej_neg (ej_dat 4)
  · rw [if_neg (of_decide_eq_false h)]; exact ej_dat 4

abbrev s_is_finite : Stmt := topS 18
theorem sc_is_finite : FnScope ["value"] ["value"] (defScope s_is_finite) := ⟨rfl, rfl, rfl, by decide +kernel, rfl, by decide +kernel, by decide +kernel⟩

theorem c_of_is_finite (T : At K mg "is_finite" s_is_finite ["value"]) : Cal P w K mg base "is_finite" 4 (R_val (fun v => .bool v.isNum) (fun _ => True)) :=
  cal_at T sc_is_finite (by rintro _ _ _ _ ⟨⟩; rfl) fun f cd0 A out s H E G Γ B r B' hR => by
  obtain ⟨v, B, _⟩ := hR
  exact sj_ret (ej_eqS (ej_at (ej_dat (d := .tuple v.l) 0) v.at0) ej_str) ⟨by rw [tag_num], rfl⟩

abbrev s_is_zero : Stmt := topS 19
theorem sc_is_zero : FnScope ["value"] ["value"] (defScope s_is_zero) := ⟨rfl, rfl, rfl, by decide +kernel, rfl, by decide +kernel, by decide +kernel⟩

theorem c_of_is_zero (c_is_finite : Cal P w K mg base "is_finite" 4 (R_val (fun v => .bool v.isNum) (fun _ => True))) (T : At K mg "is_zero" s_is_zero ["value"]) : Cal P w K mg base "is_zero" 5 (R_val (fun v => .bool v.isZ) (fun _ => True)) :=
  cal_at T sc_is_zero (by rintro _ _ _ _ ⟨⟩; rfl) fun f cd0 A out s H E G Γ B r B' hR => by
  obtain ⟨v, B, _⟩ := hR
  cases v with
  | num sn c e => exact sj_ret (ej_is (y := .bool (decide (c = 0))) (ej_and (x := true) (ej_call c_is_finite (G.le (by decide)) (aj_cons (ej_dat 0) aj_nil) (R_val.mk (.num sn c e) B trivial)) fun _ => ej_one (ej_eqI G.hu (ej_at (ej_dat (d := .tuple [.str "num", .int sn, .int c, .int e]) 0)) ej_int)) (congrArg PyData.bool (Bool.true_and _))) ⟨rfl, rfl⟩
  | nan => exact sj_ret (ej_and (x := false) (y := false) (ej_call c_is_finite (G.le (by decide)) (aj_cons (ej_dat 0) aj_nil) (R_val.mk .nan B trivial)) fun h => Bool.noConfusion h) ⟨rfl, rfl⟩
  | inf t => exact sj_ret (ej_and (x := false) (y := false) (ej_call c_is_finite (G.le (by decide)) (aj_cons (ej_dat 0) aj_nil) (R_val.mk (.inf t) B trivial)) fun h => Bool.noConfusion h) ⟨rfl, rfl⟩

abbrev s_told_digits : Stmt := topS 21
theorem sc_told_digits : FnScope ["form", "number", "many", "way", "e", "s", "c", "_", "is_exact"] ["form", "number", "many", "way"] (defScope s_told_digits) := ⟨rfl, rfl, rfl, by decide +kernel, rfl, by decide +kernel, by decide +kernel⟩

theorem c_of_told_digits /-H-/ (c_is_zero : Cal P w K mg base "is_zero" 5 (R_val (fun v => .bool v.isZ) (fun _ => True))) (c_power_below : Cal P w K mg base "power_below" 5 R_pbelow) (c_size_of : Cal P w K mg base "size_of" 4 (R_one fun x => fq (absQ x))) (c_worth : Cal P w K mg base "worth" 6 R_worthD) (c_u_told_at : Cal P w K mg base "_told_at" 7 R_utold) (c_integer_power : Cal P w K mg base "integer_power" 4 R_pow) /-E-/ (T : At K mg "told_digits" s_told_digits ["form", "number", "many", "way"]) : Cal P w K mg base "told_digits" 8 R_tdig :=
  cal_at T sc_told_digits (by rintro _ _ _ _ h; cases h <;> rfl) fun f cd0 A out s0 H E0 G Γ B r B' hR => by
  cases hR with
  | zero b p low high s e many way B F h hw m1 m2 =>
    refine sj_when (x := true) (tj_val (ej_is (y := .bool true) (ej_call c_is_zero (G.le (by decide)) (aj_cons (ej_dat (d := (Va.num s 0 e).d) 1) aj_nil) (R_val.mk (.num s 0 e) B trivial)) rfl)) (fun _ => ?_) (fun h => Bool.noConfusion h)
    exact sj_ret (ej_tupD (ad_cons (ej_tupD (ad_cons (ej_at (y := .int s) (ej_dat (d := (Va.num s 0 e).d) 1)) (ad_cons ej_int (ad_cons ej_int ad_nil))) (Nat.le_of_ble_eq_true rfl)) (ad_cons ej_bl ad_nil)) (Nat.le_of_ble_eq_true rfl)) ⟨rfl, rfl⟩
  | mk b p low high s c e k many way B F h hc hw m1 m2 h1 h2 =>
    have hk := ndd_k F h hc h1 h2
    have b2 := F.b2
    have q0 : 0 < (c : Rat) * pw b e := Rat.mul_pos (by exact_mod_cast hc) (pw_pos b2 e)
    refine sj_when (x := false) (tj_val (ej_is (y := .bool false) (ej_call c_is_zero (G.le (by decide)) (aj_cons (ej_dat (d := (Va.num s c e).d) 1) aj_nil) (R_val.mk (.num s c e) B trivial)) ?_)) (fun h => Bool.noConfusion h) (fun _ => ?_)
    · exact congrArg PyData.bool (decide_eq_false (by omega))
    have qz := ndd_qz F h
    refine sj_set 4 (d := .da (.int (k + 1 - many))) (B1 := B) G.nd (ej_is (ej_add (ej_sub (ej_call c_power_below (G.le (by decide)) (aj_cons ej_int (aj_cons (ej_call c_size_of (G.le (by decide)) (aj_cons (ej_call c_worth (G.le (by decide)) (aj_cons (ej_dat 0) (aj_cons (ej_dat (d := (Va.num s c e).d) 1) aj_nil)) (R_worthD.mk b p low high s c e B F h)) aj_nil) (R_one.mk _ B)) aj_nil)) (R_pbelow.mk 10 _ k _ _ B (by decide) (by rw [absQ_w b2 h.2.1]; exact q0) (by rw [absQ_w b2 h.2.1]; exact qz) (by decide) (by decide) (by rw [absQ_w b2 h.2.1]; exact h1) (by rw [absQ_w b2 h.2.1]; exact h2))) (ej_dat 2)) ej_int) (congrArg PyData.int (by omega))) ?_
    have RU := R_utold.mk b p low high s c e (k + 1 - many) way B F h hw (by omega) (by omega)
    unfold tdP
    generalize (c : Rat) * pw b e / pw 10 (k + 1 - many) = y at *
    refine sj_unpackTN [5, 6, 7] 8 (ds := [.int s, .int (toC way s y), .int (k + 1 - many)]) (y := toE y) G.calm (ej_call c_u_told_at (G.le (by decide)) (aj_cons (ej_dat 0) (aj_cons (ej_dat (d := (Va.num s c e).d) 1) (aj_cons (ej_dat 4) (aj_cons (ej_dat 3) aj_nil)))) (RU)) (pgs_cons (pgN 5 G.nd) (pgs_cons (pgN 6 G.nd) (pgs_cons (pgN 7 G.nd) pgs_nil))) (pgN 8 G.nd) rfl ?_
    by_cases z : toC way s y = ((10 ^ many : Nat) : Int)
    · rw [if_pos z]
      refine sj_when (x := true) (tj_is (tj_eqI G.hu (ej_dat 6) (ej_call c_integer_power (G.le (by decide)) (aj_cons ej_int (aj_cons (ej_dat 2) aj_nil)) (R_pow.mk 10 many B (by decide) (by omega)))) (decide_eq_true z)) (fun _ => ?_) (fun h => Bool.noConfusion h)
      refine sj_ret (ej_tupD (ad_cons (ej_tupD (ad_cons (ej_dat 5) (ad_cons (ej_is (y := .int ((10 ^ (many - 1) : Nat) : Int)) (ej_fdiv (ej_dat 6) ej_int (cdv (show Bd 60 (10 : Int) by unfold Bd; decide) (by decide))) ?_) (ad_cons (ej_is (y := .int (k + 2 - many)) (ej_add (ej_dat 4) ej_int) (congrArg PyData.int (by omega))) ad_nil))) (Nat.le_of_ble_eq_true rfl)) (ad_cons (ej_dat (d := toE y) 8) ad_nil)) (Nat.le_of_ble_eq_true rfl)) ⟨rfl, rfl⟩
      rw [z]
      refine congrArg PyData.int ?_
      have : (10 : Nat) ^ many = 10 ^ (many - 1) * 10 := by rw [← Nat.pow_succ]; congr 1; omega
      rw [this]; omega
    · rw [if_neg z]
      refine sj_when (x := false) (tj_is (tj_eqI G.hu (ej_dat 6) (ej_call c_integer_power (G.le (by decide)) (aj_cons ej_int (aj_cons (ej_dat 2) aj_nil)) (R_pow.mk 10 many B (by decide) (by omega)))) (decide_eq_false z)) (fun h => Bool.noConfusion h) (fun _ => ?_)
      exact sj_ret (ej_tupD (ad_cons (ej_tupD (ad_cons (ej_dat 5) (ad_cons (ej_dat 6) (ad_cons (ej_dat 4) ad_nil))) (Nat.le_of_ble_eq_true rfl)) (ad_cons (ej_dat (d := toE y) 8) ad_nil)) (Nat.le_of_ble_eq_true rfl)) ⟨rfl, rfl⟩

abbrev s_told_places : Stmt := topS 22
theorem sc_told_places : FnScope ["form", "number", "places", "way"] ["form", "number", "places", "way"] (defScope s_told_places) := ⟨rfl, rfl, rfl, by decide +kernel, rfl, by decide +kernel, by decide +kernel⟩

theorem c_of_told_places /-H-/ (c_u_told_at : Cal P w K mg base "_told_at" 7 R_utold) /-E-/ (T : At K mg "told_places" s_told_places ["form", "number", "places", "way"]) : Cal P w K mg base "told_places" 8 R_tplace :=
  cal_at T sc_told_places (by rintro _ _ _ _ ⟨⟩; rfl) fun f cd0 A out s0 H E0 G Γ B r B' hR => by
  obtain ⟨b, p, low, high, s, c, e, pl, way, B, F, h, hw, e1, e2⟩ := hR
  exact sj_ret (ej_call c_u_told_at (G.le (by decide)) (aj_cons (ej_dat 0) (aj_cons (ej_dat (d := (Va.num s c e).d) 1) (aj_cons (ej_neg (ej_dat 2)) (aj_cons (ej_dat 3) aj_nil)))) (R_utold.mk b p low high s c e (-pl) way B F h hw (by omega) (by omega))) ⟨rfl, rfl⟩

abbrev s_u_told_at : Stmt := topS 23
theorem sc_u_told_at : FnScope ["form", "number", "e", "way", "exact"] ["form", "number", "e", "way"] (defScope s_u_told_at) := ⟨rfl, rfl, rfl, by decide +kernel, rfl, by decide +kernel, by decide +kernel⟩

theorem c_of_u_told_at /-H-/ (m_abs : mg "abs" = none) (c_over : Cal P w K mg base "over" 5 R_overW) (c_worth : Cal P w K mg base "worth" 6 R_worthD) (c_power_of : Cal P w K mg base "power_of" 5 R_power_of) (c_nearest_integer : Cal P w K mg base "nearest_integer" 5 R_nearW) /-E-/ (T : At K mg "_told_at" s_u_told_at ["form", "number", "e", "way"]) : Cal P w K mg base "_told_at" 7 R_utold :=
  cal_at T sc_u_told_at (by rintro _ _ _ _ ⟨⟩; rfl) fun f cd0 A out s0 H E0 G Γ B r B' hR => by
  obtain ⟨b, p, low, high, s, c, e, at', way, B, F, h, hw, e1, e2⟩ := hR
  have b2 := F.b2
  have hq : Qz 1800 4701 ((Va.num s c e).wQ b) := by
    have := ndd_qz F h
    have ea := absQ_w b2 (s := s) (e := e) h.2.1
    rw [← ea] at this
    refine ⟨?_, ?_⟩
    · have := this.nu; unfold absQ Bd at this; unfold Bd; split at this
      · rw [Rat.neg_num] at this; omega
      · exact this
    · have := this.de; unfold absQ Bd at this; unfold Bd; split at this
      · rw [Rat.neg_den] at this; exact this
      · exact this
  have dp := ten_divp hq e1 e2
  have ab := tn_abs b2 (s := s) (e := e) (at' := at') h.2.1
  have sg := tn_sgn b2 (e := e) (at' := at') h.1 h.2.1
  have ne := near_toC (way := way) sg
  rw [ab] at ne
  have dn : ((c : Rat) * pw b e / pw 10 at').den = ((Va.num s c e).wQ b / pw 10 at').den := by
    rw [← ab]; unfold absQ; split
    · rw [Rat.neg_den]
    · rfl
  refine sj_set 4 (d := .da (fq ((Va.num s c e).wQ b / pw 10 at'))) (B1 := B) G.nd (ej_call c_over (G.le (by decide)) (aj_cons (ej_call c_worth (G.le (by decide)) (aj_cons (ej_dat 0) (aj_cons (ej_dat (d := (Va.num s c e).d) 1) aj_nil)) (R_worthD.mk b p low high s c e B F h)) (aj_cons (ej_call c_power_of (G.le (by decide)) (aj_cons ej_int (aj_cons (ej_dat 2) aj_nil)) (R_power_of.mk 10 at' B (by decide) (by decide) (by omega) (by omega))) aj_nil)) (R_overW.mk _ _ _ _ _ _ B hq (ten_qz e1 e2).2.2 (by decide) (by decide) (by decide) (by decide) (ten_ne at'))) ?_
  generalize hx : (Va.num s c e).wQ b / pw 10 at' = x at *
  refine sj_ret (ej_tupD (ad_cons (ej_tupD (ad_cons (ej_at (y := .int s) (ej_dat (d := (Va.num s c e).d) 1)) (ad_cons (ej_abs m_abs (ej_call c_nearest_integer (G.le (by decide)) (aj_cons (ej_dat 3) (aj_cons (ej_dat (d := fq x) 4) aj_nil)) (R_nearW.mk way x B dp.1 dp.2.1))) (ad_cons (ej_dat 2) ad_nil))) (Nat.le_of_ble_eq_true rfl)) (ad_cons (ej_eqI G.hu (ej_at (y := .int (x.den : Int)) (ej_dat (d := fq x) 4)) ej_int) ad_nil)) (Nat.le_of_ble_eq_true rfl)) ⟨?_, rfl⟩
  show PyData.tuple [.tuple [.int s, .int (absI (nearI way x)), .int at'], _] = _
  rw [ne]
  unfold toE
  rw [dn]

abbrev s_l_bag : Stmt := topS 25
theorem sc_l_bag : FnScope ["_law_script", "_law_cell"] ["_law_script"] (defScope s_l_bag) := ⟨rfl, rfl, rfl, by decide +kernel, rfl, by decide +kernel, by decide +kernel⟩

theorem c_of_l_bag (m_abs : mg "abs" = none) (T : At K mg "_law_bag" s_l_bag ["_law_script"]) : Cal P w K mg base "_law_bag" 4 R_bag :=
  cal_at T sc_l_bag (by rintro _ _ _ _ ⟨⟩; rfl) fun f cd0 A out s H E G Γ B r B' hR => by
  obtain ⟨ns, B, hl⟩ := hR
  refine sj_ret (ej_lstD (ad_cons ej_int (ad_cons ej_int (ad_cons ej_int (ad_cons (ej_lc (j := 1) (x := "_law_cell") G.nd G.calm (blkOk_by (N := ["_law_script", "_law_cell"]) (sc := defScope s_l_bag) (by decide +kernel)) (fun _ _ _ _ _ => pg_name (i := 1) G.nd rfl (Or.inl rfl))
    (rj_lc (ds := (ns.take 63).map .int) (ys := ((ns.take 63).map absI).map .int) (fun _ => B) (ej_is (ej_sliceScr (ej_var 0 (d := .scr ns) rfl (fun z => nomatch z)) oj_none (oj_some ej_int)) (congrArg PyData.list (cut_head ns 63)))
      (by simp) (by rw [List.length_map, List.length_take]; omega) ?_)) ad_nil)))) (Nat.le_of_ble_eq_true rfl)) ⟨rfl, rfl⟩
  intro i y z hy hz s H C cl fp
  rw [List.getElem?_map] at hy hz
  rw [List.getElem?_map] at hz
  obtain ⟨n, hn, rfl⟩ := Option.map_eq_some_iff.mp hy
  rw [hn] at hz
  cases hz
  exact ej_abs m_abs (ej_dat 1)

abbrev s_l_take : Stmt := topS 26
theorem sc_l_take : FnScope ["_law_bag_here", "_law_many", "_law_cell", "_law_stirred", "_law_value", "_law_begin", "_law_second"] ["_law_bag_here", "_law_many"] (defScope s_l_take) := ⟨rfl, rfl, rfl, by decide +kernel, rfl, by decide +kernel, by decide +kernel⟩

theorem c_of_l_take (m_int : mg "int" = none) (T : At K mg "_law_take" s_l_take ["_law_bag_here", "_law_many"]) : Cal P w K mg base "_law_take" 4 R_take :=
  cal_at T sc_l_take (by rintro _ _ _ _ ⟨⟩; rfl) fun f cd0 A out s H E G Γ B r B' hR => by
  obtain ⟨B, m, hm, hb, hc⟩ := hR
  refine sj_ifM (fun Γ' B2 => B2 = stir B ∧ Γ'[0]? = some .bag ∧ Γ'[1]? = some (.da (.int m)) ∧ Γ'.length = 7) (tj_eqI G.hu (ej_bagAt (k := 0) (ej_bag 0) ej_int rfl (.inl ⟨rfl, rfl⟩) fun _ _ => rfl) ej_int) (fun h => ?_) (fun h => ?_) ?_
  · have hx : B.x = 0 := of_decide_eq_true h
    refine sj_set 2 G.nd (ej_ixL (ej_catL (ej_sliceL (ej_bagAt (k := 3) (ej_bag 0) ej_int rfl (.inr (.inr (.inr ⟨rfl, rfl⟩))) fun _ _ => rfl) (oj_some (ej_bagAt (k := 2) (ej_bag 0) ej_int rfl (.inr (.inr (.inl ⟨rfl, rfl⟩))) fun _ _ => rfl)) oj_none) (ej_lstD (ad_cons ej_int ad_nil) (Nat.le_of_ble_eq_true rfl)) ?_) ej_int (drop_cell B) fun _ _ => rfl) ?_
    · have h63 : B.cs.length ≤ 63 := hc
      show (cutP (B.cs.map PyData.int) (some B.z) none).length + 1 ≤ 1000
      unfold cutP
      rw [List.length_take, List.length_drop, List.length_map]; omega
    refine sj_bagAug (ej_bag 0) ej_int ej_int rfl ?_
    refine sj_ifM (fun Γ' B2 => Γ' = [.bag, .da (.int m), .da (.int (cell B)), .no, .no, .no, .no] ∧ B2 = ⟨if 10 ^ 18 ≤ cell B then cell B else B.x, B.y, B.z + 1, B.cs⟩)
      (tj_ge (ej_dat 2) (ej_pow ej_int ej_int ⟨by decide, by decide, by decide⟩)) (fun h => ?_) (fun h => ?_) ?_
    · refine sj_bagSet (ej_dat 2) (ej_bag 0) ej_int (k := 0) rfl (.inl ⟨rfl, rfl⟩) (sj_nil ⟨rfl, ?_⟩)
      have h' : (10 : Int) ^ 18 ≤ cell B := of_decide_eq_true h
      rw [if_pos h']
    · refine sj_nil ⟨rfl, ?_⟩
      have h' : ¬ (10 : Int) ^ 18 ≤ cell B := of_decide_eq_false h
      rw [if_neg h']
    · rintro Γ2 B2 ⟨rfl, rfl⟩
      refine sj_set 3 G.nd (ej_add (ej_add (ej_mulC (ej_bagAt (k := 1) (ej_bag 0) ej_int rfl (.inr (.inl ⟨rfl, rfl⟩)) fun _ _ => rfl) ej_int (.inr (by decide))) (ej_mod (ej_int1 m_int (ej_dat 2)) ej_int (by decide)))
        (ej_mulC ej_int (ej_bagAt (k := 2) (ej_bag 0) ej_int rfl (.inr (.inr (.inl ⟨rfl, rfl⟩))) fun _ _ => rfl) (.inl (by decide)))) ?_
      refine sj_bagSet (ej_mod (ej_int1 m_int (ej_dat 3)) ej_int (by decide)) (ej_bag 0) ej_int (k := 1) rfl (.inr (.inl ⟨rfl, rfl⟩)) (sj_nil ⟨?_, rfl, rfl, rfl⟩)
      unfold stir
      rw [if_pos hx]
  · refine sj_nil ⟨?_, rfl, rfl, rfl⟩
    unfold stir
    rw [if_neg (of_decide_eq_false h)]
  · rintro Γ2 B2 ⟨rfl, g0, g1, gl⟩
    refine sj_when (tj_gt (ej_bagAt (k := 0) (ej_bag 0 g0) ej_int rfl (.inl ⟨rfl, rfl⟩) fun _ _ => rfl) ej_int) (fun h => ?_) (fun h => ?_)
    · have h' : 0 < (stir B).x := of_decide_eq_true h
      refine sj_set 4 G.nd (ej_mod (ej_int1 m_int (ej_bagAt (k := 0) (ej_bag 0 g0) ej_int rfl (.inl ⟨rfl, rfl⟩) fun _ _ => rfl)) (ej_dat 1 g1) hm) ?_
      have g0' : (Γ2.set 4 (.da (.int ((stir B).x % m))))[0]? = some .bag := by rw [List.getElem?_set_ne (by decide)]; exact g0
      have g1' : (Γ2.set 4 (.da (.int ((stir B).x % m))))[1]? = some (.da (.int m)) := by rw [List.getElem?_set_ne (by decide)]; exact g1
      have g4 : (Γ2.set 4 (.da (.int ((stir B).x % m))))[4]? = some (.da (.int ((stir B).x % m))) := List.getElem?_set_self (by omega)
      refine sj_bagSet (ej_fdiv (ej_int1 m_int (ej_bagAt (k := 0) (ej_bag 0 g0') ej_int rfl (.inl ⟨rfl, rfl⟩) fun _ _ => rfl)) (ej_dat 1 g1') (cdv hb hm)) (ej_bag 0 g0') ej_int (k := 0) rfl (.inl ⟨rfl, rfl⟩) ?_
      refine sj_ret (ej_dat 4 g4) ⟨?_, ?_⟩
      · unfold tkV; rw [if_pos h']
      · unfold tkB; rw [if_pos h']
    · have h' : ¬ 0 < (stir B).x := of_decide_eq_false h
      refine sj_set 5 G.nd (ej_mod (ej_int1 m_int (ej_mulC (ej_add (ej_bagAt (k := 1) (ej_bag 0 g0) ej_int rfl (.inr (.inl ⟨rfl, rfl⟩)) fun _ _ => rfl) ej_int) ej_int (.inr (by decide)))) ej_int (by decide)) ?_
      generalize hbg : (((stir B).y + 1) * 39373) % 1000000007 = bg
      have hb5 : 0 ≤ bg ∧ bg < 1000000007 := by rw [← hbg]; exact ⟨Int.emod_nonneg _ (by decide), Int.emod_lt_of_pos _ (by decide)⟩
      have g5 : (Γ2.set 5 (.da (.int bg)))[5]? = some (.da (.int bg)) := List.getElem?_set_self (by omega)
      refine sj_set 6 G.nd (ej_mod (ej_int1 m_int (ej_mulC (ej_mod (ej_int1 m_int (ej_mulC (ej_dat 5 g5) (ej_dat 5 g5) (.inl (by omega)))) ej_int (by decide)) ej_int (.inr (by decide)))) ej_int (by decide)) ?_
      have g6 : ((Γ2.set 5 (.da (.int bg))).set 6 (.da (.int ((bg * bg) % 998244353 * 30011 % 998244353))))[6]? = some (.da (.int ((bg * bg) % 998244353 * 30011 % 998244353))) := List.getElem?_set_self (by rw [List.length_set]; omega)
      have g1' : ((Γ2.set 5 (.da (.int bg))).set 6 (.da (.int ((bg * bg) % 998244353 * 30011 % 998244353))))[1]? = some (.da (.int m)) := by
        rw [List.getElem?_set_ne (by decide), List.getElem?_set_ne (by decide)]; exact g1
      refine sj_ret (ej_mod (ej_int1 m_int (ej_fdiv (ej_dat 6 g6) ej_int (cdv (show Bd 3 7 from by unfold Bd; decide) (by decide)))) (ej_dat 1 g1') hm) ⟨?_, ?_⟩
      · unfold tkV low; rw [if_neg h', hbg]
      · unfold tkB; rw [if_neg h']

abbrev s_l_some : Stmt := topS 27
theorem sc_l_some : FnScope ["_law_bag_here", "_law_things"] ["_law_bag_here", "_law_things"] (defScope s_l_some) := ⟨rfl, rfl, rfl, by decide +kernel, rfl, by decide +kernel, by decide +kernel⟩

theorem c_of_l_some (m_len : mg "len" = none) (c_l_take : Cal P w K mg base "_law_take" 4 R_take) (T : At K mg "_law_some" s_l_some ["_law_bag_here", "_law_things"]) : Cal P w K mg base "_law_some" 5 R_some :=
  cal_at T sc_l_some (by rintro _ _ _ _ ⟨⟩; rfl) fun f cd0 A out s H E G Γ B r B' hR => by
  obtain ⟨B, ds, h, hl, hc⟩ := hR
  have hb : Bd 8000 (ds.length : Int) := by
    have h10 : ds.length < 2 ^ 10 := by omega
    exact (Bd.nat h10).le (by decide)
  exact sj_ret (ej_ixL (ej_dat 1) (ej_call c_l_take (G.le (by decide)) (aj_cons (ej_bag 0) (aj_cons (ej_lenL m_len (ej_dat 1)) aj_nil)) (R_take.mk B _ (by omega) hb hc)) (pick_at ds B h) fun _ _ => rfl) ⟨rfl, rfl⟩


abbrev s_l_alike : Stmt := topS 28
theorem sc_l_alike : FnScope ["_law_found", "_law_due"] ["_law_found", "_law_due"] (defScope s_l_alike) := ⟨rfl, rfl, rfl, by decide +kernel, rfl, by decide +kernel, by decide +kernel⟩

theorem c_of_l_alike (nd : base.NoDigits) (m_repr : mg "repr" = none) (T : At K mg "_law_alike" s_l_alike ["_law_found", "_law_due"]) : Cal P w K mg base "_law_alike" 4 R_alikeN :=
  cal_at T sc_l_alike (by rintro _ _ _ _ ⟨⟩; rfl) fun f cd0 A out s H E G Γ B r B' hR => by
  obtain ⟨d, B, h, hb⟩ := hR
  rcases hb with hb | rfl
  · refine sj_ret (ej_and (ej_eq G.hu (ej_dat 0) (ej_dat 1) h.shaped h.shaped) fun _ => (ej_one (ej_eqS (ej_reprB G nd m_repr (ej_dat 0) hb h) (ej_reprB G nd m_repr (ej_dat 1) hb h)))) ⟨?_, rfl⟩
    rw [eqv_refl_of h.shaped, decide_eq_true rfl]; rfl
  · refine sj_ret (ej_and (ej_eq G.hu (ej_dat 0) (ej_dat 1) h.shaped h.shaped) fun _ => (ej_one (ej_eqS (ej_reprN m_repr (ej_dat 0)) (ej_reprN m_repr (ej_dat 1))))) ⟨?_, rfl⟩
    rw [eqv_refl_of h.shaped, decide_eq_true rfl]; rfl

abbrev s_l_format : Stmt := topS 29
theorem sc_l_format : FnScope ["_law_bag_here", "_law_small", "_law_world"] ["_law_bag_here"] (defScope s_l_format) := ⟨rfl, rfl, rfl, by decide +kernel, rfl, by decide +kernel, by decide +kernel⟩

theorem c_of_l_format /-H-/ (c_l_take : Cal P w K mg base "_law_take" 4 R_take) (c_l_some : Cal P w K mg base "_law_some" 5 R_some) /-E-/ (T : At K mg "_law_format" s_l_format ["_law_bag_here"]) : CalX P w K mg base "_law_format" 6 Pre_cpl Post_tfm :=
  calx_at T sc_l_format (by rintro _ _ ⟨rfl, _⟩; rfl) fun f cd0 A out s0 H E0 G Γ B hPre => by
  obtain ⟨rfl, ok0⟩ := hPre
  have fin : ∀ {t : F4} {B1 : Bag}, t ∈ toldF ++ toldF2 → Bok B1 → Post_tfm [.bag] B t.d B1 := fun {t B1} h ok => ⟨ok, t.1, t.2.1, t.2.2.1, t.2.2.2, rfl, fmd_of (List.all_eq_true.mp told_fm t h)⟩
  refine sj_set 1 (d := .da (.list (toldF.map F4.d))) G.nd (ej_is (ej_lstD (ad_cons (ej_tupD (ad_cons ej_int (ad_cons ej_int (ad_cons (ej_neg ej_int) (ad_cons ej_int ad_nil)))) (Nat.le_of_ble_eq_true rfl)) (ad_cons (ej_tupD (ad_cons ej_int (ad_cons ej_int (ad_cons (ej_neg ej_int) (ad_cons ej_int ad_nil)))) (Nat.le_of_ble_eq_true rfl)) (ad_cons (ej_tupD (ad_cons ej_int (ad_cons ej_int (ad_cons (ej_neg ej_int) (ad_cons ej_int ad_nil)))) (Nat.le_of_ble_eq_true rfl)) (ad_cons (ej_tupD (ad_cons ej_int (ad_cons ej_int (ad_cons ej_int (ad_cons ej_int ad_nil)))) (Nat.le_of_ble_eq_true rfl)) (ad_cons (ej_tupD (ad_cons ej_int (ad_cons ej_int (ad_cons (ej_neg ej_int) (ad_cons ej_int ad_nil)))) (Nat.le_of_ble_eq_true rfl)) (ad_cons (ej_tupD (ad_cons ej_int (ad_cons ej_int (ad_cons (ej_neg ej_int) (ad_cons ej_int ad_nil)))) (Nat.le_of_ble_eq_true rfl)) (ad_cons (ej_tupD (ad_cons ej_int (ad_cons ej_int (ad_cons (ej_neg ej_int) (ad_cons ej_int ad_nil)))) (Nat.le_of_ble_eq_true rfl)) ad_nil))))))) (Nat.le_of_ble_eq_true rfl)) rfl) ?_
  refine sj_set 2 (d := .da (.list ((toldF2.take 6).map F4.d))) G.nd (ej_is (ej_lstD (ad_cons (ej_tupD (ad_cons ej_int (ad_cons ej_int (ad_cons (ej_neg ej_int) (ad_cons ej_int ad_nil)))) (Nat.le_of_ble_eq_true rfl)) (ad_cons (ej_tupD (ad_cons ej_int (ad_cons ej_int (ad_cons (ej_neg ej_int) (ad_cons ej_int ad_nil)))) (Nat.le_of_ble_eq_true rfl)) (ad_cons (ej_tupD (ad_cons ej_int (ad_cons ej_int (ad_cons (ej_neg ej_int) (ad_cons ej_int ad_nil)))) (Nat.le_of_ble_eq_true rfl)) (ad_cons (ej_tupD (ad_cons ej_int (ad_cons ej_int (ad_cons (ej_neg ej_int) (ad_cons ej_int ad_nil)))) (Nat.le_of_ble_eq_true rfl)) (ad_cons (ej_tupD (ad_cons ej_int (ad_cons ej_int (ad_cons (ej_neg ej_int) (ad_cons ej_int ad_nil)))) (Nat.le_of_ble_eq_true rfl)) (ad_cons (ej_tupD (ad_cons ej_int (ad_cons ej_int (ad_cons (ej_neg ej_int) (ad_cons ej_int ad_nil)))) (Nat.le_of_ble_eq_true rfl)) ad_nil)))))) (Nat.le_of_ble_eq_true rfl)) rfl) ?_
  obtain ⟨x, B1, ra, x0, x1, ok1⟩ := tk_ex ok0 4 (by decide) (by decide)
  by_cases hx : 0 < x
  · obtain ⟨t, ht, B2, rb, ok2⟩ := sm_ex toldF F4.d (by decide) ok1 (by decide)
    refine sj_when (x := true) (tj_is (tj_gt (ej_call c_l_take (G.le (by decide)) (aj_cons (ej_bag 0) (aj_cons ej_int aj_nil)) (ra)) ej_int) (decide_eq_true hx)) (fun _ => ?_) (fun h => Bool.noConfusion h)
    exact sj_ret (ej_call c_l_some (G.le (by decide)) (aj_cons (ej_bag 0) (aj_cons (ej_dat (d := .list (toldF.map F4.d)) 1) aj_nil)) (rb)) (fin (List.mem_append_left _ ht) ok2)
  · obtain ⟨t, ht, B2, rb, ok2⟩ := sm_ex toldF2 F4.d (by decide) ok1 (by decide)
    refine sj_when (x := false) (tj_is (tj_gt (ej_call c_l_take (G.le (by decide)) (aj_cons (ej_bag 0) (aj_cons ej_int aj_nil)) (ra)) ej_int) (decide_eq_false hx)) (fun h => Bool.noConfusion h) (fun _ => ?_)
    exact sj_ret (ej_call c_l_some (G.le (by decide)) (aj_cons (ej_bag 0) (aj_cons (ej_is (y := .list (toldF2.map F4.d)) (ej_catL (ej_dat (d := .list ((toldF2.take 6).map F4.d)) 2) (ej_lstD (ad_cons (ej_tupD (ad_cons ej_int (ad_cons ej_int (ad_cons ej_int (ad_cons ej_int ad_nil)))) (Nat.le_of_ble_eq_true rfl)) (ad_cons (ej_tupD (ad_cons ej_int (ad_cons ej_int (ad_cons (ej_neg ej_int) (ad_cons (ej_neg ej_int) ad_nil)))) (Nat.le_of_ble_eq_true rfl)) (ad_cons (ej_tupD (ad_cons ej_int (ad_cons ej_int (ad_cons (ej_neg ej_int) (ad_cons (ej_neg ej_int) ad_nil)))) (Nat.le_of_ble_eq_true rfl)) ad_nil))) (Nat.le_of_ble_eq_true rfl)) (Nat.le_of_ble_eq_true rfl)) rfl) aj_nil)) (rb)) (fin (List.mem_append_right _ ht) ok2)

abbrev s_l_to : Stmt := topS 30
theorem sc_l_to : FnScope ["_law_base", "_law_n", "_law_found"] ["_law_base", "_law_n"] (defScope s_l_to) := ⟨rfl, rfl, rfl, by decide +kernel, rfl, by decide +kernel, by decide +kernel⟩

theorem c_of_l_to (m_int : mg "int" = none) (T : At K mg "_law_to" s_l_to ["_law_base", "_law_n"]) : Cal P w K mg base "_law_to" 4 R_pow :=
  cal_at T sc_l_to (by rintro _ _ _ _ ⟨⟩; rfl) fun f cd0 A out s H E G Γ B r B' hR => by
  obtain ⟨b, e, B, hb, he⟩ := hR
  refine sj_set 2 (d := .da (.int 1)) (B1 := B) G.nd ej_int ?_
  refine sj_while G.nd (fun Γ' B' => ∃ k m j : Nat, Γ' = [.da (.int ((b ^ k : Nat) : Int)), .da (.int m), .da (.int ((b ^ j : Nat) : Int))] ∧ j + k * m = e ∧ B' = B) (fun Γ' _ => (intAt Γ' 1).toNat)
    ⟨1, e, 0, by rw [Nat.pow_one]; rfl, by omega, rfl⟩ ?_
  rintro Γ' B' ⟨k, m, j, rfl, hk, rfl⟩
  refine ⟨_, tj_gt (ej_dat 1) ej_int, fun h => ?_, fun h => ?_⟩
  · have hm : 0 < m := by have := of_decide_eq_true h; omega
    obtain ⟨k1, j1⟩ := k_le hk hm
    refine sj_ifM (fun Γ' B2 => ∃ j' : Nat, Γ' = [.da (.int ((b ^ k : Nat) : Int)), .da (.int m), .da (.int ((b ^ j' : Nat) : Int))] ∧ j' + (k + k) * (m / 2) = e ∧ B2 = B') (tj_eqI G.hu (ej_mod (ej_int1 m_int (ej_dat 1)) ej_int (by decide)) ej_int) (fun h1 => ?_) (fun h1 => ?_) ?_
    · refine sj_set 2 G.nd (ej_mul (ej_dat 2) (ej_dat 0) (cm (bd_pow j hb) (bd_pow k hb) (by omega))) (sj_nil ?_)
      rw [pow_up]
      exact ⟨j + k, rfl, turn_odd hk (by have := of_decide_eq_true h1; omega), rfl⟩
    · exact sj_nil ⟨j, rfl, turn_even hk (by have := of_decide_eq_false h1; omega), rfl⟩
    · rintro Γ2 B2 ⟨j', rfl, hj', rfl⟩
      refine sj_par 0 1 G.nd G.calm (aj_cons (ej_mul (ej_dat 0) (ej_dat 0) (cm (bd_pow k hb) (bd_pow k hb) (by omega))) (aj_cons (ej_fdiv (ej_int1 m_int (ej_dat 1)) ej_int (cdv (show Bd 2 2 from by unfold Bd; decide) (by decide))) aj_nil)) (sj_nil ?_) (by decide) (by rfl)
      rw [pow_sq, half]
      exact ⟨⟨k + k, m / 2, j', rfl, hj', rfl⟩, show ((m / 2 : Nat) : Int).toNat < (m : Int).toNat by omega⟩
  · have hm : ¬ 0 < m := by have := of_decide_eq_false h; omega
    have := j_end hk hm
    subst this
    exact sj_ret (ej_dat 2) ⟨rfl, rfl⟩

abbrev s_l_power : Stmt := topS 31
theorem sc_l_power : FnScope ["_law_base", "_law_e"] ["_law_base", "_law_e"] (defScope s_l_power) := ⟨rfl, rfl, rfl, by decide +kernel, rfl, by decide +kernel, by decide +kernel⟩

theorem c_of_l_power (c_l_to : Cal P w K mg base "_law_to" 4 R_pow) (T : At K mg "_law_power" s_l_power ["_law_base", "_law_e"]) : Cal P w K mg base "_law_power" 5 R_power_of :=
  cal_at T sc_l_power (by rintro _ _ _ _ ⟨⟩; rfl) fun f cd0 A out s H E G Γ B r B' hR => by
  obtain ⟨b, e, B, h0, hb, h1, h2⟩ := hR
  refine sj_ret (ej_if (d := .da (fq (pw b e))) (tj_ge (ej_dat 1) ej_int) (fun h => ?_) (fun h => ?_)) ⟨rfl, rfl⟩
  · have he : ¬ e < 0 := by have := of_decide_eq_true h; omega
    have hn : e = (e.toNat : Int) := by omega
    unfold pw
    rw [if_neg he, fq_nat]
    exact ej_tupD (ad_cons (ej_call c_l_to (G.le (by decide)) (aj_cons (ej_dat 0) (aj_cons (ej_is (ej_dat 1) (congrArg PyData.int hn)) aj_nil)) (R_pow.mk b e.toNat B hb (by omega))) (ad_cons ej_int ad_nil)) (Nat.le_of_ble_eq_true rfl)
  · have he : e < 0 := by have := of_decide_eq_false h; omega
    have hn : 0 - e = ((-e).toNat : Int) := by omega
    unfold pw
    rw [if_pos he, fq_inv (Nat.pow_pos h0)]
    exact ej_tupD (ad_cons ej_int (ad_cons (ej_call c_l_to (G.le (by decide)) (aj_cons (ej_dat 0) (aj_cons (ej_is (ej_sub ej_int (ej_dat 1)) (congrArg PyData.int hn)) aj_nil)) (R_pow.mk b (-e).toNat B hb (by omega))) ad_nil)) (Nat.le_of_ble_eq_true rfl)

abbrev s_l_size : Stmt := topS 32
theorem sc_l_size : FnScope ["_law_form", "_law_c_here", "_law_e", "_law_n", "_law_d"] ["_law_form", "_law_c_here", "_law_e"] (defScope s_l_size) := ⟨rfl, rfl, rfl, by decide +kernel, rfl, by decide +kernel, by decide +kernel⟩

theorem c_of_l_size /-H-/ (c_l_power : Cal P w K mg base "_law_power" 5 R_power_of) /-E-/ (T : At K mg "_law_size" s_l_size ["_law_form", "_law_c_here", "_law_e"]) : Cal P w K mg base "_law_size" 6 R_lsize :=
  cal_at T sc_l_size (by rintro _ _ _ _ ⟨⟩; rfl) fun f cd0 A out s0 H E0 G Γ B r B' hR => by
  obtain ⟨b, p, low, high, c, e, B, F, h0, h1, h2, h3⟩ := hR
  have b2 := F.b2; have lo := F.lo; have hi := F.hi
  have hc : Bd 400 c := by unfold Bd; have := F.bp; omega
  have hn := (F.pn h2 h3).nu
  rw [(pw_num b b2 e).1] at hn
  have RP := R_power_of.mk b e B (by omega) F.b6 (by omega) (by omega)
  rw [fq_pw b2] at RP
  refine sj_unpack [3, 4] (ds := [.int ((b ^ e.toNat : Nat) : Int), .int ((b ^ (-e).toNat : Nat) : Int)]) G.calm (ej_call c_l_power (G.le (by decide)) (aj_cons (ej_at (y := .int b) (ej_dat (d := fmP b p low high) 0)) (aj_cons (ej_dat 2) aj_nil)) (RP)) (pgs_cons (pgN 3 G.nd) (pgs_cons (pgN 4 G.nd) pgs_nil)) rfl ?_
  exact sj_ret (ej_tupD (ad_cons (ej_mul (ej_dat 1) (ej_dat 3) (cm hc hn (by decide))) (ad_cons (ej_dat 4) ad_nil)) (Nat.le_of_ble_eq_true rfl)) ⟨rfl, rfl⟩

abbrev s_l_c : Stmt := topS 33
theorem sc_l_c : FnScope ["_law_bag_here", "_law_form", "_law_e", "_law_base", "_law_digits", "_law_low", "_law_high", "_law_least", "_law_most", "_law_menu"] ["_law_bag_here", "_law_form", "_law_e"] (defScope s_l_c) := ⟨rfl, rfl, rfl, by decide +kernel, rfl, by decide +kernel, by decide +kernel⟩

theorem c_of_l_c /-H-/ (m_max : mg "max" = none) (m_min : mg "min" = none) (c_l_to : Cal P w K mg base "_law_to" 4 R_pow) (c_l_take : Cal P w K mg base "_law_take" 4 R_take) (c_l_some : Cal P w K mg base "_law_some" 5 R_some) /-E-/ (T : At K mg "_law_c" s_l_c ["_law_bag_here", "_law_form", "_law_e"]) : CalX P w K mg base "_law_c" 6 Pre_tc Post_tc :=
  calx_at T sc_l_c (by rintro _ _ ⟨b, p, low, high, e, rfl, _, _⟩; rfl) fun f cd0 A out s0 H E0 G Γ B hPre => by
  obtain ⟨b, p, low, high, e, rfl, F, ok0⟩ := hPre
  have b2 := F.b2; have p2 := F.p2; have bp := F.bp
  have e1 : (p : Int) - 1 = ((p - 1 : Nat) : Int) := by omega
  have P1 : 2 ≤ b ^ (p - 1) := Nat.le_trans b2 (Nat.le_self_pow (by omega) b)
  have P2 : b ^ (p - 1) + 2 ≤ b ^ p := by
    have : b ^ p = b ^ (p - 1) * b := by rw [← Nat.pow_succ]; congr 1; omega
    have := Nat.mul_le_mul_left (b ^ (p - 1)) b2
    omega
  have hp : p ≤ 20000 := by
    refine Nat.le_of_not_lt fun z => ?_
    have := Nat.pow_le_pow_left b2 p
    have := Nat.pow_le_pow_right (show 0 < 2 by decide) (show 400 ≤ p by omega)
    omega
  refine sj_unpack [3, 4, 5, 6] (ds := [.int b, .int p, .int low, .int high]) G.calm (ej_dat (d := fmP b p low high) 1) (pgs_cons (pgN 3 G.nd) (pgs_cons (pgN 4 G.nd) (pgs_cons (pgN 5 G.nd) (pgs_cons (pgN 6 G.nd) pgs_nil)))) rfl ?_
  refine sj_par 7 8 (d1 := .da (.int ((b ^ (p - 1) : Nat) : Int))) (d2 := .da (.int (((b ^ p : Nat) : Int) - 1))) (B1 := B) G.nd G.calm (aj_cons (ej_call c_l_to (G.le (by decide)) (aj_cons (ej_dat 3) (aj_cons (ej_is (ej_sub (ej_dat 4) ej_int) (congrArg PyData.int e1)) aj_nil)) (R_pow.mk b (p - 1) B F.b6 (by omega))) (aj_cons (ej_sub (ej_call c_l_to (G.le (by decide)) (aj_cons (ej_dat 3) (aj_cons (ej_dat 4) aj_nil)) (R_pow.mk b p B F.b6 (by omega))) ej_int) aj_nil)) ?_ (by decide) (by rfl)
  generalize b ^ (p - 1) = L at *
  generalize hM : b ^ p = M at *
  have big : ∀ {i : Int}, 0 < i → i ≤ M → Bd 8000 i := fun {i} h1 h2 => by unfold Bd; exact Nat.lt_of_lt_of_le (show i.natAbs < 2 ^ 400 by omega) (Nat.pow_le_pow_right (by decide) (by decide))
  have tk : ∀ {B0 : Bag} (i : Int), Bok B0 → 0 < i → i ≤ M → ∃ (v : Int) (B' : Bag), R_take [.bag, .da (.int i)] B0 (.int v) B' ∧ 0 ≤ v ∧ v < i ∧ Bok B' := fun {B0} i ok h1 h2 =>
    ⟨tkV B0 i, tkB B0 i, R_take.mk B0 i h1 (big h1 h2) ok, tkV_ge B0 h1, tkV_lt B0 h1, tkB_ok ok i⟩
  obtain ⟨v1, B1, ra, a0, a1, ok1⟩ := tk ((M : Int) - 1 - L + 1) ok0 (by omega) (by omega)
  obtain ⟨v2, B2, rb, b0, b1, ok2⟩ := tk_ex ok1 9 (by decide) (by decide)
  have m9 : CMulW v2 ((M : Int) - 1 - L) := cm (n := 60) (m := 8000) (by unfold Bd; omega) (by unfold Bd; exact Nat.lt_of_lt_of_le (show ((M : Int) - 1 - L).natAbs < 2 ^ 400 by omega) (Nat.pow_le_pow_right (by decide) (by decide)))
  have d9 : CDivW (v2 * ((M : Int) - 1 - L)) 9 := cdv (show Bd 60 (9 : Int) by unfold Bd; decide) (by decide)
  refine sj_set 9 (d := .da (.list (([(L : Int), (M : Int) - 1, (L : Int) + 1, (M : Int) - 1 - 1, (L : Int) + v1, (L : Int) + v2 * ((M : Int) - 1 - L) / 9] : List Int).map PyData.int))) (B1 := B2) G.nd (ej_is (ej_lstD (ad_cons (ej_dat 7) (ad_cons (ej_dat 8) (ad_cons (ej_add (ej_dat 7) ej_int) (ad_cons (ej_sub (ej_dat 8) ej_int) (ad_cons (ej_add (ej_dat 7) (ej_call c_l_take (G.le (by decide)) (aj_cons (ej_bag 0) (aj_cons (ej_add (ej_sub (ej_dat 8) (ej_dat 7)) ej_int) aj_nil)) (ra))) (ad_cons (ej_add (ej_dat 7) (ej_fdiv (ej_mul (ej_call c_l_take (G.le (by decide)) (aj_cons (ej_bag 0) (aj_cons ej_int aj_nil)) (rb)) (ej_sub (ej_dat 8) (ej_dat 7)) m9) ej_int d9)) ad_nil)))))) (Nat.le_of_ble_eq_true rfl)) rfl) ?_
  generalize hm : ([(L : Int), (M : Int) - 1, (L : Int) + 1, (M : Int) - 1 - 1, (L : Int) + v1, (L : Int) + v2 * ((M : Int) - 1 - L) / 9] : List Int) = menu
  have ml : menu.length = 6 := by rw [← hm]; rfl
  have fin : ∀ (menu2 : List Int) (B3 : Bag), menu2.length ≤ 1000 → 0 < menu2.length → Bok B3 → SJ (cxOf CX0 P w K mg base ["_law_bag_here", "_law_form", "_law_e", "_law_base", "_law_digits", "_law_low", "_law_high", "_law_least", "_law_most", "_law_menu"] "_law_c" (defScope s_l_c) f cd0 A out s0 H E0).nox [.bag, .da (fmP b p low high), .da (.int e), .da (.int b), .da (.int p), .da (.int low), .da (.int high), .da (.int L), .da (.int ((M : Int) - 1)), .da (.list (menu2.map PyData.int))] B3 ((defBody s_l_c).drop 4) { nx := fun _ B2 => Post_tc [.bag, .da (fmP b p low high), .da (.int e)] B .none B2, rt := fun d B2 => Post_tc [.bag, .da (fmP b p low high), .da (.int e)] B d B2 } := fun menu2 B3 h1 h2 ok3 => by
    obtain ⟨x, hx, B4, rc, ok4⟩ := sm_ex menu2 PyData.int h1 ok3 h2
    refine sj_ret (ej_max G.calm m_max ej_int (ej_min G.calm m_min (ej_dat 8) (ej_call c_l_some (G.le (by decide)) (aj_cons (ej_bag 0) (aj_cons (ej_dat (d := .list (menu2.map PyData.int)) 9) aj_nil)) (rc)))) ⟨ok4, fun b' p' low' high' e' hz => ?_⟩
    injection hz with _ hz
    injection hz with hz _
    injection hz with hz
    unfold fmP at hz
    injection hz with hz
    injection hz with h1 hz
    injection hz with h2 _
    injection h1 with h1
    injection h2 with h2
    have h1 : b = b' := by omega
    have h2 : p = p' := by omega
    refine ⟨_, rfl, Int.le_max_left _ _, ?_⟩
    rw [← h1, ← h2, hM]
    omega
  by_cases he : e = low
  · obtain ⟨v3, B3, rc, c0, c1, ok3⟩ := tk (L : Int) ok2 (by omega) (by omega)
    refine sj_when (x := true) (tj_is (tj_eqI G.hu (ej_dat 2) (ej_dat 5)) (decide_eq_true he)) (fun _ => ?_) (fun h => Bool.noConfusion h)
    refine sj_set 9 (d := .da (.list ((menu ++ [1, 2, (L : Int) - 1, 1 + v3]).map PyData.int))) (B1 := B3) G.nd (ej_is (ej_catL (ej_dat (d := .list (menu.map PyData.int)) 9) (ej_lstD (ad_cons ej_int (ad_cons ej_int (ad_cons (ej_sub (ej_dat 7) ej_int) (ad_cons (ej_add ej_int (ej_call c_l_take (G.le (by decide)) (aj_cons (ej_bag 0) (aj_cons (ej_dat 7) aj_nil)) (rc))) ad_nil)))) (Nat.le_of_ble_eq_true rfl)) (by rw [List.length_map, ml]; exact Nat.le_of_ble_eq_true rfl)) (by rw [List.map_append]; rfl)) ?_
    exact sj_nil (fin _ B3 (by rw [List.length_append, ml]; exact Nat.le_of_ble_eq_true rfl) (by rw [List.length_append, ml]; exact Nat.lt_of_lt_of_le (by decide) (Nat.le_add_right 6 _)) ok3)
  · refine sj_when (x := false) (tj_is (tj_eqI G.hu (ej_dat 2) (ej_dat 5)) (decide_eq_false he)) (fun h => Bool.noConfusion h) (fun _ => ?_)
    exact fin menu B2 (by rw [ml]; decide) (by rw [ml]; decide) ok2

abbrev s_l_number : Stmt := topS 34
theorem sc_l_number : FnScope ["_law_bag_here", "_law_form", "_law_base", "_law_digits", "_law_low", "_law_high", "_law_near", "_law_e"] ["_law_bag_here", "_law_form"] (defScope s_l_number) := ⟨rfl, rfl, rfl, by decide +kernel, rfl, by decide +kernel, by decide +kernel⟩

theorem c_of_l_number /-H-/ (m_max : mg "max" = none) (m_min : mg "min" = none) (c_l_take : Cal P w K mg base "_law_take" 4 R_take) (c_l_some : Cal P w K mg base "_law_some" 5 R_some) (c_l_c : CalX P w K mg base "_law_c" 6 Pre_tc Post_tc) /-E-/ (T : At K mg "_law_number" s_l_number ["_law_bag_here", "_law_form"]) : CalX P w K mg base "_law_number" 7 Pre_tn Post_tn :=
  calx_at T sc_l_number (by rintro _ _ ⟨b, p, low, high, rfl, _, _⟩; rfl) fun f cd0 A out s0 H E0 G Γ B hPre => by
  obtain ⟨b, p, low, high, rfl, F, ok0⟩ := hPre
  have lo := F.lo; have hi := F.hi; have lh := F.lh
  obtain ⟨v1, B1, ra, a0, a1, ok1⟩ := tk_ex ok0 5 (by decide) (by decide)
  obtain ⟨v2, B2, rb, b0, b1, ok2⟩ := tk_ex ok1 (high - low + 1) (by omega) (by omega)
  obtain ⟨nr, hn⟩ : ∃ nr : Int, max low (min high (0 - p + v1)) = nr := ⟨_, rfl⟩
  have n1 : low ≤ nr ∧ nr ≤ high := by omega
  refine sj_unpack [2, 3, 4, 5] (ds := [.int b, .int p, .int low, .int high]) G.calm (ej_dat (d := fmP b p low high) 1) (pgs_cons (pgN 2 G.nd) (pgs_cons (pgN 3 G.nd) (pgs_cons (pgN 4 G.nd) (pgs_cons (pgN 5 G.nd) pgs_nil)))) rfl ?_
  refine sj_set 6 (d := .da (.int nr)) (B1 := B1) G.nd (ej_is (ej_max G.calm m_max (ej_dat 4) (ej_min G.calm m_min (ej_dat 5) (ej_add (ej_sub ej_int (ej_dat 3)) (ej_call c_l_take (G.le (by decide)) (aj_cons (ej_bag 0) (aj_cons ej_int aj_nil)) (ra))))) (congrArg PyData.int hn)) ?_
  obtain ⟨e, he, B3, rc, ok3⟩ := sm_ex ([low, high, low + v2, nr, nr] : List Int) PyData.int (Nat.le_of_ble_eq_true rfl) ok2 (Nat.zero_lt_succ _)
  have e12 : low ≤ e ∧ e ≤ high := by
    simp only [List.mem_cons, List.not_mem_nil, or_false] at he
    omega
  refine sj_set 7 (d := .da (.int e)) (B1 := B3) G.nd (ej_call c_l_some (G.le (by decide)) (aj_cons (ej_bag 0) (aj_cons (ej_is (y := .list (([low, high, low + v2, nr, nr] : List Int).map PyData.int)) (ej_lstD (ad_cons (ej_dat 4) (ad_cons (ej_dat 5) (ad_cons (ej_add (ej_dat 4) (ej_call c_l_take (G.le (by decide)) (aj_cons (ej_bag 0) (aj_cons (ej_add (ej_sub (ej_dat 5) (ej_dat 4)) ej_int) aj_nil)) (rb))) (ad_cons (ej_dat 6) (ad_cons (ej_dat 6) ad_nil))))) (Nat.le_of_ble_eq_true rfl)) rfl) aj_nil)) (rc)) ?_
  obtain ⟨s, B4, rd, s0, s1, ok4⟩ := tk_ex ok3 2 (by decide) (by decide)
  refine sj_retX (ex_tup (ax_cons (ex_ej ej_str (ax_cons (ex_ej (ej_call c_l_take (G.le (by decide)) (aj_cons (ej_bag 0) (aj_cons ej_int aj_nil)) (rd)) (ax_cons (ex_call c_l_c (G.le (by decide)) (ax_bag 0 (ax_aj (aj_cons (ej_dat (d := fmP b p low high) 1) (aj_cons (ej_dat 7) aj_nil)) ⟨⟨b, p, low, high, e, rfl, F, ok4⟩, fun r B5 hr => ?_⟩))) rfl)) rfl)) rfl))
  obtain ⟨ok5, hr⟩ := hr
  obtain ⟨c, rfl, c1, c2⟩ := hr b p low high e rfl
  refine ax_one (ex_ej (ej_dat 7) ⟨[.str "num", .int s, .int c, .int e], rfl, Nat.le_of_ble_eq_true rfl, ok5, fun b' p' low' high' hz => ?_⟩)
  injection hz with _ hz
  injection hz with hz _
  injection hz with hz
  unfold fmP at hz
  injection hz with hz
  injection hz with h1 hz
  injection hz with h2 hz
  injection hz with h3 hz
  injection hz with h4 _
  injection h1 with h1
  injection h2 with h2
  injection h3 with h3
  injection h4 with h4
  obtain rfl : b = b' := by omega
  obtain rfl : p = p' := by omega
  subst h3
  subst h4
  exact ⟨s, c, e, rfl, ⟨by omega, by omega, c2, e12.1, e12.2⟩, by omega⟩

abbrev s_l_compared : Stmt := topS 35
theorem sc_l_compared : FnScope ["_law_one", "_law_other"] ["_law_one", "_law_other"] (defScope s_l_compared) := ⟨rfl, rfl, rfl, by decide +kernel, rfl, by decide +kernel, by decide +kernel⟩

theorem c_of_l_compared /-H-/  /-E-/ (T : At K mg "_law_compared" s_l_compared ["_law_one", "_law_other"]) : Cal P w K mg base "_law_compared" 4 R_cross :=
  cal_at T sc_l_compared (by rintro _ _ _ _ ⟨⟩; rfl) fun f cd0 A out s0 H E0 G Γ B r B' hR => by
  obtain ⟨a, b, c, d, B, h1, h2, h3, h4⟩ := hR
  exact sj_ret (ej_sub (ej_mul (ej_at (y := .int a) (ej_dat (d := .tuple [.int a, .int b]) 0)) (ej_at (y := .int d) (ej_dat (d := .tuple [.int c, .int d]) 1)) (cm h1 h4 (by decide))) (ej_mul (ej_at (y := .int c) (ej_dat (d := .tuple [.int c, .int d]) 1)) (ej_at (y := .int b) (ej_dat (d := .tuple [.int a, .int b]) 0)) (cm h3 h2 (by decide)))) ⟨rfl, rfl⟩

abbrev s_l_top : Stmt := topS 36
theorem sc_l_top : FnScope ["_law_n", "_law_d", "_law_e"] ["_law_n", "_law_d"] (defScope s_l_top) := ⟨rfl, rfl, rfl, by decide +kernel, rfl, by decide +kernel, by decide +kernel⟩

theorem c_of_l_top (nd : base.NoDigits) /-H-/ (m_len : mg "len" = none) (m_str : mg "str" = none) (c_l_compared : Cal P w K mg base "_law_compared" 4 R_cross) (c_l_power : Cal P w K mg base "_law_power" 5 R_power_of) /-E-/ (T : At K mg "_law_top" s_l_top ["_law_n", "_law_d"]) : Cal P w K mg base "_law_top" 6 R_top :=
  cal_at T sc_l_top (by rintro _ _ _ _ ⟨⟩; rfl) fun f cd0 A out s0 H E0 G Γ B r B' hR => by
  obtain ⟨n, d, q, k, B, hn, hd, h, h1, h2, b1, b2⟩ := hR
  have sz : ∀ m : Nat, m < 10 ^ 4300 → (toString (m : Int) : Str).length ≤ 4300 := fun m hm => by
    rw [dl_str]; exact (Nat.length_repr_le_iff (by decide)).mpr hm
  have sn := sz n b1
  have sd := sz d b2
  have st := top_start hn hd h h2
  have lin : (4300 : Nat) ≤ sizeLine := by decide
  refine sj_set 2 (d := .da (.int ((dl n : Int) - dl d - 1))) (B1 := B) G.nd (ej_is (ej_sub (ej_sub (ej_lenS (y := toString (n : Int)) (Nat.le_trans sn lin) m_len (ej_strD G nd (by rw [Int.natAbs_natCast]; exact b1) m_str (ej_dat 0))) (ej_lenS (y := toString (d : Int)) (Nat.le_trans sd lin) m_len (ej_strD G nd (by rw [Int.natAbs_natCast]; exact b2) m_str (ej_dat 1)))) ej_int) (by rw [dl_str, dl_str])) ?_
  rw [dl_str] at sn sd
  refine sj_while G.nd (fun Γ' B' => ∃ e : Int, Γ' = [.da (.int n), .da (.int d), .da (.int e)] ∧ -4400 ≤ e ∧ e ≤ k + 1 ∧ B' = B) (fun Γ' _ => (k + 1 - intAt Γ' 2).toNat) ⟨_, rfl, by omega, st, rfl⟩ ?_
  rintro Γ' B' ⟨e, rfl, e1, e2, rfl⟩
  have kb := top_bound hn hd h h1 b1
  have RP := R_power_of.mk 10 e B' (by decide) (by decide) (by omega) (by omega)
  rw [fq_pw (by decide)] at RP
  have bt : ∀ m : Nat, m ≤ 4401 → Bd 20000 ((10 ^ m : Nat) : Int) := fun m hm => by
    unfold Bd; rw [Int.natAbs_natCast]
    exact Nat.lt_of_le_of_lt (Nat.pow_le_pow_right (by decide) hm) ten_4401
  have bn : ∀ m : Nat, m < 10 ^ 4300 → Bd 20000 (m : Int) := fun m hm => by
    unfold Bd; rw [Int.natAbs_natCast]
    exact Nat.lt_of_lt_of_le hm (Nat.le_of_lt (Nat.lt_of_le_of_lt (Nat.pow_le_pow_right (by decide) (by decide)) ten_4401))
  have RC := R_cross.mk ((10 ^ e.toNat : Nat) : Int) ((10 ^ (-e).toNat : Nat) : Int) n d B' (bt _ (by omega)) (bt _ (by omega)) (bn n b1) (bn d b2)
  have iff := top_cmp hn hd h (e := e)
  refine ⟨decide (((10 ^ e.toNat : Nat) : Int) * d - n * ((10 ^ (-e).toNat : Nat) : Int) ≤ 0), tj_le (ej_call c_l_compared (G.le (by decide)) (aj_cons (ej_call c_l_power (G.le (by decide)) (aj_cons ej_int (aj_cons (ej_dat 2) aj_nil)) (RP)) (aj_cons (ej_tupD (ad_cons (ej_dat 0) (ad_cons (ej_dat 1) ad_nil)) (Nat.le_of_ble_eq_true rfl)) aj_nil)) (RC)) ej_int, fun hc => ?_, fun hc => ?_⟩
  · have hk : e ≤ k := top_le (iff.mp (of_decide_eq_true hc)) h2
    exact sj_augI 2 (m := e) (n := 1) G.nd rfl ej_int (sj_nil ⟨⟨e + 1, rfl, by omega, by omega, rfl⟩, show (k + 1 - (e + 1)).toNat < (k + 1 - e).toNat by omega⟩)
  · have hk : ¬ e ≤ k := fun z => of_decide_eq_false hc (iff.mpr (Std.le_trans (pw_mono (by decide) z) h1))
    obtain rfl : e = k + 1 := by omega
    exact sj_ret (ej_dat 2) ⟨rfl, rfl⟩

abbrev s_l_way : Stmt := topS 37
theorem sc_l_way : FnScope ["_law_bag_here"] ["_law_bag_here"] (defScope s_l_way) := ⟨rfl, rfl, rfl, by decide +kernel, rfl, by decide +kernel, by decide +kernel⟩

theorem c_of_l_way /-H-/ (c_l_some : Cal P w K mg base "_law_some" 5 R_some) /-E-/ (T : At K mg "_law_way" s_l_way ["_law_bag_here"]) : CalX P w K mg base "_law_way" 6 Pre_cpl Post_tw :=
  calx_at T sc_l_way (by rintro _ _ ⟨rfl, _⟩; rfl) fun f cd0 A out s0 H E0 G Γ B hPre => by
  obtain ⟨rfl, ok0⟩ := hPre
  obtain ⟨t, ht, B2, rb, ok2⟩ := sm_ex (["even", "even", "away", "up", "down", "zero"] : List Str) PyData.str (by decide) ok0 (by decide)
  exact sj_ret (ej_call c_l_some (G.le (by decide)) (aj_cons (ej_bag 0) (aj_cons (ej_is (y := .list ((["even", "even", "away", "up", "down", "zero"] : List Str).map PyData.str)) (ej_lstD (ad_cons ej_str (ad_cons ej_str (ad_cons ej_str (ad_cons ej_str (ad_cons ej_str (ad_cons ej_str ad_nil)))))) (Nat.le_of_ble_eq_true rfl)) rfl) aj_nil)) (rb)) ⟨ok2, t, (by simp only [List.mem_cons, List.not_mem_nil, or_false] at ht; rcases ht with rfl | rfl | rfl | rfl | rfl | rfl <;> decide +kernel), rfl⟩

abbrev s_l_integer : Stmt := topS 38
theorem sc_l_integer : FnScope ["_law_way_here", "_law_s", "_law_n", "_law_d", "_law_low", "_law_rest"] ["_law_way_here", "_law_s", "_law_n", "_law_d"] (defScope s_l_integer) := ⟨rfl, rfl, rfl, by decide +kernel, rfl, by decide +kernel, by decide +kernel⟩

theorem c_of_l_integer /-H-/ (m_int : mg "int" = none) /-E-/ (T : At K mg "_law_integer" s_l_integer ["_law_way_here", "_law_s", "_law_n", "_law_d"]) : Cal P w K mg base "_law_integer" 4 R_lint :=
  cal_at T sc_l_integer (by rintro _ _ _ _ ⟨⟩; rfl) fun f cd0 A out s0 H E0 G Γ B r B' hR => by
  obtain ⟨way, s, N, D, y, B, hw, hs, hy, hD, h, hb, hN, hD2⟩ := hR
  obtain ⟨g, g0, rfl, rfl⟩ := rep hD h
  obtain ⟨p1, p2⟩ := toC_parts (y := y) g0
  have cL : Bd 20000 (y.num / (y.den : Int)) := by
    rw [← p1]; unfold Bd at hN ⊢
    exact Nat.lt_of_le_of_lt (Int.natAbs_ediv_le_natAbs _ _) hN
  have dp := den_pos y
  have l0 : 0 ≤ y.num / (y.den : Int) := Int.ediv_nonneg (Rat.num_nonneg.mpr hy) (by omega)
  refine sj_set 4 (d := .da (.int (y.num / (y.den : Int)))) (B1 := B) G.nd (ej_is (ej_fdivP (ej_dat 2) (ej_dat 3) (divp2 hD hb)) (congrArg PyData.int p1)) ?_
  refine sj_set 5 (d := .da (.int (y.num % (y.den : Int) * g))) (B1 := B) G.nd (ej_is (ej_sub (ej_dat 2) (ej_mul (ej_dat 4) (ej_dat 3) (cm cL hD2 (by decide)))) (congrArg PyData.int p2)) ?_
  have t0 := toC_0 (way := way) (s := s) (y := y) g0
  have t1 := toC_1 (way := way) (s := s) (y := y) g0
  have t2 := toC_2 (way := way) (s := s) (y := y) g0
  have t3 := toC_3 (way := way) (s := s) (y := y) g0
  have bR : Bd 20000 (y.num % (y.den : Int) * g) := by
    have m0 := Int.emod_nonneg y.num (show (y.den : Int) ≠ 0 by omega)
    have m1 := Int.emod_lt_of_pos y.num dp
    have := Int.mul_le_mul_of_nonneg_right (Int.le_of_lt m1) (Int.le_of_lt g0)
    have z := Int.mul_nonneg m0 (Int.le_of_lt g0)
    unfold Bd at hD2 ⊢
    omega
  generalize y.num % (y.den : Int) * g = R at *
  generalize (y.den : Int) * g = D at *
  generalize y.num / (y.den : Int) = L at *
  generalize toC way s y = t at *
  by_cases c0 : R = 0 ∨ way = "zero"
  · refine sj_when (B1 := B) (x := true) ?_ (fun _ => sj_ret (ej_is (ej_dat 4) (congrArg PyData.int (t0 c0).symm)) ⟨rfl, rfl⟩) (fun h => Bool.noConfusion h)
    by_cases r0 : R = 0
    · exact tj_w (wj_orT (tj_is (tj_eqI G.hu (ej_dat 5) ej_int) (decide_eq_true r0)))
    · exact tj_w (wj_or (x := false) (y := true) (tj_is (tj_eqI G.hu (ej_dat 5) ej_int) (decide_eq_false r0)) fun _ => wj_or1 (tj_is (tj_eqS (ej_dat (d := .str way) 0) ej_str) (decide_eq_true (c0.resolve_left r0))))
  · refine sj_when (B1 := B) (x := false) ?_ (fun h => Bool.noConfusion h) (fun _ => ?_)
    · exact tj_w (wj_or (x := false) (y := false) (tj_is (tj_eqI G.hu (ej_dat 5) ej_int) (decide_eq_false fun z => c0 (.inl z))) fun _ => wj_or1 (tj_is (tj_eqS (ej_dat (d := .str way) 0) ej_str) (decide_eq_false fun z => c0 (.inr z))))
    by_cases c1 : way = "up" ∨ way = "down"
    · refine sj_when (x := true) (tj_is (tj_inD G.hu (ej_dat (d := .str way) 0) (ej_tupD (ad_cons ej_str (ad_cons ej_str ad_nil)) (Nat.le_of_ble_eq_true rfl)) (by rcases c1 with rfl | rfl <;> decide +kernel) (by decide +kernel) (by simp [PyData.depth])) (by rcases c1 with rfl | rfl <;> decide +kernel)) (fun _ => ?_) (fun h => Bool.noConfusion h)
      refine sj_ret (ej_is (ej_add (ej_dat 4) (ej_intB m_int (ej_eqB G.hu (ej_eqS (ej_dat (d := .str way) 0) ej_str) (ej_eqI G.hu (ej_dat 1) ej_int)))) (congrArg PyData.int (t1 c0 hs c1).symm)) ⟨rfl, rfl⟩
    · refine sj_when (x := false) (tj_is (tj_inD G.hu (ej_dat (d := .str way) 0) (ej_tupD (ad_cons ej_str (ad_cons ej_str ad_nil)) (Nat.le_of_ble_eq_true rfl)) (by rcases ways hw with rfl | rfl | rfl | rfl | rfl <;> decide +kernel) (by decide +kernel) (by simp [PyData.depth])) (by rcases ways hw with rfl | rfl | rfl | rfl | rfl <;> first | decide +kernel | exact absurd (.inl rfl) c1 | exact absurd (.inr rfl) c1)) (fun h => Bool.noConfusion h) (fun _ => ?_)
      by_cases c2 : 2 * R = D
      · refine sj_when (x := false) (tj_is (tj_neI G.hu (ej_mul ej_int (ej_dat 5) (cm (show Bd 60 (2 : Int) by unfold Bd; decide) bR (by decide))) (ej_dat 3)) (by rw [decide_eq_true c2]; rfl)) (fun h => Bool.noConfusion h) (fun _ => ?_)
        refine sj_ret (ej_is (ej_add (ej_dat 4) (ej_intB m_int (ej_or (ej_eqS (ej_dat (d := .str way) 0) ej_str) fun _ => ej_one (ej_eqI G.hu (ej_mod (ej_int1 m_int (ej_dat 4)) ej_int (by decide)) ej_int)))) (congrArg PyData.int (t3 c0 c1 c2).symm)) ⟨rfl, rfl⟩
      · refine sj_when (x := true) (tj_is (tj_neI G.hu (ej_mul ej_int (ej_dat 5) (cm (show Bd 60 (2 : Int) by unfold Bd; decide) bR (by decide))) (ej_dat 3)) (by rw [decide_eq_false c2]; rfl)) (fun _ => ?_) (fun h => Bool.noConfusion h)
        exact sj_ret (ej_is (ej_add (ej_dat 4) (ej_intB m_int (ej_gt (ej_mul ej_int (ej_dat 5) (cm (show Bd 60 (2 : Int) by unfold Bd; decide) bR (by decide))) (ej_dat 3)))) (congrArg PyData.int (t2 c0 c1 c2).symm)) ⟨rfl, rfl⟩

abbrev s_l_told_at : Stmt := topS 39
theorem sc_l_told_at : FnScope ["_law_way_here", "_law_s", "_law_n", "_law_d", "_law_e", "_law_up", "_law_down", "_law_c_here"] ["_law_way_here", "_law_s", "_law_n", "_law_d", "_law_e"] (defScope s_l_told_at) := ⟨rfl, rfl, rfl, by decide +kernel, rfl, by decide +kernel, by decide +kernel⟩

theorem c_of_l_told_at /-H-/ (c_l_power : Cal P w K mg base "_law_power" 5 R_power_of) (c_l_integer : Cal P w K mg base "_law_integer" 4 R_lint) (c_l_compared : Cal P w K mg base "_law_compared" 4 R_cross) /-E-/ (T : At K mg "_law_told_at" s_l_told_at ["_law_way_here", "_law_s", "_law_n", "_law_d", "_law_e"]) : Cal P w K mg base "_law_told_at" 6 R_ltold :=
  cal_at T sc_l_told_at (by rintro _ _ _ _ ⟨⟩; rfl) fun f cd0 A out s0 H E0 G Γ B r B' hR => by
  obtain ⟨way, s, n, d, e, q, B, hw, hs, hq, hd, h, h1, h2, e1, e2⟩ := hR
  have RP := R_power_of.mk 10 e B (by decide) (by decide) (by omega) (by omega)
  rw [fq_pw (by decide)] at RP
  have hr := at_rat (e := e) h
  obtain ⟨k1, k2, k3, k4, k5⟩ := at_bits h1 h2 e1 e2
  have hy : 0 ≤ q / pw 10 e := by rw [Rat.div_def]; exact Rat.mul_nonneg hq (Rat.le_of_lt (Rat.inv_pos.mpr (pw_pos (by decide) e)))
  have hD : 0 < d * ((10 ^ e.toNat : Nat) : Int) := Int.mul_pos hd (Int.natCast_pos.mpr (Nat.pow_pos (by decide)))
  generalize q / pw 10 e = y at *
  obtain ⟨g, g0, r1, r2⟩ := rep hD hr
  have kc := at_c (way := way) (s := s) (D := 0) g0 k1 hy r1
  have ex := exact_iff (way := way) (s := s) (y := y) g0
  rw [← r1, ← r2] at ex
  refine sj_unpack [5, 6] (ds := [.int ((10 ^ e.toNat : Nat) : Int), .int ((10 ^ (-e).toNat : Nat) : Int)]) G.calm (ej_call c_l_power (G.le (by decide)) (aj_cons ej_int (aj_cons (ej_dat 4) aj_nil)) (RP)) (pgs_cons (pgN 5 G.nd) (pgs_cons (pgN 6 G.nd) pgs_nil)) rfl ?_
  have RL := R_lint.mk way s (n * ((10 ^ (-e).toNat : Nat) : Int)) (d * ((10 ^ e.toNat : Nat) : Int)) y B hw hs hy hD hr k5 (k1.le (by decide)) (k2.le (by decide))
  generalize hu : ((10 ^ e.toNat : Nat) : Int) = u at *
  generalize hv : ((10 ^ (-e).toNat : Nat) : Int) = v at *
  refine sj_set 7 (d := .da (.int (toC way s y))) (B1 := B) G.nd (ej_call c_l_integer (G.le (by decide)) (aj_cons (ej_dat 0) (aj_cons (ej_dat 1) (aj_cons (ej_mul (ej_dat 2) (ej_dat 6) (cm h1 k3 (by decide))) (aj_cons (ej_mul (ej_dat 3) (ej_dat 5) (cm h2 k4 (by decide))) aj_nil)))) (RL)) ?_
  generalize toC way s y = t at *
  have RC := R_cross.mk (t * u) v n d B ((kc.mul k4).le (by decide)) (k3.le (by decide)) (h1.le (by decide)) (h2.le (by decide))
  refine sj_ret (ej_tupD (ad_cons (ej_dat 7) (ad_cons (ej_eqI G.hu (ej_call c_l_compared (G.le (by decide)) (aj_cons (ej_tupD (ad_cons (ej_mul (ej_dat 7) (ej_dat 5) (cm kc k4 (by decide))) (ad_cons (ej_dat 6) ad_nil)) (Nat.le_of_ble_eq_true rfl)) (aj_cons (ej_tupD (ad_cons (ej_dat 2) (ad_cons (ej_dat 3) ad_nil)) (Nat.le_of_ble_eq_true rfl)) aj_nil)) (RC)) ej_int) ad_nil)) (Nat.le_of_ble_eq_true rfl)) ⟨?_, rfl⟩
  unfold toE
  have : (t * u * d - n * v = 0) ↔ ((y.den : Int) = 1) := by
    rw [← ex]
    have : t * u * d = t * (d * u) := by rw [Int.mul_assoc, Int.mul_comm u d]
    omega
  rw [decide_eq_decide.mpr this]

abbrev s_l_told_digits : Stmt := topS 40
theorem sc_l_told_digits : FnScope ["_law_form", "_law_number_here", "_law_many", "_law_way_here", "_law_s", "_law_c_here", "_law_e", "_law_n", "_law_d", "_law_at", "_law_found", "_law_is_exact"] ["_law_form", "_law_number_here", "_law_many", "_law_way_here"] (defScope s_l_told_digits) := ⟨rfl, rfl, rfl, by decide +kernel, rfl, by decide +kernel, by decide +kernel⟩

theorem c_of_l_told_digits /-H-/ (c_l_size : Cal P w K mg base "_law_size" 6 R_lsize) (c_l_top : Cal P w K mg base "_law_top" 6 R_top) (c_l_told_at : Cal P w K mg base "_law_told_at" 6 R_ltold) (c_l_to : Cal P w K mg base "_law_to" 4 R_pow) /-E-/ (T : At K mg "_law_told_digits" s_l_told_digits ["_law_form", "_law_number_here", "_law_many", "_law_way_here"]) : Cal P w K mg base "_law_told_digits" 7 R_tdig :=
  cal_at T sc_l_told_digits (by rintro _ _ _ _ h; cases h <;> rfl) fun f cd0 A out s0 H E0 G Γ B r B' hR => by
  cases hR with
  | zero b p low high s e many way B F h hw m1 m2 =>
    refine sj_unpack [4, 5, 6] (ds := [.int s, .int 0, .int e]) G.calm (ej_is (ej_sliceT (ej_dat (d := (Va.num s 0 e).d) 1) (oj_some ej_int) oj_none) rfl) (pgs_cons (pgN 4 G.nd) (pgs_cons (pgN 5 G.nd) (pgs_cons (pgN 6 G.nd) pgs_nil))) rfl ?_
    refine sj_when (x := true) (tj_is (tj_eqI G.hu (ej_dat 5) ej_int) rfl) (fun _ => ?_) (fun h => Bool.noConfusion h)
    exact sj_ret (ej_tupD (ad_cons (ej_tupD (ad_cons (ej_dat 4) (ad_cons ej_int (ad_cons ej_int ad_nil))) (Nat.le_of_ble_eq_true rfl)) (ad_cons ej_bl ad_nil)) (Nat.le_of_ble_eq_true rfl)) ⟨rfl, rfl⟩
  | mk b p low high s c e k many way B F h hc hw m1 m2 h1 h2 =>
    have hk := ndd_k F h hc h1 h2
    obtain ⟨s01, c0, c1, l1, l2⟩ := h
    have b2 := F.b2
    refine sj_unpack [4, 5, 6] (ds := [.int s, .int c, .int e]) G.calm (ej_is (ej_sliceT (ej_dat (d := (Va.num s c e).d) 1) (oj_some ej_int) oj_none) rfl) (pgs_cons (pgN 4 G.nd) (pgs_cons (pgN 5 G.nd) (pgs_cons (pgN 6 G.nd) pgs_nil))) rfl ?_
    refine sj_when (x := false) (tj_is (tj_eqI G.hu (ej_dat 5) ej_int) (decide_eq_false (by omega))) (fun h => Bool.noConfusion h) (fun _ => ?_)
    obtain ⟨n, d, hn, hd, hq, en, ed, b1, b3, b4, b5⟩ := size_nd F ⟨s01, c0, c1, l1, l2⟩ hc
    have RS := R_lsize.mk b p low high c e B F c0 c1 l1 l2
    rw [en, ed] at RS
    refine sj_unpack [7, 8] (ds := [.int n, .int d]) G.calm (ej_call c_l_size (G.le (by decide)) (aj_cons (ej_dat 0) (aj_cons (ej_dat 5) (aj_cons (ej_dat 6) aj_nil))) (RS)) (pgs_cons (pgN 7 G.nd) (pgs_cons (pgN 8 G.nd) pgs_nil)) rfl ?_
    have q0 : 0 ≤ (c : Rat) * pw b e := Rat.mul_nonneg (by exact_mod_cast c0) (Rat.le_of_lt (pw_pos b2 e))
    refine sj_set 9 (d := .da (.int (k + 1 - many))) (B1 := B) G.nd (ej_sub (ej_call c_l_top (G.le (by decide)) (aj_cons (ej_dat 7) (aj_cons (ej_dat 8) aj_nil)) (R_top.mk n d ((c : Rat) * pw b e) k B hn hd hq h1 h2 b1 b3)) (ej_dat 2)) ?_
    have RT := R_ltold.mk way s n d (k + 1 - many) ((c : Rat) * pw b e) B hw s01 q0 (by omega) (by rw [Rat.intCast_natCast, Rat.intCast_natCast]; exact hq) b4 b5 (by omega) (by omega)
    unfold tdP
    generalize (c : Rat) * pw b e / pw 10 (k + 1 - many) = y at *
    refine sj_unpack [10, 11] (ds := [.int (toC way s y), toE y]) G.calm (ej_call c_l_told_at (G.le (by decide)) (aj_cons (ej_dat 3) (aj_cons (ej_dat 4) (aj_cons (ej_dat 7) (aj_cons (ej_dat 8) (aj_cons (ej_dat 9) aj_nil))))) (RT)) (pgs_cons (pgN 10 G.nd) (pgs_cons (pgN 11 G.nd) pgs_nil)) rfl ?_
    refine sj_ret (ej_tupD (ad_cons (ej_if (d := .da (if toC way s y = ((10 ^ many : Nat) : Int) then .tuple [.int s, .int ((10 ^ (many - 1) : Nat) : Int), .int (k + 2 - many)] else .tuple [.int s, .int (toC way s y), .int (k + 1 - many)])) (tj_eqI G.hu (ej_dat 10) (ej_call c_l_to (G.le (by decide)) (aj_cons ej_int (aj_cons (ej_dat 2) aj_nil)) (R_pow.mk 10 many B (by decide) (by omega)))) (fun z => ?_) (fun z => ?_)) (ad_cons (ej_dat (d := toE y) 11) ad_nil)) (Nat.le_of_ble_eq_true rfl)) ⟨rfl, rfl⟩
    · rw [if_pos (of_decide_eq_true z)]
      exact (ej_tupD (ad_cons (ej_dat 4) (ad_cons (ej_call c_l_to (G.le (by decide)) (aj_cons ej_int (aj_cons (ej_is (y := .int ((many - 1 : Nat) : Int)) (ej_sub (ej_dat 2) ej_int) (congrArg PyData.int (by omega))) aj_nil)) (R_pow.mk 10 (many - 1) B (by decide) (by omega))) (ad_cons (ej_is (ej_add (ej_dat 9) ej_int) (congrArg PyData.int (by omega))) ad_nil))) (Nat.le_of_ble_eq_true rfl))
    · rw [if_neg (of_decide_eq_false z)]
      exact (ej_tupD (ad_cons (ej_dat 4) (ad_cons (ej_dat 10) (ad_cons (ej_dat 9) ad_nil))) (Nat.le_of_ble_eq_true rfl))

abbrev s_law : Stmt := topS 41
theorem sc_law : FnScope ["_law_script", "_law_bag_here", "_law_turn", "_law_form", "_law_way_here", "_law_zero", "_law_number_here", "_law_many", "_law_due", "_law_told", "_law_s", "_law_n", "_law_d", "_law_near", "_law_places", "_law_c_here", "_law_is_exact"] ["_law_script"] (defScope s_law) := ⟨rfl, rfl, rfl, by decide +kernel, rfl, by decide +kernel, by decide +kernel⟩

theorem ok_law {f : Addr} {fd : FuncData} (nd : base.NoDigits) /-H-/ (m_range : mg "range" = none) (m_len : mg "len" = none) (m_str : mg "str" = none) (m_max : mg "max" = none) (m_min : mg "min" = none) (c_l_take : Cal P w K mg base "_law_take" 4 R_take) (c_l_some : Cal P w K mg base "_law_some" 5 R_some) (c_l_told_digits : Cal P w K mg base "_law_told_digits" 7 R_tdig) (c_told_digits : Cal P w K mg base "told_digits" 8 R_tdig) (c_l_alike : Cal P w K mg base "_law_alike" 4 R_alikeN) (c_l_size : Cal P w K mg base "_law_size" 6 R_lsize) (c_l_top : Cal P w K mg base "_law_top" 6 R_top) (c_l_told_at : Cal P w K mg base "_law_told_at" 6 R_ltold) (c_told_places : Cal P w K mg base "told_places" 8 R_tplace) (c_l_bag : Cal P w K mg base "_law_bag" 4 R_bag) (c_l_format : CalX P w K mg base "_law_format" 6 Pre_cpl Post_tfm) (c_l_way : CalX P w K mg base "_law_way" 6 Pre_cpl Post_tw) (c_l_number : CalX P w K mg base "_law_number" 7 Pre_tn Post_tn) /-E-/
    (F : Fun K "law" "law" s_law f fd) : FnG P w K mg base 11 f fd ["_law_script"] (spLaw K) := by
  refine fnG_of F sc_law (by rintro vs H Q E ⟨a, ns, rfl, _⟩; rfl) fun cd0 A out s H vs Q E G hsp => ?_
  obtain ⟨a, ns, rfl, hS, hlen, q⟩ := hsp
  have Ev : EnvD K none H (L2.start ["_law_script", "_law_bag_here", "_law_turn", "_law_form", "_law_way_here", "_law_zero", "_law_number_here", "_law_many", "_law_due", "_law_told", "_law_s", "_law_n", "_law_d", "_law_near", "_law_places", "_law_c_here", "_law_is_exact"] [.ref a]) ([.scr ns] ++ List.replicate (17 - 1) .no) := start_env (Γ := [.scr ns]) ⟨⟨a, rfl, hS⟩, trivial⟩ (Nat.le_of_ble_eq_true rfl)
  have O : On K none ⟨0, 0, 0, []⟩ H H := ⟨Same.refl _, fun _ _ z => nomatch z⟩
  refine sj_law 1 G.nd (y := 1234567891) (ns := (ns.take 63).map absI) (ej_call c_l_bag (G.le (by decide)) (aj_cons (ej_var 0 (d := .scr ns) rfl (fun z => nomatch z)) aj_nil) (R_bag.mk ns _ hlen)) ?_ (Ev := Ev) (O := O) (q := q)
  generalize hB0 : (⟨0, 1234567891, 0, (ns.take 63).map absI⟩ : Bag) = B0
  have okB : Bok B0 := by rw [← hB0]; show ((ns.take 63).map absI).length ≤ 63; rw [List.length_map, List.length_take]; omega
  clear hB0
  refine sj_forR 2 (n := 8) (B1 := B0) G.nd G.calm m_range (fun _ Γ' B' => Bok B' ∧ ∃ g2 g3 g4 g5 g6 g7 g8 g9 g10 g11 g12 g13 g14 g15 g16, Γ' = [.no, .bag, g2, g3, g4, g5, g6, g7, g8, g9, g10, g11, g12, g13, g14, g15, g16]) ej_int (by decide) ⟨okB, _, _, _, _, _, _, _, _, _, _, _, _, _, _, _, rfl⟩ (fun tn Γ' B' htn hP => ?_) (fun Γ' B' hP => ?_)
  rotate_left
  · obtain ⟨_, g2, g3, g4, g5, g6, g7, g8, g9, g10, g11, g12, g13, g14, g15, g16, rfl⟩ := hP
    exact sj_ret ej_bl rfl
  obtain ⟨ok1, g2, g3, g4, g5, g6, g7, g8, g9, g10, g11, g12, g13, g14, g15, g16, rfl⟩ := hP
  refine sj_parX 3 4 G.nd G.calm (ax_cons (ex_call c_l_format (G.le (by decide)) (ax_bag 1 (ax_nil ⟨⟨rfl, ok1⟩, fun r1 B1 hp1 => ax_one (ex_call c_l_way (G.le (by decide)) (ax_bag 1 (ax_nil ⟨⟨rfl, hp1.1⟩, fun r2 B2 hp2 => ?_⟩)))⟩)))) (by decide) (by rfl)
  obtain ⟨_, b, p, low, high, rfl, F⟩ := hp1
  obtain ⟨ok2, way, hw, rfl⟩ := hp2
  refine ⟨_, _, rfl, ?_⟩
  obtain ⟨z, B3, rz, z0, z1, ok3⟩ := tk_ex ok2 2 (by decide) (by decide)
  refine sj_set 5 (d := .da (Va.num z 0 low).d) (B1 := B3) G.nd (ej_tupD (ad_cons ej_str (ad_cons (ej_call c_l_take (G.le (by decide)) (aj_cons (ej_bag 1) (aj_cons ej_int aj_nil)) (rz)) (ad_cons ej_int (ad_cons (ej_at (y := .int low) (ej_dat (d := fmP b p low high) 3)) ad_nil)))) (Nat.le_of_ble_eq_true rfl)) ?_
  have p0 : (0 : Int) < ((b ^ p : Nat) : Int) := Int.natCast_pos.mpr (Nat.pow_pos (by have := F.b2; omega))
  have zn : NumD b p low high z 0 low := ⟨by omega, Int.le_refl _, p0, Int.le_refl _, F.lh⟩
  refine sj_setX 6 G.nd (ex_mono (Φ := fun y B4 => Bok B4 ∧ ∃ s c e : Int, y = (Va.num s c e).d ∧ NumD b p low high s c e) (ex_callD c_l_some (G.le (by decide)) (ax_bag 1 (ax_one (ex_catL (ex_repLn (k := 5) (ex_lst (ax_one (ex_call c_l_number (G.le (by decide)) (ax_bag 1 (ax_aj (aj_cons (ej_dat (d := fmP b p low high) 3) aj_nil) ⟨⟨b, p, low, high, rfl, F, ok3⟩, fun r B4 hr => ?_⟩))))) (by decide)))))) ?_)
  · obtain ⟨ok4, hr⟩ := hr
    obtain ⟨s, c, e, rfl, hn, hc⟩ := hr b p low high rfl
    refine ⟨_, rfl, Nat.le_of_ble_eq_true rfl, ex_ej ej_int ⟨[(Va.num s c e).d], rfl, rfl, Nat.le_of_ble_eq_true rfl, ex_ej (y := .list [(Va.num z 0 low).d]) (ej_lstD (ad_cons (ej_dat (d := (Va.num z 0 low).d) 5) ad_nil) (Nat.le_of_ble_eq_true rfl)) ⟨(List.replicate 5 [(Va.num s c e).d]).flatten, [(Va.num z 0 low).d], rfl, rfl, Nat.le_of_ble_eq_true rfl, ?_⟩⟩⟩
    obtain ⟨x, hx, B5, rs, ok5⟩ := sm_ex ([(s, c, e), (s, c, e), (s, c, e), (s, c, e), (s, c, e), (z, 0, low)] : List (Int × Int × Int)) (fun t => (Va.num t.1 t.2.1 t.2.2).d) (Nat.le_of_ble_eq_true rfl) ok4 (Nat.zero_lt_succ _)
    refine ⟨_, B5, rs, ok5, x.1, x.2.1, x.2.2, rfl, ?_⟩
    simp only [List.mem_cons, List.not_mem_nil, or_false] at hx
    rcases hx with rfl | rfl | rfl | rfl | rfl | rfl
    · exact hn
    · exact hn
    · exact hn
    · exact hn
    · exact hn
    · exact zn
  rintro y B4 ⟨ok4, s, c, e, rfl, hn⟩
  have s01 := hn.1
  have c0 := hn.2.1
  have el := hn.2.2.2
  have flo := F.lo; have fhi := F.hi
  obtain ⟨v1, B5, rv, a0, a1, ok5⟩ := tk_ex ok4 20 (by decide) (by decide)
  obtain ⟨M1, hM1⟩ : ∃ M1 : Nat, 1 + v1 = (M1 : Int) := ⟨(1 + v1).toNat, by omega⟩
  obtain ⟨many, hmany, B6, rm, ok6⟩ := sm_ex ([1, 2, 3, 9, 17, 40, M1, 400] : List Nat) natI (Nat.le_of_ble_eq_true rfl) ok5 (Nat.zero_lt_succ _)
  have mb : 1 ≤ many ∧ many ≤ 400 := by
    simp only [List.mem_cons, List.not_mem_nil, or_false] at hmany
    omega
  refine sj_set 7 (d := .da (.int many)) (B1 := B6) G.nd (ej_call c_l_some (G.le (by decide)) (aj_cons (ej_bag 1) (aj_cons (ej_is (y := .list (([1, 2, 3, 9, 17, 40, M1, 400] : List Nat).map natI)) (ej_lstD (ad_cons ej_int (ad_cons ej_int (ad_cons ej_int (ad_cons ej_int (ad_cons ej_int (ad_cons ej_int (ad_cons (ej_is (ej_add ej_int (ej_call c_l_take (G.le (by decide)) (aj_cons (ej_bag 1) (aj_cons ej_int aj_nil)) (rv))) (congrArg PyData.int hM1)) (ad_cons ej_int ad_nil)))))))) (Nat.le_of_ble_eq_true rfl)) rfl) aj_nil)) (rm)) ?_
  clear hmany rm rv hM1
  obtain ⟨rd, C, e', b', td, hrd, okd, hlen2, cz⟩ : ∃ (rd : PyData) (C : Nat) (e' : Int) (b' : Bool), (∀ B, R_tdig [.da (fmP b p low high), .da (Va.num s c e).d, .da (.int many), .da (.str way)] B rd B) ∧ rd = .tuple [.tuple [.int s, .int (C : Int), .int e'], .bool b'] ∧ OkB rd ∧ (0 < c → dl C = many) ∧ C < 10 ^ 400 := by
    by_cases hc : 0 < c
    · have q0 : 0 < (c : Rat) * pw b e := Rat.mul_pos (by exact_mod_cast hc) (pw_pos F.b2 e)
      obtain ⟨k, k1, k2⟩ := log_ex (b := 10) (by decide) q0
      obtain ⟨C, e', b', hrd, l1, l2, l3⟩ := td_form (way := way) (s := s) k1 k2 mb.1
      have hk := ndd_k F hn hc k1 k2
      have cb : C < 10 ^ 400 := Nat.lt_of_lt_of_le l2 (Nat.pow_le_pow_right (by decide) mb.2)
      refine ⟨_, C, e', b', fun B => R_tdig.mk b p low high s c e k many way B F hn hc hw mb.1 mb.2 k1 k2, hrd, ?_, fun _ => ?_, cb⟩
      · rw [hrd]
        exact okb_told s01 (told_bd cb) (by unfold Bd; omega)
      · have : many = (many - 1) + 1 := by omega
        rw [this]; rw [this] at l2
        exact dl_is l1 l2
    · obtain rfl : c = 0 := by omega
      refine ⟨_, 0, 0, true, fun B => R_tdig.zero b p low high s e many way B F hn hw mb.1 mb.2, rfl, okb_told s01 (by unfold Bd; decide) (by unfold Bd; decide), fun z => absurd z (by decide), by decide⟩
  subst hrd
  refine sj_set 8 (d := .da (.tuple [.tuple [.int s, .int (C : Int), .int e'], .bool b'])) (B1 := B6) G.nd (ej_call c_l_told_digits (G.le (by decide)) (aj_cons (ej_dat (d := fmP b p low high) 3) (aj_cons (ej_dat (d := (Va.num s c e).d) 6) (aj_cons (ej_dat 7) (aj_cons (ej_dat 4) aj_nil)))) (td B6)) ?_
  refine sj_set 9 (d := .da (.tuple [.tuple [.int s, .int (C : Int), .int e'], .bool b'])) (B1 := B6) G.nd (ej_call c_told_digits (G.le (by decide)) (aj_cons (ej_dat (d := fmP b p low high) 3) (aj_cons (ej_dat (d := (Va.num s c e).d) 6) (aj_cons (ej_dat 7) (aj_cons (ej_dat 4) aj_nil)))) (td B6)) ?_
  have c43 : C < 10 ^ 4300 := Nat.lt_of_lt_of_le cz (Nat.pow_le_pow_right (by decide) (by decide))
  have tl : (toString (C : Int) : Str).length ≤ sizeLine := by
    rw [dl_str]; exact Nat.le_trans ((Nat.length_repr_le_iff (by decide)).mpr c43) (by decide)
  refine sj_when (x := false) (B1 := B6) (tj_w (wj_or (x := false) (y := false) (tj_not (x := true) (tj_val (ej_call c_l_alike (G.le (by decide)) (aj_cons (ej_dat (d := .tuple [.tuple [.int s, .int (C : Int), .int e'], .bool b']) 9) (aj_cons (ej_dat (d := .tuple [.tuple [.int s, .int (C : Int), .int e'], .bool b']) 8) aj_nil)) (R_alikeN.mk _ B6 okd (.inl rfl))))) fun _ => wj_or1 ?_)) (fun h => Bool.noConfusion h) (fun _ => ?_)
  · by_cases hc : 0 < c
    · exact tj_w (wj_and (x := true) (y := false) (tj_is (tj_gt (ej_at (y := .int c) (ej_dat (d := (Va.num s c e).d) 6)) ej_int) (decide_eq_true hc)) fun _ => wj_and1 (tj_is (tj_neI G.hu (ej_lenS (y := toString (C : Int)) tl m_len (ej_strD G nd (by rw [Int.natAbs_natCast]; exact c43) m_str (ej_at (y := .int (C : Int)) (ej_at (y := .tuple [.int s, .int (C : Int), .int e']) (ej_dat (d := .tuple [.tuple [.int s, .int (C : Int), .int e'], .bool b']) 9))))) (ej_dat 7)) (by rw [dl_str, hlen2 hc, decide_eq_true rfl]; rfl)))
    · exact tj_w (wj_and (x := false) (y := false) (tj_is (tj_gt (ej_at (y := .int c) (ej_dat (d := (Va.num s c e).d) 6)) ej_int) (decide_eq_false hc)) fun h => Bool.noConfusion h)
  clear td okd hlen2 cz tl c43
  refine sj_par3 10 11 12 (d1 := .da (.int s)) (d2 := .da (.int 0)) (d3 := .da (.int 1)) (B1 := B6) G.nd G.calm (aj_cons (ej_at (y := .int s) (ej_dat (d := (Va.num s c e).d) 6)) (aj_cons ej_int (aj_cons ej_int aj_nil))) ?_ (by decide) (by decide) (by decide) (by rfl)
  have q0 : 0 ≤ (c : Rat) * pw b e := Rat.mul_nonneg (by exact_mod_cast c0) (Rat.le_of_lt (pw_pos F.b2 e))
  refine sj_ifM (fun Γ' B' => B' = B6 ∧ ∃ n d : Int, Γ' = [.no, .bag, .da (.int (tn : Nat)), .da (fmP b p low high), .da (.str way), .da (Va.num z 0 low).d, .da (Va.num s c e).d, .da (.int many), .da (.tuple [.tuple [.int s, .int (C : Int), .int e'], .bool b']), .da (.tuple [.tuple [.int s, .int (C : Int), .int e'], .bool b']), .da (.int s), .da (.int n), .da (.int d), g13, g14, g15, g16] ∧ 0 < d ∧ (n : Rat) = (c : Rat) * pw b e * (d : Rat) ∧ Bd 2000 n ∧ Bd 4700 d ∧ (0 < n → ∃ n' d' : Nat, n = n' ∧ d = d' ∧ n' < 10 ^ 4300 ∧ d' < 10 ^ 4300))
    (tj_gt (ej_at (y := .int c) (ej_dat (d := (Va.num s c e).d) 6)) ej_int) (fun h => ?_) (fun h => ?_) ?_
  · have hc : 0 < c := of_decide_eq_true h
    obtain ⟨n, d, hn', hd, hq, en, ed, b1, b3, b4, b5⟩ := size_nd F hn hc
    have RS := R_lsize.mk b p low high c e B6 F c0 hn.2.2.1 el.1 el.2
    rw [en, ed] at RS
    refine sj_unpack [11, 12] (ds := [.int n, .int d]) G.calm (ej_call c_l_size (G.le (by decide)) (aj_cons (ej_dat (d := fmP b p low high) 3) (aj_cons (ej_at (y := .int c) (ej_dat (d := (Va.num s c e).d) 6)) (aj_cons (ej_at (y := .int e) (ej_dat (d := (Va.num s c e).d) 6)) aj_nil))) (RS)) (pgs_cons (pgN 11 G.nd) (pgs_cons (pgN 12 G.nd) pgs_nil)) rfl (sj_nil ?_)
    exact ⟨rfl, n, d, rfl, by omega, by rw [Rat.intCast_natCast, Rat.intCast_natCast]; exact hq, b4, b5, fun _ => ⟨n, d, rfl, rfl, b1, b3⟩⟩
  · have hc : c = 0 := by have := of_decide_eq_false h; omega
    refine sj_nil ⟨rfl, 0, 1, rfl, by decide, ?_, by unfold Bd; decide, by unfold Bd; decide, fun z => absurd z (by decide)⟩
    rw [hc, Rat.intCast_zero, Rat.zero_mul, Rat.zero_mul]
  rintro Γ' B' ⟨rfl, n, d, rfl, hd, hq, bn, bd, hnn⟩
  obtain ⟨near, B7, ok7, hnear⟩ : ∃ (near : Int) (B7 : Bag), Bok B7 ∧ ((0 < n ∧ ∃ k x : Int, R_top [.da (.int n), .da (.int d)] B' (.int (k + 1)) B' ∧ R_some [.bag, .da (.list (([0, 1, 2, 9, -1, -2] : List Int).map PyData.int))] B' (.int x) B7 ∧ near = 0 - (k + 1) + x) ∨ (¬ 0 < n ∧ near = 3 ∧ B7 = B')) := by
    by_cases h0 : 0 < n
    · obtain ⟨n', d', rfl, rfl, b1, b3⟩ := hnn h0
      have qp : 0 < (c : Rat) * pw b e := by
        refine Std.lt_of_le_of_ne q0 (fun z => ?_)
        rw [← z, Rat.zero_mul] at hq
        have : ((n' : Int) : Rat) = ((0 : Int) : Rat) := by rw [hq]; rfl
        have := Rat.intCast_inj.mp this
        omega
      obtain ⟨k, k1, k2⟩ := log_ex (b := 10) (by decide) qp
      obtain ⟨x, hx, B7, rx, ok7⟩ := sm_ex ([0, 1, 2, 9, -1, -2] : List Int) PyData.int (Nat.le_of_ble_eq_true rfl) ok6 (Nat.zero_lt_succ _)
      refine ⟨_, B7, ok7, .inl ⟨h0, k, x, R_top.mk n' d' _ k B' (by omega) (by omega) ?_ k1 k2 b1 b3, rx, rfl⟩⟩
      rw [Rat.intCast_natCast, Rat.intCast_natCast] at hq; exact hq
    · exact ⟨3, B', ok6, .inr ⟨h0, rfl, rfl⟩⟩
  refine sj_set 13 (d := .da (.int near)) (B1 := B7) G.nd ?_ ?_
  · rcases hnear with ⟨h0, k, x, RT, RX, rfl⟩ | ⟨h0, rfl, rfl⟩
    · exact ej_ifT (tj_is (tj_gt (ej_dat 11) ej_int) (decide_eq_true h0)) (ej_add (ej_sub ej_int (ej_call c_l_top (G.le (by decide)) (aj_cons (ej_dat 11) (aj_cons (ej_dat 12) aj_nil)) (RT))) (ej_call c_l_some (G.le (by decide)) (aj_cons (ej_bag 1) (aj_cons (ej_is (y := .list (([0, 1, 2, 9, -1, -2] : List Int).map PyData.int)) (ej_lstD (ad_cons ej_int (ad_cons ej_int (ad_cons ej_int (ad_cons ej_int (ad_cons (ej_neg ej_int) (ad_cons (ej_neg ej_int) ad_nil)))))) (Nat.le_of_ble_eq_true rfl)) rfl) aj_nil)) (RX)))
    · exact ej_ifF (tj_is (tj_gt (ej_dat 11) ej_int) (decide_eq_false h0)) ej_int
  clear hnear hnn
  obtain ⟨pl, hpl, B8, rp, ok8⟩ := sm_ex ([0, 1, -1, 5, 2000, -2000] : List Int) PyData.int (Nat.le_of_ble_eq_true rfl) ok7 (Nat.zero_lt_succ _)
  have hpl' : -2000 ≤ pl ∧ pl ≤ 2000 := by
    simp only [List.mem_cons, List.not_mem_nil, or_false] at hpl
    omega
  obtain ⟨pn, hpn⟩ : ∃ pn : Int, max (-2000) (min 2000 near) = pn := ⟨_, rfl⟩
  have hpn' : -2000 ≤ pn ∧ pn ≤ 2000 := by omega
  refine sj_forT (ds := [.int pl, .int pn]) 14 (B1 := B8) G.nd G.calm (fun _ Γ' B' => B' = B8 ∧ ∃ g14 g15 g16, Γ' = [.no, .bag, .da (.int (tn : Nat)), .da (fmP b p low high), .da (.str way), .da (Va.num z 0 low).d, .da (Va.num s c e).d, .da (.int many), .da (.tuple [.tuple [.int s, .int (C : Int), .int e'], .bool b']), .da (.tuple [.tuple [.int s, .int (C : Int), .int e'], .bool b']), .da (.int s), .da (.int n), .da (.int d), .da (.int near), g14, g15, g16]) (ej_tupD (ad_cons (ej_call c_l_some (G.le (by decide)) (aj_cons (ej_bag 1) (aj_cons (ej_is (y := .list (([0, 1, -1, 5, 2000, -2000] : List Int).map PyData.int)) (ej_lstD (ad_cons ej_int (ad_cons ej_int (ad_cons (ej_neg ej_int) (ad_cons ej_int (ad_cons ej_int (ad_cons (ej_neg ej_int) ad_nil)))))) (Nat.le_of_ble_eq_true rfl)) rfl) aj_nil)) (rp)) (ad_cons (ej_is (ej_max G.calm m_max (ej_neg ej_int) (ej_min G.calm m_min ej_int (ej_dat 13))) (congrArg PyData.int hpn)) ad_nil)) (Nat.le_of_ble_eq_true rfl)) ⟨rfl, _, _, _, rfl⟩ (fun i y Γ' B' hy hP => ?_) (fun Γ' B' hP => ?_)
  · obtain ⟨rfl, g14, g15, g16, rfl⟩ := hP
    obtain ⟨P, rfl, P1, P2⟩ : ∃ P : Int, y = .int P ∧ -2000 ≤ P ∧ P ≤ 2000 := by
      rcases List.mem_cons.mp (List.mem_of_getElem? hy) with h | h
      · exact ⟨pl, h, hpl'.1, hpl'.2⟩
      · exact ⟨pn, List.mem_singleton.mp h, hpn'.1, hpn'.2⟩
    have RT := R_ltold.mk way s n d (-P) ((c : Rat) * pw b e) B' hw s01 q0 hd hq bn bd (by omega) (by omega)
    have RP := R_tplace.mk b p low high s c e P way B' F hn hw P1 P2
    have tb := place_bd (way := way) (s := s) F hn (e' := -P) (by omega) (by omega)
    generalize (c : Rat) * pw b e / pw 10 (-P) = yy at *
    refine sj_unpack [15, 16] (ds := [.int (toC way s yy), toE yy]) G.calm (ej_call c_l_told_at (G.le (by decide)) (aj_cons (ej_dat 4) (aj_cons (ej_dat 10) (aj_cons (ej_dat 11) (aj_cons (ej_dat 12) (aj_cons (ej_is (y := .int (-P)) (ej_sub ej_int (ej_dat (d := .int P) 14)) (congrArg PyData.int (by omega))) aj_nil))))) (RT)) (pgs_cons (pgN 15 G.nd) (pgs_cons (pgN 16 G.nd) pgs_nil)) rfl ?_
    refine sj_when (x := false) (tj_not (x := true) (tj_val (ej_call c_l_alike (G.le (by decide)) (aj_cons (ej_call c_told_places (G.le (by decide)) (aj_cons (ej_dat (d := fmP b p low high) 3) (aj_cons (ej_dat (d := (Va.num s c e).d) 6) (aj_cons (ej_dat (d := .int P) 14) (aj_cons (ej_dat 4) aj_nil)))) (RP)) (aj_cons (ej_tupD (ad_cons (ej_tupD (ad_cons (ej_dat 10) (ad_cons (ej_dat 15) (ad_cons (ej_is (y := .int (-P)) (ej_sub ej_int (ej_dat (d := .int P) 14)) (congrArg PyData.int (by omega))) ad_nil))) (Nat.le_of_ble_eq_true rfl)) (ad_cons (ej_dat (d := toE yy) 16) ad_nil)) (Nat.le_of_ble_eq_true rfl)) aj_nil)) (R_alikeN.mk (.tuple [.tuple [.int s, .int (toC way s yy), .int (-P)], toE yy]) B' (okb_told s01 tb (by unfold Bd; omega)) (.inl rfl))))) (fun h => Bool.noConfusion h) (fun _ => sj_nil ⟨rfl, _, _, _, rfl⟩)
  · obtain ⟨rfl, g14, g15, g16, rfl⟩ := hP
    exact sj_nil ⟨ok8, _, _, _, _, _, _, _, _, _, _, _, _, _, _, _, rfl⟩

end K42
namespace Gd
open PySem PySem.Spec PyProof.Rows L2
theorem bltB_ok {K : PySem.W.Frag} {h : Heap} {mg : Str → Option Value} {x : Str} {b : String} (X : K.In h) (G : h.Ns mainGlobals mg) (c : bltB K x b = true) : mg x = some (.builtin b) :=
  PySem.W.mg_of X G (He.eqO_ok c)
theorem ckM_blt {gl : List (Str × PyData)} {bl : List (Str × String)} {K : PySem.W.Frag} {h : Heap} {mg : Str → Option Value} {x : Str} {b : String} (X : K.In h) (G : h.Ns mainGlobals mg) (c : ckM gl bl K = true) (i : Nat) (e : bl[i]? = some (x, b)) : mg x = some (.builtin b) := by
  have c' : (gl.all (fun p => globB K p.1 p.2) && bl.all (fun p => bltB K p.1 p.2)) = true := c
  rw [Bool.and_eq_true] at c'
  exact bltB_ok X G (List.all_eq_true.1 c'.2 _ (List.mem_of_getElem? e))
theorem obM_eq {fa : List He.Fa} {fn : List He.DefD} {ck : PySem.W.Frag → Bool} (s : PySem.W.SharedT) : obM fa fn ck s = (hkM fa fn ck).obs s.abs := by
  have e : HandSHeadRun.getT s = s.abs.heap.get? := funext (HandSHeadRun.getT_eq s)
  unfold obM hkM
  rw [e]
theorem defD_at {K : PySem.W.Frag} {h : Heap} {mg : Str → Option Value} {fa : List He.Fa} {fn : List He.DefD} (X : K.In h) (G : h.Ns mainGlobals mg) (c : He.SaysD fa fn K) {y x : Str} {st : Stmt} (i : Nat) (e : fn[i]? = some (dfD y x st)) (ef : fa[i]? = some (.glo y)) :
    ∃ (f : Addr) (oc : Value) (od an : Option Addr) (osl : Array (Option Value)) (kV doc pm cdv ct : Value), PySem.W.nsIn K mainGlobals y = some (some (.ref f)) ∧
      K.lookup f = some ⟨oc, od, .func (PySem.W.fnOf x x (defArgs st) (defBody st) (defScope st) .none kV doc pm an cdv ct), osl⟩ ∧ PySem.W.codeIn K cdv x = true ∧ PySem.W.keepIn K (.ref f) = true := by
  have g := He.eqO_ok (c.fact i (f := .glo y) ef)
  obtain ⟨fd, ⟨oc, od, dV, kV, doc, pm, an, cdv, ct, osl, e1, e2, e3, e4, e5⟩, kp⟩ := c.def_ i (d := dfD y x st) e
  have d0 : dV = .none := by
    rcases e4 with ⟨_, z⟩ | ⟨z, _⟩
    · exact z
    · exact absurd rfl z
  subst d0 e1
  exact ⟨_, oc, od, an, osl, kV, doc, pm, cdv, ct, g, e2, e3, kp⟩
theorem at_mkH {K : PySem.W.Frag} {h : Heap} {mg : Str → Option Value} {fa : List He.Fa} {fn : List He.DefD} {x : Str} {st : Stmt} (ps : List Str) (X : K.In h) (G : h.Ns mainGlobals mg) (c : He.SaysD fa fn K) (i : Nat) (e : fn[i]? = some (dfD x x st)) (ef : fa[i]? = some (.glo x))
    (b : ∀ (kV doc pm : Value) (an : Option Addr) (cdv ct : Value) (us : List Value), us.length = ps.length → bindArgs (PySem.W.fnOf x x (defArgs st) (defBody st) (defScope st) .none kV doc pm an cdv ct) ⟨us, []⟩ = pure (ps.zip us)) :
    At K mg x st ps :=
  let ⟨_, _, _, _, _, _, _, _, _, _, a, l, d, k⟩ := defD_at X G c i e ef
  at_mk ps X G a l d k b
theorem law_mkHD {P : Program} {w : World} {K : PySem.W.Frag} {h : Heap} {mg : Str → Option Value} {fas : List He.Fa} {fn : List He.DefD} {st : Stmt} {fa : Addr} {n : Nat}
    (X : K.In h) (G : h.Ns mainGlobals mg) (hfa : mg "law" = some (.ref fa)) (c : He.SaysD fas fn K) (i : Nat) (e : fn[i]? = some (dfD "law" "law" st)) (ef : fas[i]? = some (.glo "law"))
    (b : ∀ (kV doc pm : Value) (an : Option Addr) (cdv ct : Value) (s : Shared) (v : Value), BindsTo s (PySem.W.fnOf "law" "law" (defArgs st) (defBody st) (defScope st) .none kV doc pm an cdv ct) ⟨[v], []⟩ [("_law_script", v)])
    (H : ∀ (base : Heap) (f : Addr) (fd : FuncData), base.NoDigits → Fun K "law" "law" st f fd → FnG P w K mg base n f fd ["_law_script"] (spLaw K)) :
    ∃ fd : FuncData, (∀ (s : Shared) (v : Value), BindsTo s fd ⟨[v], []⟩ [("_law_script", v)]) ∧ ∀ base : Heap, K.In base → base.Ns mainGlobals mg → base.NoDigits → FnG P w K mg base n fa fd ["_law_script"] (spLaw K) :=
  let ⟨_, _, _, _, _, _, _, _, _, _, a, l, d, k⟩ := defD_at X G c i e ef
  law_mkD X G hfa a l d k (fun s v => b _ _ _ _ _ _ s v) H
theorem walk_ofDH {l : PySem.W.OpenLaw} {k : Nat} {q : Program} {loose : List Str} {XP : (Str → Option Value) → Heap → Prop} {d : DefRec} {fas : List He.Fa} {fn : List He.DefD} {ck : PySem.W.Frag → Bool} {x : Str}
    (hn : l.most = some 63) (hdf : d.params.defaults = []) (hr : Room k callerA)
    (F : ∀ (w : World) (K : PySem.W.Frag) (mg : Str → Option Value) (fa : Addr) (h : Heap), K.In h → h.Ns mainGlobals mg → mg d.name = some (.ref fa) → He.SaysD fas fn K → ck K = true →
      ∃ fd : FuncData, (∀ (s : Shared) (u : Value), BindsTo s fd ⟨[u], []⟩ [(x, u)]) ∧ ∀ base : Heap, K.In base → base.Ns mainGlobals mg → base.NoDigits → FnG l.prog w K mg base k fa fd [x] (spLaw K)) :
    PySem.W.WalkO q loose XP (hkM fas fn ck).says l.row.toRowW d [] fun f vs => PySem.call f vs := by
  refine Att.attach_call hn hdf fun w sw sx mg mb fa o pm cd doc a vs ns G Y ho hd hcd hmg hobj hints hlen hg => ?_
  obtain ⟨K, KI, c1, c2⟩ := Y
  have ⟨fd, hb, hF⟩ := F w K mg fa _ KI G.T.g hmg c1 c2
  exact law_callD KI G.T.g G.T.b G.T.builtins G.T.nolimit G.T.nodigits hg hobj hints (Nat.le_trans hlen (by decide)) hr hF hb fun H hS => ⟨a, ns, rfl, hS, hlen, fun _ => rfl⟩
end Gd
namespace Gd
open PySem PySem.Spec PyProof.Rows
theorem endG_ok {M : Nat} {p : Program} {w : World} {s0 : Shared} {s : PySem.W.SharedT} (h : endG (PySem.W.stepT (denote treeTable) p w) M p s0 = some s) :
    PySem.W.topRun treeTable p w s0.heap.objs.size (s0.heap.nsMap mainGlobals (Str.ofString "__annotations__")) M s0 (PySem.W.topStub p) = some s.abs := by
  unfold endG at h
  split at h
  · rename_i t n e
    rw [HandSHeadRun.frNat_eq] at h
    have q := HandSHeadRun.goF_ok h
    have eh := HandSHeadRun.putAll_heap e
    have en : s0.heap.objs.size = n := by rw [← eh]; exact PySem.W.absHeap_size _ _ _
    rw [en]
    have eb : (PySem.W.SharedT.mk t n s0.heap.life s0.gens s0.drawn s0.toks s0.os).abs = s0 := by
      unfold PySem.W.SharedT.abs
      rw [eh]
    rw [eb] at q
    exact q
  · cases h
theorem endG_eq (M : Nat) (p : Program) (w : World) (s0 : Shared) : endG (PySem.W.stepT (denote treeTable) p w) M p s0 = endG (HandSHeadRun.stepQ (HandSHeadRun.denQ HandSHeadRun.tabQ) p w) M p s0 := by
  rw [HandSHeadRun.stepQ_eq, HandSHeadRun.denQ_eq, HandSHeadRun.tabQ_eq]
theorem goI_ok {tb : String → Option Builtin} {p : Program} {w : World} : ∀ (m : Nat) (s s' : PySem.W.SharedT) (t : Thread), goI (PySem.W.stepT (denote tb) p w) m s t = some s' → importEnds tb p w m s.abs t = some s'.abs
  | 0, _, _, _, h => by cases h
  | m + 1, s, s', t, h => by
    unfold goI at h
    unfold importEnds
    split at h
    · rename_i e
      rw [e]
      cases h
      rfl
    · cases h
    · rename_i e
      rw [e]
      split at h
      · rename_i s2 t2 e2
        rw [HandSHeadRun.frS_eq] at h
        have q := PySem.W.stepT_spec e2
        show (match step (denote tb) p w s.abs t with | .go s' t' => importEnds tb p w m s' t' | .halt _ _ => none) = _
        rw [q]
        exact goI_ok m _ _ _ h
      · cases h
theorem openI_ok {N : Nat} {p : Program} {w : World} {s0 : Shared} (h : openI (PySem.W.stepT (denote treeTable) (PySem.W.opening p) w) N p = some s0) : PySem.W.fencedOpening treeTable p w N = some s0 := by
  obtain ⟨s, a, b⟩ := Option.bind_eq_some_iff.mp h
  have q := goI_ok _ _ _ _ a
  unfold PySem.W.fencedOpening
  have e : (PySem.W.SharedT.mk PySem.W.BT.nil 0 {} #[] {} 1 (start (PySem.W.opening p)).1.os).abs = (start (PySem.W.opening p)).1 := by
    unfold PySem.W.SharedT.abs PySem.start
    simp only [HandSHeadRun.abs_nil]
  rw [e] at q
  rw [q]
  exact b
theorem left_two {r : PySem.W.OpenRow} {q : Program} {H : PySem.W.Hook} {ob : PySem.W.SharedT → H.α} {N M : Nat} {loose : List Str} (ho : ∀ s, ob s = H.obs s.abs) (le : M ≤ N) (runA : ∀ w, RunA r q N M loose w) (runB : ∀ w, RunB r H ob N M w) :
    PySem.W.LeftO r.prog q loose (fun s => PySem.W.xlAt q [] s && PySem.W.recOk r.records s) (fun s => H.obs s) H.val N := fun w => by
  obtain ⟨⟨s0, s⟩, hr, hv⟩ := Option.map_eq_some_iff.mp (runA w)
  have l3 : ob s = H.val w := by
    have z := runB w
    unfold RunB at z
    rw [hr] at z
    injection z
  obtain ⟨l1, l2⟩ : ((s0.heap.isNs mainGlobals && s0.gens.size == 0) && HandSHeadRun.looksF r.prog s0.heap s.abs) = true ∧ HandSHeadRun.seenQ q loose (importedModules r.prog.main.body) (fun s => PySem.W.xlAt q [] s && PySem.W.recOk r.records s) s.abs = PySem.W.openGood q loose := by
    injection hv with h1 h2
    exact ⟨h1, h2⟩
  unfold runI at hr
  obtain ⟨s0', a, b⟩ := Option.bind_eq_some_iff.mp hr
  obtain ⟨s', hs, hz⟩ := Option.map_eq_some_iff.mp b
  cases hz
  rw [← endG_eq] at hs
  have a' : openI (PySem.W.stepT (denote treeTable) (PySem.W.opening r.prog) w) N r.prog = some s0 := by
    rw [HandSHeadRun.stepQ_eq, HandSHeadRun.denQ_eq, HandSHeadRun.tabQ_eq]
    exact a
  have a := openI_ok a'
  have t0 := endG_ok hs
  have t1 := PySem.W.topRun_mono (N - M) M _ _ _ t0
  rw [show M + (N - M) = N by omega] at t1
  rw [Bool.and_eq_true] at l1
  have l1' : (PySem.W.staticsOk (importedModules r.prog.main.body) s0.heap s.abs.heap && PySem.W.namesBound r.prog s.abs.heap && PySem.W.gensDone s.abs && PySem.W.laidKept s0.heap s.abs.heap) = true := l1.2
  have tt : PySem.W.topFrom treeTable r.prog w N s0 = some s.abs := by
    unfold PySem.W.topFrom
    rw [l1.1]
    show (PySem.W.topRun _ _ _ _ _ _ _ _).bind _ = _
    rw [t1]
    show (match _ with | true => _ | false => _) = _
    rw [l1']
  show Option.map _ (PySem.W.openEnds treeTable r.prog w N) = _
  unfold PySem.W.openEnds
  rw [a]
  show Option.map _ (PySem.W.topFrom treeTable r.prog w N s0) = _
  rw [tt]
  show some (PySem.W.openSeen q loose _ _ true s.abs, H.obs s.abs) = _
  rw [HandSHeadRun.seenQ_eq, l2, ← ho s, l3]
theorem head_two {r : PySem.W.OpenRow} {q : Program} {H : PySem.W.Hook} {ob : PySem.W.SharedT → H.α} {N M : Nat} {loose : List Str} {d : DefRec} {kwd : List (Str × Expr)} (ho : ∀ s, ob s = H.obs s.abs) (le : M ≤ N) (runA : ∀ w, RunA r q N M loose w) (runB : ∀ w, RunB r H ob N M w)
    (hdef : PySem.W.defOf q r.name = some (d, kwd)) (hp : r.prog.theDef r.name = some (d.params, d.body, d.scope)) (hk : PySem.W.kwWritten? d.params.kwonlyargs d.params.kw_defaults = some kwd)
    (hwr : (!r.writes || List.isEmpty r.records) = true) (k1 : r.wellSaid = true) (ok : (PySem.W.chainsOk q && PySem.W.opensWell r.prog && (PySem.W.frees r.toRowW && r.within.isEmpty)) = true) (hb : r.prog.bare) (hw : r.promised)
    (call : PySem.W.WalkO q loose (PySem.W.XL q []) H.says r.toRowW d kwd fun f vs => PySem.call f vs) : r.Holds :=
  PySem.W.holds_open (left_two ho le runA runB) H.of H.keeps (fun s z => PySem.W.xl_of s (Bool.and_eq_true_iff.mp z).left) PySem.W.XL.keeps hdef hp hk
    (fun s z => PySem.W.recFacts_of (Bool.and_eq_true_iff.mp z).right) hwr k1 ok hb hw call
end Gd
namespace Gd
open PySem PySem.Spec PyProof.Rows L2
end Gd
namespace K42
open PySem PySem.Spec PyProof.Rows L2 Gd Lw K42H
theorem all_mk {w : World} {K : PySem.W.Frag} {h : Heap} {mg : Str → Option Value} {fa : Addr} (X : K.In h) (G : h.Ns mainGlobals mg) (hfa : mg "law" = some (.ref fa)) (c : He.SaysD fas fn K) (kk : ck K = true) :
    ∃ fd : FuncData, (∀ (s : Shared) (v : Value), BindsTo s fd ⟨[v], []⟩ [("_law_script", v)]) ∧ ∀ base : Heap, K.In base → base.Ns mainGlobals mg → base.NoDigits → FnG PySem.Challenge.pw_nearestheld_k42_told_digits_and_places w K mg base 11 fa fd ["_law_script"] (spLaw K) := by
  have T_integer_power : At K mg "integer_power" s_integer_power ["base", "e"] := at_mkH ["base", "e"] X G c 0 rfl rfl (fun _ _ _ _ _ _ us hl => match us, hl with | [_, _], _ => rfl)
  have T_reduced : At K mg "reduced" s_reduced ["n", "d"] := at_mkH ["n", "d"] X G c 1 rfl rfl (fun _ _ _ _ _ _ us hl => match us, hl with | [_, _], _ => rfl)
  have T_times : At K mg "times" s_times ["one", "other"] := at_mkH ["one", "other"] X G c 2 rfl rfl (fun _ _ _ _ _ _ us hl => match us, hl with | [_, _], _ => rfl)
  have T_over : At K mg "over" s_over ["one", "other"] := at_mkH ["one", "other"] X G c 3 rfl rfl (fun _ _ _ _ _ _ us hl => match us, hl with | [_, _], _ => rfl)
  have T_size_of : At K mg "size_of" s_size_of ["one"] := at_mkH ["one"] X G c 4 rfl rfl (fun _ _ _ _ _ _ us hl => match us, hl with | [_], _ => rfl)
  have T_power_of : At K mg "power_of" s_power_of ["base", "e"] := at_mkH ["base", "e"] X G c 5 rfl rfl (fun _ _ _ _ _ _ us hl => match us, hl with | [_, _], _ => rfl)
  have T_nearest_integer : At K mg "nearest_integer" s_nearest_integer ["way", "one"] := at_mkH ["way", "one"] X G c 6 rfl rfl (fun _ _ _ _ _ _ us hl => match us, hl with | [_, _], _ => rfl)
  have T_sign_of_fraction : At K mg "sign_of_fraction" s_sign_of_fraction ["one"] := at_mkH ["one"] X G c 7 rfl rfl (fun _ _ _ _ _ _ us hl => match us, hl with | [_], _ => rfl)
  have T_part_of : At K mg "part_of" s_part_of ["left", "whole"] := at_mkH ["left", "whole"] X G c 8 rfl rfl (fun _ _ _ _ _ _ us hl => match us, hl with | [_, _], _ => rfl)
  have T_is_taken_outward : At K mg "is_taken_outward" s_is_taken_outward ["way", "s", "c", "part"] := at_mkH ["way", "s", "c", "part"] X G c 9 rfl rfl (fun _ _ _ _ _ _ us hl => match us, hl with | [_, _, _, _], _ => rfl)
  have T_power_below : At K mg "power_below" s_power_below ["base", "one"] := at_mkH ["base", "one"] X G c 10 rfl rfl (fun _ _ _ _ _ _ us hl => match us, hl with | [_, _], _ => rfl)
  have T_u_power_within : At K mg "_power_within" s_u_power_within ["base", "whole"] := at_mkH ["base", "whole"] X G c 11 rfl rfl (fun _ _ _ _ _ _ us hl => match us, hl with | [_, _], _ => rfl)
  have T_u_twos_in : At K mg "_twos_in" s_u_twos_in ["n"] := at_mkH ["n"] X G c 12 rfl rfl (fun _ _ _ _ _ _ us hl => match us, hl with | [_], _ => rfl)
  have T_worth : At K mg "worth" s_worth ["form", "number"] := at_mkH ["form", "number"] X G c 13 rfl rfl (fun _ _ _ _ _ _ us hl => match us, hl with | [_, _], _ => rfl)
  have T_is_finite : At K mg "is_finite" s_is_finite ["value"] := at_mkH ["value"] X G c 14 rfl rfl (fun _ _ _ _ _ _ us hl => match us, hl with | [_], _ => rfl)
  have T_is_zero : At K mg "is_zero" s_is_zero ["value"] := at_mkH ["value"] X G c 15 rfl rfl (fun _ _ _ _ _ _ us hl => match us, hl with | [_], _ => rfl)
  have T_told_digits : At K mg "told_digits" s_told_digits ["form", "number", "many", "way"] := at_mkH ["form", "number", "many", "way"] X G c 16 rfl rfl (fun _ _ _ _ _ _ us hl => match us, hl with | [_, _, _, _], _ => rfl)
  have T_told_places : At K mg "told_places" s_told_places ["form", "number", "places", "way"] := at_mkH ["form", "number", "places", "way"] X G c 17 rfl rfl (fun _ _ _ _ _ _ us hl => match us, hl with | [_, _, _, _], _ => rfl)
  have T_u_told_at : At K mg "_told_at" s_u_told_at ["form", "number", "e", "way"] := at_mkH ["form", "number", "e", "way"] X G c 18 rfl rfl (fun _ _ _ _ _ _ us hl => match us, hl with | [_, _, _, _], _ => rfl)
  have T_l_bag : At K mg "_law_bag" s_l_bag ["_law_script"] := at_mkH ["_law_script"] X G c 19 rfl rfl (fun _ _ _ _ _ _ us hl => match us, hl with | [_], _ => rfl)
  have T_l_take : At K mg "_law_take" s_l_take ["_law_bag_here", "_law_many"] := at_mkH ["_law_bag_here", "_law_many"] X G c 20 rfl rfl (fun _ _ _ _ _ _ us hl => match us, hl with | [_, _], _ => rfl)
  have T_l_some : At K mg "_law_some" s_l_some ["_law_bag_here", "_law_things"] := at_mkH ["_law_bag_here", "_law_things"] X G c 21 rfl rfl (fun _ _ _ _ _ _ us hl => match us, hl with | [_, _], _ => rfl)
  have T_l_alike : At K mg "_law_alike" s_l_alike ["_law_found", "_law_due"] := at_mkH ["_law_found", "_law_due"] X G c 22 rfl rfl (fun _ _ _ _ _ _ us hl => match us, hl with | [_, _], _ => rfl)
  have T_l_format : At K mg "_law_format" s_l_format ["_law_bag_here"] := at_mkH ["_law_bag_here"] X G c 23 rfl rfl (fun _ _ _ _ _ _ us hl => match us, hl with | [_], _ => rfl)
  have T_l_to : At K mg "_law_to" s_l_to ["_law_base", "_law_n"] := at_mkH ["_law_base", "_law_n"] X G c 24 rfl rfl (fun _ _ _ _ _ _ us hl => match us, hl with | [_, _], _ => rfl)
  have T_l_power : At K mg "_law_power" s_l_power ["_law_base", "_law_e"] := at_mkH ["_law_base", "_law_e"] X G c 25 rfl rfl (fun _ _ _ _ _ _ us hl => match us, hl with | [_, _], _ => rfl)
  have T_l_size : At K mg "_law_size" s_l_size ["_law_form", "_law_c_here", "_law_e"] := at_mkH ["_law_form", "_law_c_here", "_law_e"] X G c 26 rfl rfl (fun _ _ _ _ _ _ us hl => match us, hl with | [_, _, _], _ => rfl)
  have T_l_c : At K mg "_law_c" s_l_c ["_law_bag_here", "_law_form", "_law_e"] := at_mkH ["_law_bag_here", "_law_form", "_law_e"] X G c 27 rfl rfl (fun _ _ _ _ _ _ us hl => match us, hl with | [_, _, _], _ => rfl)
  have T_l_number : At K mg "_law_number" s_l_number ["_law_bag_here", "_law_form"] := at_mkH ["_law_bag_here", "_law_form"] X G c 28 rfl rfl (fun _ _ _ _ _ _ us hl => match us, hl with | [_, _], _ => rfl)
  have T_l_compared : At K mg "_law_compared" s_l_compared ["_law_one", "_law_other"] := at_mkH ["_law_one", "_law_other"] X G c 29 rfl rfl (fun _ _ _ _ _ _ us hl => match us, hl with | [_, _], _ => rfl)
  have T_l_top : At K mg "_law_top" s_l_top ["_law_n", "_law_d"] := at_mkH ["_law_n", "_law_d"] X G c 30 rfl rfl (fun _ _ _ _ _ _ us hl => match us, hl with | [_, _], _ => rfl)
  have T_l_way : At K mg "_law_way" s_l_way ["_law_bag_here"] := at_mkH ["_law_bag_here"] X G c 31 rfl rfl (fun _ _ _ _ _ _ us hl => match us, hl with | [_], _ => rfl)
  have T_l_integer : At K mg "_law_integer" s_l_integer ["_law_way_here", "_law_s", "_law_n", "_law_d"] := at_mkH ["_law_way_here", "_law_s", "_law_n", "_law_d"] X G c 32 rfl rfl (fun _ _ _ _ _ _ us hl => match us, hl with | [_, _, _, _], _ => rfl)
  have T_l_told_at : At K mg "_law_told_at" s_l_told_at ["_law_way_here", "_law_s", "_law_n", "_law_d", "_law_e"] := at_mkH ["_law_way_here", "_law_s", "_law_n", "_law_d", "_law_e"] X G c 33 rfl rfl (fun _ _ _ _ _ _ us hl => match us, hl with | [_, _, _, _, _], _ => rfl)
  have T_l_told_digits : At K mg "_law_told_digits" s_l_told_digits ["_law_form", "_law_number_here", "_law_many", "_law_way_here"] := at_mkH ["_law_form", "_law_number_here", "_law_many", "_law_way_here"] X G c 34 rfl rfl (fun _ _ _ _ _ _ us hl => match us, hl with | [_, _, _, _], _ => rfl)
  have m_abs : mg "abs" = none := He.free_ok X G (c.fact 36 (f := .free "abs") rfl)
  have m_divmod : mg "divmod" = none := He.free_ok X G (c.fact 37 (f := .free "divmod") rfl)
  have m_int : mg "int" = none := He.free_ok X G (c.fact 38 (f := .free "int") rfl)
  have m_len : mg "len" = none := He.free_ok X G (c.fact 39 (f := .free "len") rfl)
  have m_max : mg "max" = none := He.free_ok X G (c.fact 40 (f := .free "max") rfl)
  have m_min : mg "min" = none := He.free_ok X G (c.fact 41 (f := .free "min") rfl)
  have m_range : mg "range" = none := He.free_ok X G (c.fact 42 (f := .free "range") rfl)
  have m_repr : mg "repr" = none := He.free_ok X G (c.fact 43 (f := .free "repr") rfl)
  have m_rev : mg "reversed" = none := He.free_ok X G (c.fact 44 (f := .free "reversed") rfl)
  have m_str : mg "str" = none := He.free_ok X G (c.fact 45 (f := .free "str") rfl)
  have m_gcd : mg "gcd" = some (.builtin "math.gcd") := ckM_blt X G kk 0 rfl
  refine law_mkHD (st := s_law) (n := 11) X G hfa c 35 rfl rfl (fun _ _ _ _ _ _ _ _ => .of_eq rfl) (fun base f fd nd F => ?_)
  have c_l_take := c_of_l_take (P := PySem.Challenge.pw_nearestheld_k42_told_digits_and_places) (w := w) (base := base) m_int T_l_take
  have c_l_some := c_of_l_some (P := PySem.Challenge.pw_nearestheld_k42_told_digits_and_places) (w := w) (base := base) m_len c_l_take T_l_some
  have c_l_to := c_of_l_to (P := PySem.Challenge.pw_nearestheld_k42_told_digits_and_places) (w := w) (base := base) m_int T_l_to
  have c_l_power := c_of_l_power (P := PySem.Challenge.pw_nearestheld_k42_told_digits_and_places) (w := w) (base := base) c_l_to T_l_power
  have c_l_size := c_of_l_size (P := PySem.Challenge.pw_nearestheld_k42_told_digits_and_places) (w := w) (base := base) c_l_power T_l_size
  have c_l_compared := c_of_l_compared (P := PySem.Challenge.pw_nearestheld_k42_told_digits_and_places) (w := w) (base := base) T_l_compared
  have c_l_top := c_of_l_top (P := PySem.Challenge.pw_nearestheld_k42_told_digits_and_places) (w := w) (base := base) nd m_len m_str c_l_compared c_l_power T_l_top
  have c_l_integer := c_of_l_integer (P := PySem.Challenge.pw_nearestheld_k42_told_digits_and_places) (w := w) (base := base) m_int T_l_integer
  have c_l_told_at := c_of_l_told_at (P := PySem.Challenge.pw_nearestheld_k42_told_digits_and_places) (w := w) (base := base) c_l_power c_l_integer c_l_compared T_l_told_at
  have c_l_told_digits := c_of_l_told_digits (P := PySem.Challenge.pw_nearestheld_k42_told_digits_and_places) (w := w) (base := base) c_l_size c_l_top c_l_told_at c_l_to T_l_told_digits
  have c_is_finite := c_of_is_finite (P := PySem.Challenge.pw_nearestheld_k42_told_digits_and_places) (w := w) (base := base) T_is_finite
  have c_is_zero := c_of_is_zero (P := PySem.Challenge.pw_nearestheld_k42_told_digits_and_places) (w := w) (base := base) c_is_finite T_is_zero
  have c_u_power_within := c_of_u_power_within (P := PySem.Challenge.pw_nearestheld_k42_told_digits_and_places) (w := w) (base := base) m_rev T_u_power_within
  have c_power_below := c_of_power_below (P := PySem.Challenge.pw_nearestheld_k42_told_digits_and_places) (w := w) (base := base) c_u_power_within T_power_below
  have c_size_of := c_of_size_of (P := PySem.Challenge.pw_nearestheld_k42_told_digits_and_places) (w := w) (base := base) m_abs T_size_of
  have c_u_twos_in := c_of_u_twos_in (P := PySem.Challenge.pw_nearestheld_k42_told_digits_and_places) (w := w) (base := base) T_u_twos_in
  have c_reduced := c_of_reduced (P := PySem.Challenge.pw_nearestheld_k42_told_digits_and_places) (w := w) (base := base) m_gcd m_min c_u_twos_in T_reduced
  have c_times := c_of_times (P := PySem.Challenge.pw_nearestheld_k42_told_digits_and_places) (w := w) (base := base) c_reduced T_times
  have c_integer_power := c_of_integer_power (P := PySem.Challenge.pw_nearestheld_k42_told_digits_and_places) (w := w) (base := base) T_integer_power
  have c_power_of := c_of_power_of (P := PySem.Challenge.pw_nearestheld_k42_told_digits_and_places) (w := w) (base := base) c_integer_power T_power_of
  have c_worth := c_of_worth (P := PySem.Challenge.pw_nearestheld_k42_told_digits_and_places) (w := w) (base := base) c_times c_power_of T_worth
  have c_timesW := c_of_timesW (P := PySem.Challenge.pw_nearestheld_k42_told_digits_and_places) (w := w) (base := base) c_reduced T_times
  have c_over := c_of_over (P := PySem.Challenge.pw_nearestheld_k42_told_digits_and_places) (w := w) (base := base) c_timesW T_over
  have c_sign_of_fraction := c_of_sign_of_fraction (P := PySem.Challenge.pw_nearestheld_k42_told_digits_and_places) (w := w) (base := base) T_sign_of_fraction
  have c_part_of := c_of_part_of (P := PySem.Challenge.pw_nearestheld_k42_told_digits_and_places) (w := w) (base := base) T_part_of
  have c_is_taken_outward := c_of_is_taken_outward (P := PySem.Challenge.pw_nearestheld_k42_told_digits_and_places) (w := w) (base := base) T_is_taken_outward
  have c_nearest_integer := c_of_nearest_integer (P := PySem.Challenge.pw_nearestheld_k42_told_digits_and_places) (w := w) (base := base) m_abs m_divmod c_sign_of_fraction c_part_of c_is_taken_outward T_nearest_integer
  have c_u_told_at := c_of_u_told_at (P := PySem.Challenge.pw_nearestheld_k42_told_digits_and_places) (w := w) (base := base) m_abs c_over c_worth c_power_of c_nearest_integer T_u_told_at
  have c_told_digits := c_of_told_digits (P := PySem.Challenge.pw_nearestheld_k42_told_digits_and_places) (w := w) (base := base) c_is_zero c_power_below c_size_of c_worth c_u_told_at c_integer_power T_told_digits
  have c_l_alike := c_of_l_alike (P := PySem.Challenge.pw_nearestheld_k42_told_digits_and_places) (w := w) (base := base) nd m_repr T_l_alike
  have c_told_places := c_of_told_places (P := PySem.Challenge.pw_nearestheld_k42_told_digits_and_places) (w := w) (base := base) c_u_told_at T_told_places
  have c_l_bag := c_of_l_bag (P := PySem.Challenge.pw_nearestheld_k42_told_digits_and_places) (w := w) (base := base) m_abs T_l_bag
  have c_l_format := c_of_l_format (P := PySem.Challenge.pw_nearestheld_k42_told_digits_and_places) (w := w) (base := base) c_l_take c_l_some T_l_format
  have c_l_way := c_of_l_way (P := PySem.Challenge.pw_nearestheld_k42_told_digits_and_places) (w := w) (base := base) c_l_some T_l_way
  have c_l_c := c_of_l_c (P := PySem.Challenge.pw_nearestheld_k42_told_digits_and_places) (w := w) (base := base) m_max m_min c_l_to c_l_take c_l_some T_l_c
  have c_l_number := c_of_l_number (P := PySem.Challenge.pw_nearestheld_k42_told_digits_and_places) (w := w) (base := base) m_max m_min c_l_take c_l_some c_l_c T_l_number
  exact ok_law nd m_range m_len m_str m_max m_min c_l_take c_l_some c_l_told_digits c_told_digits c_l_alike c_l_size c_l_top c_l_told_at c_told_places c_l_bag c_l_format c_l_way c_l_number F
end K42
open PySem PySem.W PySem.Calls PyProof.Rows
set_option maxRecDepth 100000 in
set_option maxHeartbeats 0 in
theorem PySem.Challenge.cw_nearestheld_k42_told_digits_and_places_holds : PySem.Challenge.rw_nearestheld_k42_told_digits_and_places.Holds := by
  w_on; o_law
  refine Gd.head_two (r := OpenLaw.row PySem.Challenge.rw_nearestheld_k42_told_digits_and_places) (q := view (OpenLaw.row PySem.Challenge.rw_nearestheld_k42_told_digits_and_places).prog [41]) (H := Gd.hkM K42H.fas K42H.fn K42H.ck) (ob := Gd.obM K42H.fas K42H.fn K42H.ck) (N := 8000) (M := 8000) (loose := K42H.loose) (d := HandSHeadRun.topDef (OpenLaw.row PySem.Challenge.rw_nearestheld_k42_told_digits_and_places).prog 41) (kwd := []) Gd.obM_eq (Nat.le_refl _)
    K42H.runA K42H.runB K42H.hdefT K42H.hpT K42H.hkT (by rfl) (by first | assumption | decide +kernel) K42H.okT K42H.hbT ?hw ?hc
  case hw => w_witness2
  case hc =>
    refine Gd.walk_ofDH (l := PySem.Challenge.rw_nearestheld_k42_told_digits_and_places) (k := 11) (x := "_law_script") (ck := K42H.ck) (fas := K42H.fas) (fn := K42H.fn) rfl rfl ⟨rfl, by decide, by decide⟩ ?F
    intro w K mg fa h KX G hmg c kk
    have hl : mg ("law" : PySem.Str) = some (.ref fa) := by
      have e : (HandSHeadRun.topDef (OpenLaw.row PySem.Challenge.rw_nearestheld_k42_told_digits_and_places).prog 41).name = ("law" : PySem.Str) := K42H.nameT
      rw [← e]
      exact hmg
    exact K42.all_mk KX G hl c kk
