import PyProof.Rows.All
import Wide.All
import OpenK.AllK
import Wide.FinOn
import HandS.ForMost
import HandS.Head0
import HandS.Head1
import HandS.Head2
import HandS.HeadEnd
import HandS.HeadHook1
import HandS.HeadHook2
import HandS.Wide
import HandS.WideBits
import HandS.Gcd
import HandS.TupAny
import HandS.Flow
import HandS.Set
import HandS.SetFor
import HandS.Strs
import HandS.Rev
import HandS.Style
import HandS.TryOnly
import HandS.RaiseMore
import HandS.Deep
import HandS.TupMul
import HandS.Flt
import HandS.Zip
import HandS.IsInst
import HandS.Dict
import KE.KBits
import KE.DataMinMax
import HandS.SortKw
import HandS.More
import KE.GoesEnum
import HandS.Walk
import PyProof.ToksMono
import KE.DataMinKey
import KE.KMathG
import Flt.RightSqrt
import HandS.TupLe
import HandS.Comp
import HandS.CallLocal
import PyProof.AutoSeq1
import HandS.Star
import HandS.IterVal
import HandS.Conv
import KE.KRevSl
import HandS.DictTup
import HandS.Text
import KE.KDictDisplayH
import PySem.Challenge.RW_nearestheld_k12_whole_one_format_in_anot
set_option Elab.async false
set_option linter.all false
set_option maxRecDepth 100000
set_option maxHeartbeats 4000001
namespace Gd
open PySem PySem.Spec PyProof.Rows L2
def repAll (f : Value → PyData → Bool) : List Value → List PyData → Bool
  | [], [] => true
  | v :: vs, d :: ds => f v d && repAll f vs ds
  | _, _ => false
def repB (K : PySem.W.Frag) : Nat → Value → PyData → Bool
  | 0, _, _ => false
  | n + 1, .str y _, .str x => decide (y = x)
  | n + 1, .int j _, .int i => decide (j = i)
  | n + 1, .ref a, .tuple ds => match K.lookup a with
    | some ⟨c, _, .seq its _, _⟩ => decide (c = .type "tuple") && (Nat.ble its.size 60 && repAll (repB K n) its.toList ds)
    | _ => false
  | _ + 1, _, _ => false
def globB (K : PySem.W.Frag) (x : Str) (d : PyData) : Bool := match PySem.W.nsIn K mainGlobals x with
  | some (some v) => repB K 5 v d
  | _ => false
def bltB (K : PySem.W.Frag) (x : Str) (b : String) : Bool := He.eqO (PySem.W.nsIn K mainGlobals x) (some (some (.builtin b)))
def ckM (gl : List (Str × PyData)) (bl : List (Str × String)) (K : PySem.W.Frag) : Bool := gl.all (fun p => globB K p.1 p.2) && bl.all (fun p => bltB K p.1 p.2)
def refsAt (g : Addr → Option Obj) (a : Addr) : List Addr := match g a with
  | some o => He.refsO o
  | none => []
def asM (g : Addr → Option Obj) : List Addr := sysModules :: mainGlobals :: (refsAt g mainGlobals ++ (refsAt g mainGlobals).flatMap (refsAt g))
def hkM (fa : List He.Fa) (fn : List He.DefD) (ck : PySem.W.Frag → Bool) : PySem.W.Hook where
  α := He.AlD × Bool
  obs s := (fun K => (He.obsD fa fn K, ck K)) (He.frG s.heap.get? (asM s.heap.get?))
  val _ := (He.valD fn, true)
  says _ h := ∃ K : PySem.W.Frag, K.In h ∧ He.SaysD fa fn K ∧ ck K = true
  of w s h := ⟨_, He.frG_in, congrArg Prod.fst h, congrArg Prod.snd h⟩
  keeps w h h' := fun ⟨K, k, a, b⟩ up => ⟨K, fun x o e => up x o (k x o e), a, b⟩
def obM (fa : List He.Fa) (fn : List He.DefD) (ck : PySem.W.Frag → Bool) (s : PySem.W.SharedT) : He.AlD × Bool :=
  (fun K => (He.obsD fa fn K, ck K)) (He.frG (HandSHeadRun.getT s) (asM (HandSHeadRun.getT s)))
abbrev dfD (y x : Str) (st : Stmt) : He.DefD := ⟨(y, .none), x, x, defArgs st, defBody st, defScope st, [], []⟩
noncomputable def endG (st : PySem.W.SharedT → Thread → Option (PySem.W.SharedT × Thread)) (M : Nat) (p : Program) (s0 : Shared) : Option PySem.W.SharedT :=
  match HandSHeadRun.putAll s0.heap.objs.toList PySem.W.BT.nil 0 with
  | some (t, n) => HandSHeadRun.frNat n fun n0 => HandSHeadRun.goF st n0 (s0.heap.nsMap mainGlobals (Str.ofString "__annotations__")) M ⟨t, n0, s0.heap.life, s0.gens, s0.drawn, s0.toks, s0.os⟩ (PySem.W.topStub p)
  | none => none
def goI (st : PySem.W.SharedT → Thread → Option (PySem.W.SharedT × Thread)) : Nat → PySem.W.SharedT → Thread → Option PySem.W.SharedT
  | 0, _, _ => none
  | m + 1, s, t => match t.atExitBegin with
    | some [] => some s
    | some (_ :: _) => none
    | none => match st s t with
      | some (s', t') => HandSHeadRun.frS s' fun s' => goI st m s' t'
      | none => none
noncomputable def openI (st : PySem.W.SharedT → Thread → Option (PySem.W.SharedT × Thread)) (N : Nat) (p : Program) : Option Shared :=
  (goI st N ⟨PySem.W.BT.nil, 0, {}, #[], {}, 1, (start (PySem.W.opening p)).1.os⟩ (start (PySem.W.opening p)).2).bind fun s => fenceModules? p s.abs
noncomputable def runI (p : Program) (w : World) (N M : Nat) : Option (Shared × PySem.W.SharedT) :=
  (openI (HandSHeadRun.stepQ (HandSHeadRun.denQ HandSHeadRun.tabQ) (PySem.W.opening p) w) N p).bind fun s0 => (endG (HandSHeadRun.stepQ (HandSHeadRun.denQ HandSHeadRun.tabQ) p w) M p s0).map fun s => (s0, s)
def RunA (r : PySem.W.OpenRow) (q : Program) (N M : Nat) (loose : List Str) (w : World) : Prop :=
  (runI r.prog w N M).map (fun s => ((s.1.heap.isNs mainGlobals && s.1.gens.size == 0) && HandSHeadRun.looksF r.prog s.1.heap s.2.abs, HandSHeadRun.seenQ q loose (importedModules r.prog.main.body) (fun s => PySem.W.xlAt q [] s && PySem.W.recOk r.records s) s.2.abs)) = some (true, PySem.W.openGood q loose)
def RunB (r : PySem.W.OpenRow) (H : PySem.W.Hook) (ob : PySem.W.SharedT → H.α) (N M : Nat) (w : World) : Prop :=
  (runI r.prog w N M).map (fun s => ob s.2) = some (H.val w)
end Gd
namespace K12H
open PySem PySem.Spec PyProof.Rows L2 Gd
def topH (i : Nat) : Stmt := PySem.Challenge.pw_nearestheld_k12_whole_one_format_in_anot.main.body.getD i (.Pass ⟨0, 0, 0, 0⟩)
def fn0 : List He.DefD := [dfD "integer_power" "integer_power" (topH 2), dfD "reduced" "reduced" (topH 4), dfD "times" "times" (topH 5), dfD "size_of" "size_of" (topH 6), dfD "power_of" "power_of" (topH 7), dfD "sign_of_fraction" "sign_of_fraction" (topH 8), dfD "power_below" "power_below" (topH 9), dfD "_power_within" "_power_within" (topH 10), dfD "_twos_in" "_twos_in" (topH 11), dfD "worth" "worth" (topH 13), dfD "number_of" "number_of" (topH 14), dfD "zero" "zero" (topH 15), dfD "is_within" "is_within" (topH 17), dfD "lost_number" "lost_number" (topH 18), dfD "_law_bag" "_law_bag" (topH 20), dfD "_law_take" "_law_take" (topH 21), dfD "_law_some" "_law_some" (topH 22), dfD "_law_alike" "_law_alike" (topH 23), dfD "_law_is_int" "_law_is_int" (topH 24), dfD "_law_common" "_law_common" (topH 25), dfD "_law_to" "_law_to" (topH 26), dfD "_law_over" "_law_over" (topH 27), dfD "_law_multiplied" "_law_multiplied" (topH 28), dfD "_law_is_below" "_law_is_below" (topH 29), dfD "_law_sized" "_law_sized" (topH 30), dfD "_law_power" "_law_power" (topH 31), dfD "_law_worth" "_law_worth" (topH 32), dfD "_law_formats" "_law_formats" (topH 33), dfD "_law_wide_format" "_law_wide_format" (topH 34), dfD "_law_numbers" "_law_numbers" (topH 35)]
def fn1 : List He.DefD := [dfD "_law_grid" "_law_grid" (topH 36), dfD "_law_greatest" "_law_greatest" (topH 37), dfD "_law_is_number" "_law_is_number" (topH 38), dfD "_law_number_of" "_law_number_of" (topH 39), dfD "_law_couple" "_law_couple" (topH 40), dfD "_law_lost" "_law_lost" (topH 41), dfD "_law_count" "_law_count" (topH 42), dfD "_law_is_lost_right" "_law_is_lost_right" (topH 43), dfD "_law_one_base" "_law_one_base" (topH 44), dfD "_law_unlike_couple" "_law_unlike_couple" (topH 45), dfD "_law_in_powers" "_law_in_powers" (topH 46), dfD "_law_in_integers" "_law_in_integers" (topH 47), dfD "_law_in_decimals" "_law_in_decimals" (topH 48), dfD "law" "law" (topH 49)]
def fn : List He.DefD := fn0 ++ fn1
def fas0 : List He.Fa := [.glo "integer_power", .glo "reduced", .glo "times", .glo "size_of", .glo "power_of", .glo "sign_of_fraction", .glo "power_below", .glo "_power_within", .glo "_twos_in", .glo "worth", .glo "number_of", .glo "zero", .glo "is_within", .glo "lost_number", .glo "_law_bag", .glo "_law_take", .glo "_law_some", .glo "_law_alike", .glo "_law_is_int", .glo "_law_common", .glo "_law_to", .glo "_law_over", .glo "_law_multiplied", .glo "_law_is_below", .glo "_law_sized", .glo "_law_power", .glo "_law_worth", .glo "_law_formats", .glo "_law_wide_format", .glo "_law_numbers"]
def fas1 : List He.Fa := [.glo "_law_grid", .glo "_law_greatest", .glo "_law_is_number", .glo "_law_number_of", .glo "_law_couple", .glo "_law_lost", .glo "_law_count", .glo "_law_is_lost_right", .glo "_law_one_base", .glo "_law_unlike_couple", .glo "_law_in_powers", .glo "_law_in_integers", .glo "_law_in_decimals", .glo "law", .free "abs", .free "bool", .free "int", .free "isinstance", .free "len", .free "max", .free "min", .free "range", .free "repr", .free "reversed", .free "str", .free "tuple"]
def fas : List He.Fa := fas0 ++ fas1
def ck (K : PySem.W.Frag) : Bool := ckM [] [("gcd", "math.gcd")] K
def loose0 : List Str := ["gcd", "__name__", "integer_power", "reduced", "times", "size_of", "power_of", "sign_of_fraction", "power_below", "_power_within", "_twos_in", "worth", "number_of", "zero", "is_within", "lost_number", "_law_bag", "_law_take", "_law_some", "_law_alike", "_law_is_int", "_law_common", "_law_to", "_law_over", "_law_multiplied", "_law_is_below", "_law_sized", "_law_power", "_law_worth", "_law_formats"]
def loose1 : List Str := ["_law_wide_format", "_law_numbers", "_law_grid", "_law_greatest", "_law_is_number", "_law_number_of", "_law_couple", "_law_lost", "_law_count", "_law_is_lost_right", "_law_one_base", "_law_unlike_couple", "_law_in_powers", "_law_in_integers", "_law_in_decimals"]
def loose : List Str := loose0 ++ loose1
theorem runA (w : World) : RunA (PySem.W.OpenLaw.row PySem.Challenge.rw_nearestheld_k12_whole_one_format_in_anot) (PySem.W.view (PySem.W.OpenLaw.row PySem.Challenge.rw_nearestheld_k12_whole_one_format_in_anot).prog [49]) 8000 8000 loose w := by
  unfold RunA
  kernel_rfl
theorem runB (w : World) : RunB (PySem.W.OpenLaw.row PySem.Challenge.rw_nearestheld_k12_whole_one_format_in_anot) (hkM fas fn ck) (obM fas fn ck) 8000 8000 w := by
  unfold RunB
  kernel_rfl
theorem hdefT : PySem.W.defOf (PySem.W.view (PySem.W.OpenLaw.row PySem.Challenge.rw_nearestheld_k12_whole_one_format_in_anot).prog [49]) (PySem.W.OpenLaw.row PySem.Challenge.rw_nearestheld_k12_whole_one_format_in_anot).name = some ((HandSHeadRun.topDef (PySem.W.OpenLaw.row PySem.Challenge.rw_nearestheld_k12_whole_one_format_in_anot).prog 49), []) := by kernel_rfl
theorem hpT : (PySem.W.OpenLaw.row PySem.Challenge.rw_nearestheld_k12_whole_one_format_in_anot).prog.theDef (PySem.W.OpenLaw.row PySem.Challenge.rw_nearestheld_k12_whole_one_format_in_anot).name = some ((HandSHeadRun.topDef (PySem.W.OpenLaw.row PySem.Challenge.rw_nearestheld_k12_whole_one_format_in_anot).prog 49).params, (HandSHeadRun.topDef (PySem.W.OpenLaw.row PySem.Challenge.rw_nearestheld_k12_whole_one_format_in_anot).prog 49).body, (HandSHeadRun.topDef (PySem.W.OpenLaw.row PySem.Challenge.rw_nearestheld_k12_whole_one_format_in_anot).prog 49).scope) := by kernel_rfl
theorem hkT : PySem.W.kwWritten? (HandSHeadRun.topDef (PySem.W.OpenLaw.row PySem.Challenge.rw_nearestheld_k12_whole_one_format_in_anot).prog 49).params.kwonlyargs (HandSHeadRun.topDef (PySem.W.OpenLaw.row PySem.Challenge.rw_nearestheld_k12_whole_one_format_in_anot).prog 49).params.kw_defaults = some [] := by kernel_rfl
theorem okT : (PySem.W.chainsOk (PySem.W.view (PySem.W.OpenLaw.row PySem.Challenge.rw_nearestheld_k12_whole_one_format_in_anot).prog [49]) && PySem.W.opensWell (PySem.W.OpenLaw.row PySem.Challenge.rw_nearestheld_k12_whole_one_format_in_anot).prog && (PySem.W.frees (PySem.W.OpenLaw.row PySem.Challenge.rw_nearestheld_k12_whole_one_format_in_anot).toRowW && (PySem.W.OpenLaw.row PySem.Challenge.rw_nearestheld_k12_whole_one_format_in_anot).within.isEmpty)) = true := by decide +kernel
theorem hbT : (PySem.W.OpenLaw.row PySem.Challenge.rw_nearestheld_k12_whole_one_format_in_anot).prog.bare := ⟨rfl, rfl, rfl, rfl, rfl, by decide +kernel⟩
theorem nameT : (HandSHeadRun.topDef (PySem.W.OpenLaw.row PySem.Challenge.rw_nearestheld_k12_whole_one_format_in_anot).prog 49).name = ("law" : PySem.Str) := by kernel_rfl
end K12H
namespace Gd
open PySem PySem.Spec PyProof.Rows L2
mutual
inductive Rp (K : PySem.W.Frag) (H : Hp) : V → PyData → Prop
  | non : Rp K H .non .none
  | bl (b : Bool) : Rp K H (.bl b) (.bool b)
  | int (i : Int) : Rp K H (.int i) (.int i)
  | str (x : Str) : Rp K H (.str x) (.str x)
  | lst {a xs ds} (h : H a = some (.lst xs)) (r : RpAll K H xs ds) : Rp K H (.ref a) (.list ds)
  | tup {a xs ds} (h : SqT K H a xs) (r : RpAll K H xs ds) : Rp K H (.ref a) (.tuple ds)
  | dct {a} (h : H a = some (.dK [])) : Rp K H (.ref a) (.dict [])
  | dctT {a} (kvs : List (List Int × Int)) (h : H a = some (.dT (kvs.map fun p => (p.1.map .inl, V.int p.2)))) : Rp K H (.ref a) (.dict (kvs.map fun p => (.tuple (p.1.map .int), .int p.2)))
inductive RpAll (K : PySem.W.Frag) (H : Hp) : List V → List PyData → Prop
  | nil : RpAll K H [] []
  | cons {v vs d ds} (h : Rp K H v d) (r : RpAll K H vs ds) : RpAll K H (v :: vs) (d :: ds)
end
section
variable {K : PySem.W.Frag} {H H' : Hp}
theorem seqT (e : Same H H') {a : Addr} {xs : List V} (h : SqT K H a xs) : SqT K H' a xs := by
  rcases h with (hh | ⟨ob, hh⟩) | hh
  · exact .inl (.inl (e _ _ hh))
  · exact .inl (.inr ⟨ob, e _ _ hh⟩)
  · exact .inr hh
mutual
theorem Rp.mono (e : Same H H') : ∀ {v : V} {d : PyData}, Rp K H v d → Rp K H' v d
  | _, _, .non => .non
  | _, _, .bl b => .bl b
  | _, _, .int i => .int i
  | _, _, .str x => .str x
  | _, _, .lst h r => .lst (e _ _ h) (RpAll.mono e r)
  | _, _, .tup h r => .tup (seqT e h) (RpAll.mono e r)
  | _, _, .dct h => .dct (e _ _ h)
  | _, _, .dctT kvs h => .dctT kvs (e _ _ h)
theorem RpAll.mono (e : Same H H') : ∀ {vs : List V} {ds : List PyData}, RpAll K H vs ds → RpAll K H' vs ds
  | _, _, .nil => .nil
  | _, _, .cons h r => .cons (Rp.mono e h) (RpAll.mono e r)
end
mutual
theorem Rp.dp : ∀ {v : V} {d : PyData}, Rp K H v d → d.hasDict = false → Dp K H v d
  | _, _, .non, _ => .non
  | _, _, .bl b, _ => .bl b
  | _, _, .int i, _ => .int i
  | _, _, .str x, _ => .str x
  | _, _, .lst h r, n => .lst (SqL.of h) (RpAll.dp r (by simpa only [PyData.hasDict] using n))
  | _, _, .tup h r, n => .tup h (RpAll.dp r (by simpa only [PyData.hasDict] using n))
  | _, _, .dct h, n => by simp only [PyData.hasDict] at n; cases n
  | _, _, .dctT kvs h, n => by simp only [PyData.hasDict] at n; cases n
theorem RpAll.dp : ∀ {vs : List V} {ds : List PyData}, RpAll K H vs ds → PyData.hasDictAll ds = false → DpAll K H vs ds
  | _, _, .nil, _ => .nil
  | _, _, .cons h r, n => by
    simp only [PyData.hasDictAll, Bool.or_eq_false_iff] at n
    exact .cons (Rp.dp h n.1) (RpAll.dp r n.2)
end
theorem nd_shaped {d : PyData} (h : SeqAt.shaped d = true) : d.hasDict = false := PyData.hasDict_of_canLay d (by unfold SeqAt.shaped at h; exact (Bool.and_eq_true_iff.mp h).1)
theorem RpAll.length : ∀ {vs : List V} {ds : List PyData}, RpAll K H vs ds → vs.length = ds.length
  | _, _, .nil => rfl
  | _, _, .cons _ r => congrArg (· + 1) (RpAll.length r)
theorem RpAll.get : ∀ {vs : List V} {ds : List PyData} {i : Nat} {v : V}, RpAll K H vs ds → vs[i]? = some v → ∃ d, ds[i]? = some d ∧ Rp K H v d
  | _, _, 0, _, .cons h _, e => by cases e; exact ⟨_, rfl, h⟩
  | _, _, i + 1, _, .cons _ r, e => RpAll.get (i := i) r e
  | _, _, i, _, .nil, e => by simp at e
theorem RpAll.getD : ∀ {vs : List V} {ds : List PyData} {i : Nat} {d : PyData}, RpAll K H vs ds → ds[i]? = some d → ∃ v, vs[i]? = some v ∧ Rp K H v d
  | _, _, 0, _, .cons h _, e => by cases e; exact ⟨_, rfl, h⟩
  | _, _, i + 1, _, .cons _ r, e => RpAll.getD (i := i) r e
  | _, _, i, _, .nil, e => by simp at e
theorem RpAll.app : ∀ {vs ws : List V} {ds es : List PyData}, RpAll K H vs ds → RpAll K H ws es → RpAll K H (vs ++ ws) (ds ++ es)
  | _, _, _, _, .nil, q => q
  | _, _, _, _, .cons h r, q => .cons h (RpAll.app r q)
theorem RpAll.take : ∀ {vs : List V} {ds : List PyData} (n : Nat), RpAll K H vs ds → RpAll K H (vs.take n) (ds.take n)
  | _, _, 0, _ => .nil
  | _, _, _ + 1, .nil => .nil
  | _, _, n + 1, .cons h r => .cons h (RpAll.take n r)
theorem RpAll.drop : ∀ {vs : List V} {ds : List PyData} (n : Nat), RpAll K H vs ds → RpAll K H (vs.drop n) (ds.drop n)
  | _, _, 0, r => r
  | _, _, _ + 1, .nil => .nil
  | _, _, n + 1, .cons _ r => RpAll.drop n r
end
structure Bag where
  x : Int
  y : Int
  z : Int
  cs : List Int
abbrev Gh := Option (Addr × Addr)
def bagCells (B : Bag) (l : Addr) : List V := [.int B.x, .int B.y, .int B.z, .ref l]
structure On (K : PySem.W.Frag) (g : Gh) (B : Bag) (H0 H : Hp) : Prop where
  ex : Same H0 H
  bag : ∀ a l, g = some (a, l) → H0 a = none ∧ H a = some (.lst (bagCells B l)) ∧ H0 l = some (.lst (B.cs.map V.int))
def Off (g : Gh) (a : Addr) : Prop := ∀ l, g ≠ some (a, l)
structure To (g : Gh) (H0 H H0' H' : Hp) : Prop where
  ex : Same H0 H0'
  un : ∀ a o, Off g a → H0 a = none → H a = some o → H0' a = none ∧ H' a = some o
theorem To.refl {g : Gh} {H0 H : Hp} : To g H0 H H0 H := ⟨Same.refl _, fun _ _ _ h1 h2 => ⟨h1, h2⟩⟩
theorem To.trans {g : Gh} {H0 H H1 H' H2 H'' : Hp} (s : To g H0 H H1 H') (t : To g H1 H' H2 H'') : To g H0 H H2 H'' :=
  ⟨s.ex.trans t.ex, fun a o f h1 h2 => let ⟨p, q⟩ := s.un a o f h1 h2; t.un a o f p q⟩
inductive VD where
  | no
  | da (d : PyData)
  | bag
  | scr (ns : List Int)
  | dct (kvs : List (Str × PyData))
  | fn (f : Addr)
  | fns (fs : List Addr)
def Rv (K : PySem.W.Frag) (g : Gh) (H0 : Hp) (v : V) : VD → Prop
  | .no => True
  | .da d => Rp K H0 v d
  | .bag => ∃ a l, g = some (a, l) ∧ v = .ref a
  | .scr ns => ∃ a, v = .ref a ∧ SqL K H0 a (ns.map V.int)
  | .dct kvs => ∃ a xs, v = .ref a ∧ H0 a = some (.dK xs) ∧ xs.map (·.1) = kvs.map (fun kv => Sum.inr kv.1) ∧ RpAll K H0 (xs.map (·.2)) (kvs.map (·.2))
  | .fn f => v = .ref f
  | .fns fs => ∃ a, v = .ref a ∧ H0 a = some (.lst (fs.map V.ref))
theorem Rv.mono {K : PySem.W.Frag} {g : Gh} {H0 H1 : Hp} (e : Same H0 H1) {v : V} : ∀ {d : VD}, Rv K g H0 v d → Rv K g H1 v d
  | .no, h => h
  | .da _, h => Rp.mono e h
  | .bag, h => h
  | .scr _, ⟨a, h1, h2⟩ => ⟨a, h1, e.seq h2⟩
  | .dct _, ⟨a, xs, h1, h2, h3, h4⟩ => ⟨a, xs, h1, e _ _ h2, h3, h4.mono e⟩
  | .fn _, h => h
  | .fns _, ⟨a, h1, h2⟩ => ⟨a, h1, e _ _ h2⟩
def RvAll (K : PySem.W.Frag) (g : Gh) (H0 : Hp) : List V → List VD → Prop
  | [], [] => True
  | v :: vs, d :: ds => Rv K g H0 v d ∧ RvAll K g H0 vs ds
  | _, _ => False
theorem RvAll.mono {K : PySem.W.Frag} {g : Gh} {H0 H1 : Hp} (e : Same H0 H1) : ∀ {vs : List V} {ds : List VD}, RvAll K g H0 vs ds → RvAll K g H1 vs ds
  | [], [], h => h
  | _ :: _, _ :: _, h => ⟨h.1.mono e, RvAll.mono e h.2⟩
  | [], _ :: _, h => h.elim
  | _ :: _, [], h => h.elim
theorem RvAll.length {K : PySem.W.Frag} {g : Gh} {H0 : Hp} : ∀ {vs : List V} {ds : List VD}, RvAll K g H0 vs ds → vs.length = ds.length
  | [], [], _ => rfl
  | _ :: _, _ :: _, h => congrArg (· + 1) (RvAll.length h.2)
  | [], _ :: _, h => h.elim
  | _ :: _, [], h => h.elim
structure EnvD (K : PySem.W.Frag) (g : Gh) (H0 : Hp) (σ : L2.St) (Γ : List VD) : Prop where
  len : σ.length = Γ.length
  at' : ∀ (i : Nat) (d : VD), Γ[i]? = some d → d ≠ .no → ∃ v : V, σ[i]? = some (some v) ∧ Rv K g H0 v d
theorem EnvD.mono {K : PySem.W.Frag} {g : Gh} {H0 H1 : Hp} {σ : L2.St} {Γ : List VD} (e : Same H0 H1) (h : EnvD K g H0 σ Γ) : EnvD K g H1 σ Γ :=
  ⟨h.len, fun i d h1 h2 => let ⟨v, p, q⟩ := h.at' i d h1 h2; ⟨v, p, q.mono e⟩⟩
theorem EnvD.set {K : PySem.W.Frag} {g : Gh} {H0 : Hp} {σ : L2.St} {Γ : List VD} {v : V} {d : VD} (h : EnvD K g H0 σ Γ) (i : Nat) (r : Rv K g H0 v d) : EnvD K g H0 (σ.set i (some v)) (Γ.set i d) := by
  refine ⟨by rw [List.length_set, List.length_set, h.len], fun j e h1 h2 => ?_⟩
  by_cases hj : i = j
  · subst hj
    have hi : i < Γ.length := by
      have := (List.getElem?_eq_some_iff.mp h1).1
      rwa [List.length_set] at this
    rw [List.getElem?_set_self hi] at h1
    cases h1
    exact ⟨v, List.getElem?_set_self (by rw [h.len]; exact hi), r⟩
  · rw [List.getElem?_set_ne hj] at h1 ⊢
    exact h.at' j e h1 h2
def WE (X : Cx) (e : Expr) : TE := fun σ H Q => ∃ t, PE X e t ∧ t σ H Q
def WT (X : Cx) (e : Expr) : TT := fun σ H Q => ∃ t, PT X e t ∧ t σ H Q
def WA (X : Cx) (es : List Expr) : TA := fun σ H Q => ∃ t, PA X es t ∧ t σ H Q
def WS (X : Cx) (ss : List Stmt) : TS := fun D σ H => ∃ t, PSs X ss t ∧ t D σ H
theorem we {X : Cx} (e : Expr) : PE X e (WE X e) := ⟨fun p s σ H Q I ⟨_, ht, h⟩ => ht.run p s σ H Q I h⟩
theorem wt {X : Cx} (e : Expr) : PT X e (WT X e) := ⟨fun p s σ H Q I ⟨_, ht, h⟩ => ht.run p s σ H Q I h⟩
theorem wa {X : Cx} (es : List Expr) : PA X es (WA X es) := ⟨fun o p s σ H Q I ⟨_, ht, h⟩ => ht.run o p s σ H Q I h⟩
theorem ws {X : Cx} (ss : List Stmt) : PSs X ss (WS X ss) := ⟨fun p s σ H D I ⟨_, ht, h⟩ => ht.run p s σ H D I h⟩
def EJ (X : Cx) (Γ : List VD) (B : Bag) (e : Expr) (d : VD) (B' : Bag) : Prop :=
  ∀ g σ H0 H, EnvD X.K g H0 σ Γ → On X.K g B H0 H → ∀ Q : VK,
    (∀ v H0' H', To g H0 H H0' H' → On X.K g B' H0' H' → Rv X.K g H0' v d → Q v H') → WE X e σ H Q
def TJ (X : Cx) (Γ : List VD) (B : Bag) (e : Expr) (b : Bool) (B' : Bag) : Prop :=
  ∀ g σ H0 H, EnvD X.K g H0 σ Γ → On X.K g B H0 H → ∀ Q : Bool → Hp → Prop,
    (∀ H0' H', To g H0 H H0' H' → On X.K g B' H0' H' → Q b H') → WT X e σ H Q
def AJ (X : Cx) (Γ : List VD) (B : Bag) (es : List Expr) (ds : List VD) (B' : Bag) : Prop :=
  ∀ g σ H0 H, EnvD X.K g H0 σ Γ → On X.K g B H0 H → ∀ Q : List V → Hp → Prop,
    (∀ vs H0' H', To g H0 H H0' H' → On X.K g B' H0' H' → RvAll X.K g H0' vs ds → Q vs H') → WA X es σ H Q
structure En where
  nx : List VD → Bag → Prop
  rt : PyData → Bag → Prop
  bk : List VD → Bag → Prop := fun _ _ => False
  ct : List VD → Bag → Prop := fun _ _ => False
structure Gets (X : Cx) (E : En) (g : Gh) (H0 H : Hp) (D : Ends) : Prop where
  nx : ∀ Γ B σ H1 H', E.nx Γ B → To g H0 H H1 H' → EnvD X.K g H1 σ Γ → On X.K g B H1 H' → D.nx σ H'
  rt : ∀ r B v H1 H', E.rt r B → To g H0 H H1 H' → On X.K g B H1 H' → Rp X.K H1 v r → D.rt v H'
  bk : ∀ Γ B σ H1 H', E.bk Γ B → To g H0 H H1 H' → EnvD X.K g H1 σ Γ → On X.K g B H1 H' → D.bk σ H'
  ct : ∀ Γ B σ H1 H', E.ct Γ B → To g H0 H H1 H' → EnvD X.K g H1 σ Γ → On X.K g B H1 H' → D.ct σ H'
theorem Gets.on {X : Cx} {E : En} {g : Gh} {H0 H H1 H' : Hp} {D : Ends} (G : Gets X E g H0 H D) (t : To g H0 H H1 H') : Gets X E g H1 H' D :=
  ⟨fun Γ B σ a b e u => G.nx Γ B σ a b e (t.trans u), fun r B v a b e u => G.rt r B v a b e (t.trans u),
   fun Γ B σ a b e u => G.bk Γ B σ a b e (t.trans u), fun Γ B σ a b e u => G.ct Γ B σ a b e (t.trans u)⟩
def SJ (X : Cx) (Γ : List VD) (B : Bag) (ss : List Stmt) (E : En) : Prop :=
  ∀ g σ H0 H, EnvD X.K g H0 σ Γ → On X.K g B H0 H → ∀ D : Ends, Gets X E g H0 H D → WS X ss D σ H
section
variable {X : Cx} {Γ : List VD} {B B1 B2 B' : Bag} {e a b c : Expr} {es : List Expr} {d da db dc : VD} {pos p : Pos}
theorem laid {K : PySem.W.Frag} {g : Gh} {B : Bag} {H0 H : Hp} {p : Addr} {o : HO} (O : On K g B H0 H) (n : H p = none) :
    To g H0 H (upd H0 p o) (upd H p o) ∧ On K g B (upd H0 p o) (upd H p o) := by
  have n0 : H0 p = none := O.ex.free n
  refine ⟨⟨fun q u h => ?_, fun q u f h1 h2 => ?_⟩, ⟨fun q u h => ?_, fun q l h => ?_⟩⟩
  · rw [upd_ne (ne_of_none h n0)]; exact h
  · have hq := ne_of_none h2 n
    rw [upd_ne hq, upd_ne hq]; exact ⟨h1, h2⟩
  · by_cases hq : q = p
    · subst hq; rw [upd_same] at h ⊢; exact h
    · rw [upd_ne hq] at h ⊢; exact O.ex _ _ h
  · obtain ⟨h1, h2, h3⟩ := O.bag q l h
    have hq := ne_of_none h2 n
    have hl := ne_of_none h3 n0
    rw [upd_ne hq, upd_ne hq, upd_ne hl]; exact ⟨h1, h2, h3⟩
theorem ej_c {v : V} {d : PyData} (h : PE X e (tC v)) (r : ∀ H0, Rp X.K H0 v d) : EJ X Γ B e (.da d) B :=
  fun g σ H0 H _ O Q q => ⟨_, h, q v H0 H To.refl O (r H0)⟩
theorem ej_int {i : Int} {j} : EJ X Γ B (.Constant (.int i) j pos) (.da (.int i)) B := ej_c pe_int fun _ => .int i
theorem ej_bl {i : Bool} {j} : EJ X Γ B (.Constant (.bool i) j pos) (.da (.bool i)) B := ej_c pe_bl fun _ => .bl i
theorem ej_str {i : Str} {j} : EJ X Γ B (.Constant (.str i) j pos) (.da (.str i)) B := ej_c pe_str fun _ => .str i
theorem ej_non {j} : EJ X Γ B (.Constant .none j pos) (.da .none) B := ej_c pe_non fun _ => .non
theorem ej_var (i : Nat) {x : Str} (h : Γ[i]? = some d) (hd : d ≠ .no) (hN : X.N[i]? = some x := by rfl)
    (hv : Vis X.env.scope x := by first | exact Or.inl rfl | exact Or.inr (Or.inl rfl) | exact Or.inr (Or.inr rfl))
    (h1 : (x == ("__debug__" : Str)) = false := by decide) (h2 : (x == ("__classdict__" : Str)) = false := by decide) : EJ X Γ B (.Name x pos) d B :=
  fun g σ H0 H E O Q q => let ⟨v, hs, r⟩ := E.at' i d h hd; ⟨_, pe_var hN hv h1 h2, v, hs, q v H0 H To.refl O r⟩
theorem ej_dat (i : Nat) {x : Str} {d : PyData} (h : Γ[i]? = some (.da d) := by rfl) (hN : X.N[i]? = some x := by rfl)
    (hv : Vis X.env.scope x := by first | exact Or.inl rfl | exact Or.inr (Or.inl rfl) | exact Or.inr (Or.inr rfl))
    (h1 : (x == ("__debug__" : Str)) = false := by decide) (h2 : (x == ("__classdict__" : Str)) = false := by decide) : EJ X Γ B (.Name x pos) (.da d) B :=
  ej_var i h (fun z => nomatch z) hN hv h1 h2
theorem ej_bag (i : Nat) {x : Str} (h : Γ[i]? = some .bag := by rfl) (hN : X.N[i]? = some x := by rfl)
    (hv : Vis X.env.scope x := by first | exact Or.inl rfl | exact Or.inr (Or.inl rfl) | exact Or.inr (Or.inr rfl))
    (h1 : (x == ("__debug__" : Str)) = false := by decide) (h2 : (x == ("__classdict__" : Str)) = false := by decide) : EJ X Γ B (.Name x pos) .bag B :=
  ej_var i h (fun z => nomatch z) hN hv h1 h2
theorem ej_un {r : V → Hp → VK → Prop} (ha : EJ X Γ B a da B1) (hp : ∀ t, PE X a t → PE X e (tUn r t))
    (hr : ∀ g v H0 H, On X.K g B1 H0 H → Rv X.K g H0 v da → ∀ Q : VK, (∀ z H0' H', To g H0 H H0' H' → On X.K g B1 H0' H' → Rv X.K g H0' z d → Q z H') → r v H Q) :
    EJ X Γ B e d B1 := fun g σ H0 H E O Q q =>
  ⟨_, hp _ (we a), ha g σ H0 H E O _ fun v H1 H' t o rv => hr g v H1 H' o rv Q fun z H2 H'' t2 o2 r2 => q z H2 H'' (t.trans t2) o2 r2⟩
theorem ej_bin {r : R2} (ha : EJ X Γ B a da B1) (hb : EJ X Γ B1 b db B2) (hp : ∀ t u, PE X a t → PE X b u → PE X e (tOp r t u))
    (hr : ∀ g v w H0 H, On X.K g B2 H0 H → Rv X.K g H0 v da → Rv X.K g H0 w db → ∀ Q : VK, (∀ z H0' H', To g H0 H H0' H' → On X.K g B2 H0' H' → Rv X.K g H0' z d → Q z H') → r v w H Q) :
    EJ X Γ B e d B2 := fun g σ H0 H E O Q q =>
  ⟨_, hp _ _ (we a) (we b), ha g σ H0 H E O _ fun v H1 H' t o rv => hb g σ H1 H' (E.mono t.ex) o _ fun w H2 H'' t2 o2 rw' =>
    hr g v w H2 H'' o2 (rv.mono t2.ex) rw' Q fun z H3 H3' t3 o3 r3 => q z H3 H3' ((t.trans t2).trans t3) o3 r3⟩
theorem rvI {K : PySem.W.Frag} {g : Gh} {H0 : Hp} {v : V} {i : Int} (h : Rv K g H0 v (.da (.int i))) : v = .int i := by
  have h : Rp K H0 v (.int i) := h
  cases h; rfl
theorem rvB {K : PySem.W.Frag} {g : Gh} {H0 : Hp} {v : V} {i : Bool} (h : Rv K g H0 v (.da (.bool i))) : v = .bl i := by
  have h : Rp K H0 v (.bool i) := h
  cases h; rfl
theorem rvS {K : PySem.W.Frag} {g : Gh} {H0 : Hp} {v : V} {i : Str} (h : Rv K g H0 v (.da (.str i))) : v = .str i := by
  have h : Rp K H0 v (.str i) := h
  cases h; rfl
theorem rvL {K : PySem.W.Frag} {g : Gh} {H0 : Hp} {v : V} {ds : List PyData} (h : Rv K g H0 v (.da (.list ds))) : ∃ a xs, v = .ref a ∧ H0 a = some (.lst xs) ∧ RpAll K H0 xs ds := by
  have h : Rp K H0 v (.list ds) := h
  cases h with
  | lst h1 r => exact ⟨_, _, rfl, h1, r⟩
theorem rvT {K : PySem.W.Frag} {g : Gh} {H0 : Hp} {v : V} {ds : List PyData} (h : Rv K g H0 v (.da (.tuple ds))) : ∃ a xs, v = .ref a ∧ SqT K H0 a xs ∧ RpAll K H0 xs ds := by
  have h : Rp K H0 v (.tuple ds) := h
  cases h with
  | tup h1 r => exact ⟨_, _, rfl, h1, r⟩
theorem ej_ii {i j : Int} {z : Int → Int → V} {y : PyData} {op : Operator} (ha : EJ X Γ B a (.da (.int i)) B1) (hb : EJ X Γ B1 b (.da (.int j)) B2)
    (ho : OpR X (binaryOp op) (rI0 z)) (hz : ∀ H0, Rp X.K H0 (z i j) y) : EJ X Γ B (.BinOp a op b pos) (.da y) B2 :=
  ej_bin ha hb (fun _ _ h1 h2 => pe_op ho h1 h2) fun g v w H0 H O r1 r2 Q q => ⟨i, j, rvI r1, rvI r2, q _ H0 H To.refl O (hz H0)⟩
theorem ej_iic {i j : Int} {C : Int → Int → Prop} {z : Int → Int → V} {y : PyData} {op : Operator} (ha : EJ X Γ B a (.da (.int i)) B1) (hb : EJ X Γ B1 b (.da (.int j)) B2)
    (ho : OpR X (binaryOp op) (rI C z)) (hc : C i j) (hz : ∀ H0, Rp X.K H0 (z i j) y) : EJ X Γ B (.BinOp a op b pos) (.da y) B2 :=
  ej_bin ha hb (fun _ _ h1 h2 => pe_op ho h1 h2) fun g v w H0 H O r1 r2 Q q => ⟨i, j, rvI r1, rvI r2, hc, q _ H0 H To.refl O (hz H0)⟩
theorem ej_add {i j : Int} (ha : EJ X Γ B a (.da (.int i)) B1) (hb : EJ X Γ B1 b (.da (.int j)) B2) : EJ X Γ B (.BinOp a .Add b pos) (.da (.int (i + j))) B2 :=
  ej_ii ha hb op_add fun _ => .int _
theorem ej_sub {i j : Int} (ha : EJ X Γ B a (.da (.int i)) B1) (hb : EJ X Γ B1 b (.da (.int j)) B2) : EJ X Γ B (.BinOp a .Sub b pos) (.da (.int (i - j))) B2 :=
  ej_ii ha hb op_sub fun _ => .int _
theorem ej_mul {i j : Int} (ha : EJ X Γ B a (.da (.int i)) B1) (hb : EJ X Γ B1 b (.da (.int j)) B2) (hc : CMulW i j) : EJ X Γ B (.BinOp a .Mult b pos) (.da (.int (i * j))) B2 :=
  ej_iic ha hb op_mulW hc fun _ => .int _
theorem ej_fdiv {i j : Int} (ha : EJ X Γ B a (.da (.int i)) B1) (hb : EJ X Γ B1 b (.da (.int j)) B2) (hc : CDivW i j) : EJ X Γ B (.BinOp a .FloorDiv b pos) (.da (.int (i / j))) B2 :=
  ej_iic ha hb op_fdivW hc fun _ => .int _
theorem ej_mod {i j : Int} (ha : EJ X Γ B a (.da (.int i)) B1) (hb : EJ X Γ B1 b (.da (.int j)) B2) (hc : 0 < j) : EJ X Γ B (.BinOp a .Mod b pos) (.da (.int (i % j))) B2 :=
  ej_iic ha hb op_mod hc fun _ => .int _
theorem ej_pow {i j : Int} (ha : EJ X Γ B a (.da (.int i)) B1) (hb : EJ X Γ B1 b (.da (.int j)) B2) (hc : CPow i j) : EJ X Γ B (.BinOp a .Pow b pos) (.da (.int (i ^ j.toNat))) B2 :=
  ej_iic ha hb op_pow hc fun _ => .int _
theorem ej_neg {i : Int} (ha : EJ X Γ B a (.da (.int i)) B1) : EJ X Γ B (.UnaryOp .USub a pos) (.da (.int (-i))) B1 :=
  ej_un ha (fun _ h => pe_un un_neg h) fun g v H0 H O r Q q => ⟨i, rvI r, q _ H0 H To.refl O (Rp.int _)⟩
theorem ej_cmpI {i j : Int} {z : Int → Int → V} {y : PyData} {op : CmpOp} (ha : EJ X Γ B a (.da (.int i)) B1) (hb : EJ X Γ B1 b (.da (.int j)) B2)
    (ho : OpR X (compareOp op) (rI0 z)) (hz : ∀ H0, Rp X.K H0 (z i j) y) (hm : behindInMarks op b = false) : EJ X Γ B (.Compare a [op] [b] pos) (.da y) B2 :=
  ej_bin ha hb (fun _ _ h1 h2 => pe_cmpR ho h1 h2 hm) fun g v w H0 H O r1 r2 Q q => ⟨i, j, rvI r1, rvI r2, q _ H0 H To.refl O (hz H0)⟩
theorem ej_lt {i j : Int} (ha : EJ X Γ B a (.da (.int i)) B1) (hb : EJ X Γ B1 b (.da (.int j)) B2) : EJ X Γ B (.Compare a [.Lt] [b] pos) (.da (.bool (decide (i < j)))) B2 :=
  ej_cmpI ha hb op_lt (fun _ => .bl _) (nomark _)
theorem ej_le {i j : Int} (ha : EJ X Γ B a (.da (.int i)) B1) (hb : EJ X Γ B1 b (.da (.int j)) B2) : EJ X Γ B (.Compare a [.LtE] [b] pos) (.da (.bool (decide (i ≤ j)))) B2 :=
  ej_cmpI ha hb op_le (fun _ => .bl _) (nomark _)
theorem ej_gt {i j : Int} (ha : EJ X Γ B a (.da (.int i)) B1) (hb : EJ X Γ B1 b (.da (.int j)) B2) : EJ X Γ B (.Compare a [.Gt] [b] pos) (.da (.bool (decide (j < i)))) B2 :=
  ej_cmpI ha hb op_gt (fun _ => .bl _) (nomark _)
theorem ej_ge {i j : Int} (ha : EJ X Γ B a (.da (.int i)) B1) (hb : EJ X Γ B1 b (.da (.int j)) B2) : EJ X Γ B (.Compare a [.GtE] [b] pos) (.da (.bool (decide (j ≤ i)))) B2 :=
  ej_cmpI ha hb op_ge (fun _ => .bl _) (nomark _)
theorem ej_eq {x y : PyData} (hu : X.A.units + 64 < cLine) (ha : EJ X Γ B a (.da x) B1) (hb : EJ X Γ B1 b (.da y) B2) (hx : SeqAt.shaped x = true) (hy : SeqAt.shaped y = true) :
    EJ X Γ B (.Compare a [.Eq] [b] pos) (.da (.bool (PyData.eqv x y))) B2 :=
  ej_bin ha hb (fun _ _ h1 h2 => pe_cmpR (op_eqD hu) h1 h2 (nomark _)) fun g v w H0 H O r1 r2 Q q =>
    ⟨x, y, (Rp.mono O.ex r1).dp (nd_shaped hx), (Rp.mono O.ex r2).dp (nd_shaped hy), hx, hy, q _ H0 H To.refl O (Rp.bl _)⟩
theorem ej_ne {x y : PyData} (hu : X.A.units + 64 < cLine) (ha : EJ X Γ B a (.da x) B1) (hb : EJ X Γ B1 b (.da y) B2) (hx : SeqAt.shaped x = true) (hy : SeqAt.shaped y = true) :
    EJ X Γ B (.Compare a [.NotEq] [b] pos) (.da (.bool (!PyData.eqv x y))) B2 :=
  ej_bin ha hb (fun _ _ h1 h2 => pe_cmpR (op_neD hu) h1 h2 (nomark _)) fun g v w H0 H O r1 r2 Q q =>
    ⟨x, y, (Rp.mono O.ex r1).dp (nd_shaped hx), (Rp.mono O.ex r2).dp (nd_shaped hy), hx, hy, q _ H0 H To.refl O (Rp.bl _)⟩
theorem ej_eqS {i j : Str} (ha : EJ X Γ B a (.da (.str i)) B1) (hb : EJ X Γ B1 b (.da (.str j)) B2) : EJ X Γ B (.Compare a [.Eq] [b] pos) (.da (.bool (decide (i = j)))) B2 :=
  ej_bin ha hb (fun _ _ h1 h2 => pe_cmpR op_eq h1 h2 (nomark _)) fun g v w H0 H O r1 r2 Q q => by
    rw [rvS r1, rvS r2]
    have e : decide (V.str i = V.str j) = decide (i = j) := by
      by_cases h : i = j
      · subst h; simp
      · rw [decide_eq_false h, decide_eq_false fun z => h (V.str.inj z)]
    refine ⟨rfl, ?_⟩
    rw [e]; exact q _ H0 H To.refl O (Rp.bl _)
theorem ej_ixT {ds : List PyData} {i : Int} {y : PyData} (ha : EJ X Γ B a (.da (.tuple ds)) B1) (hb : EJ X Γ B1 b (.da (.int i)) B2) (h : atI ds i = some y) (hs : PlainIx b) :
    EJ X Γ B (.Subscript a b pos) (.da y) B2 :=
  ej_bin ha hb (fun _ _ h1 h2 => pe_ix ix_tup h1 h2 hs) fun g v w H0 H O r1 r2 Q q => by
    obtain ⟨p, xs, rfl, hx, rs⟩ := rvT r1
    obtain ⟨j, h1, h2⟩ := Option.bind_eq_some_iff.mp h
    rw [← rs.length] at h1
    obtain ⟨z, h3, h4⟩ := rs.getD h2
    exact ⟨p, xs, i, z, rfl, rvI r2, seqT O.ex hx, Option.bind_eq_some_iff.mpr ⟨j, h1, h3⟩, q z H0 H To.refl O h4⟩
theorem ej_ixL {ds : List PyData} {i : Int} {y : PyData} (ha : EJ X Γ B a (.da (.list ds)) B1) (hb : EJ X Γ B1 b (.da (.int i)) B2) (h : atI ds i = some y) (hs : PlainIx b) :
    EJ X Γ B (.Subscript a b pos) (.da y) B2 :=
  ej_bin ha hb (fun _ _ h1 h2 => pe_ix ix_list h1 h2 hs) fun g v w H0 H O r1 r2 Q q => by
    obtain ⟨p, xs, rfl, hx, rs⟩ := rvL r1
    obtain ⟨j, h1, h2⟩ := Option.bind_eq_some_iff.mp h
    rw [← rs.length] at h1
    obtain ⟨z, h3, h4⟩ := rs.getD h2
    exact ⟨p, xs, i, z, rfl, rvI r2, SqL.of (O.ex _ _ hx), Option.bind_eq_some_iff.mpr ⟨j, h1, h3⟩, q z H0 H To.refl O h4⟩
theorem aj_nil : AJ X Γ B [] [] B := fun g σ H0 H _ O Q q => ⟨_, pa_nil, q [] H0 H To.refl O trivial⟩
theorem aj_cons {ds : List VD} (h : EJ X Γ B e d B1) (r : AJ X Γ B1 es ds B2) (hs : starEach (e :: es) X.env = (false, eval e X.env) :: starEach es X.env := by rfl) :
    AJ X Γ B (e :: es) (d :: ds) B2 := fun g σ H0 H E O Q q =>
  ⟨_, pa_cons (we e) (wa es) hs, h g σ H0 H E O _ fun v H1 H' t o rv => r g σ H1 H' (E.mono t.ex) o _ fun vs H2 H'' t2 o2 rs => q (v :: vs) H2 H'' (t.trans t2) o2 ⟨rv.mono t2.ex, rs⟩⟩
theorem RvAll.dat {K : PySem.W.Frag} {g : Gh} {H0 : Hp} : ∀ {vs : List V} {ds : List PyData}, RvAll K g H0 vs (ds.map .da) → RpAll K H0 vs ds
  | [], [], _ => .nil
  | _ :: _, _ :: _, h => .cons h.1 (RvAll.dat h.2)
  | [], _ :: _, h => h.elim
  | _ :: _, [], h => h.elim
theorem ej_tup {ds : List PyData} {k} (h : AJ X Γ B es (ds.map .da) B1) (hl : ds.length ≤ 1000) : EJ X Γ B (.Tuple es k pos) (.da (.tuple ds)) B1 := fun g σ H0 H E O Q q =>
  ⟨_, pe_tup (wa es), h g σ H0 H E O _ fun vs H1 H' t o rs => by
    have rs := RvAll.dat rs
    refine ⟨by rw [rs.length]; exact Nat.le_of_lt (small1000 hl), fun p n => ?_⟩
    obtain ⟨t2, o2⟩ := laid (o := .tup vs) o n
    exact q _ _ _ (t.trans t2) o2 (Rp.tup (SqT.of upd_same) (rs.mono t2.ex))⟩
theorem ej_lst {ds : List PyData} (h : AJ X Γ B es (ds.map .da) B1) (hl : ds.length ≤ 1000) : EJ X Γ B (.List es pos) (.da (.list ds)) B1 := fun g σ H0 H E O Q q =>
  ⟨_, pe_lst (wa es), h g σ H0 H E O _ fun vs H1 H' t o rs => by
    have rs := RvAll.dat rs
    refine ⟨by rw [rs.length]; exact Nat.le_of_lt (small1000 hl), fun p n => ?_⟩
    obtain ⟨t2, o2⟩ := laid (o := .lst vs) o n
    exact q _ _ _ (t.trans t2) o2 (Rp.lst upd_same (rs.mono t2.ex))⟩
theorem ej_catL {ds es' : List PyData} (ha : EJ X Γ B a (.da (.list ds)) B1) (hb : EJ X Γ B1 b (.da (.list es')) B2) (hl : ds.length + es'.length ≤ 1000) :
    EJ X Γ B (.BinOp a .Add b pos) (.da (.list (ds ++ es'))) B2 :=
  ej_bin ha hb (fun _ _ h1 h2 => pe_op op_cat h1 h2) fun g v w H0 H O r1 r2 Q q => by
    obtain ⟨p, xs, rfl, hx, rs⟩ := rvL r1
    obtain ⟨p2, ys, rfl, hy, rs2⟩ := rvL r2
    refine ⟨p, p2, xs, ys, rfl, rfl, O.ex _ _ hx, O.ex _ _ hy, by rw [rs.length, rs2.length]; exact Nat.le_of_lt (small1000 hl), fun n hn => ?_⟩
    obtain ⟨t2, o2⟩ := laid (o := .lst (xs ++ ys)) O hn
    exact q _ _ _ t2 o2 (Rp.lst upd_same ((rs.app rs2).mono t2.ex))
theorem ej_catT {ds es' : List PyData} (ha : EJ X Γ B a (.da (.tuple ds)) B1) (hb : EJ X Γ B1 b (.da (.tuple es')) B2) (hl : ds.length + es'.length ≤ 1000) :
    EJ X Γ B (.BinOp a .Add b pos) (.da (.tuple (ds ++ es'))) B2 :=
  ej_bin ha hb (fun _ _ h1 h2 => pe_op op_catA h1 h2) fun g v w H0 H O r1 r2 Q q => by
    obtain ⟨p, xs, rfl, hx, rs⟩ := rvT r1
    obtain ⟨p2, ys, rfl, hy, rs2⟩ := rvT r2
    refine ⟨p, p2, xs, ys, rfl, rfl, seqT O.ex hx, seqT O.ex hy, by rw [rs.length, rs2.length]; exact Nat.le_of_lt (small1000 hl), fun e => ?_, fun _ e => ?_, fun _ _ n hn => ?_⟩
    · subst e
      cases rs
      exact q _ _ _ To.refl O (Rp.tup hy rs2)
    · subst e
      cases rs2
      rw [List.append_nil] at q
      exact q _ _ _ To.refl O (Rp.tup hx rs)
    · obtain ⟨t2, o2⟩ := laid (o := .tup (xs ++ ys)) O hn
      exact q _ _ _ t2 o2 (Rp.tup (SqT.of upd_same) ((rs.app rs2).mono t2.ex))
end
end Gd
namespace Gd
open PySem PySem.Spec PyProof.Rows L2
structure FnG (P : Program) (w : World) (K : PySem.W.Frag) (mg : Str → Option Value)
    (base : Heap) (k : Nat) (f : Addr) (fd : FuncData) (ps : List Str) (sp : Sp) : Prop where
  len : ∀ vs H Q E, sp vs H Q E → List.length vs = ps.length
  run : ∀ (A : Around) (out : List Env) (s : Shared) (H : Hp) (args : Args) (us : List Value) (vs : List V) (Q : VK) (E : XK),
    A.guards = some [] → Room k A → Env0 P w K mg base A out s H → BindsTo s fd args (ps.zip us) →
    Vals vs us → sp vs H Q E → codeAny (model P w) A (.call (.ref f) args) (CR CX0 out P w H s Q E) s
theorem FnG.le {P : Program} {w : World} {K : PySem.W.Frag} {mg : Str → Option Value} {base : Heap} {j k : Nat} {f : Addr} {fd : FuncData} {ps : List Str} {sp : Sp}
    (F : FnG P w K mg base j f fd ps sp) (h : j ≤ k) : FnG P w K mg base k f fd ps sp :=
  ⟨F.len, fun A o s H ar us vs Q E hg hr => F.run A o s H ar us vs Q E hg (hr.mono h)⟩
structure Gx (k : Nat) (X : Cx) : Prop where
  gd : X.A.guards = some []
  rm : Room k X.A
  nd : X.N.Nodup
  calm : X.calm = true
theorem Gx.hu {k : Nat} {X : Cx} (g : Gx k X) : X.A.units + 64 < cLine := g.rm.units
theorem Gx.le {j k : Nat} {X : Cx} (g : Gx k X) (h : j ≤ k) : Gx j X := ⟨g.gd, g.rm.mono h, g.nd, g.calm⟩
theorem runG {X : Cx} {k : Nat} {f : Addr} {fd : FuncData} {ps : List Str} {sp : Sp} {E : XK} {pins : List (Addr × Obj)} {σ : L2.St} {H : Hp} {s : Shared}
    {Q : VK} {us : List Value} {vs : List V} (F : FnG X.prog X.w X.K X.mg X.base k f fd ps sp) (g : Gx k X) (hb : Binds X.K fd ps [])
    (I : Inv X pins σ H s) (r : Vals vs us) (h : sp vs H Q E) : wpAny (model X.prog X.w) X.A (call (.ref f) us) (EP X pins σ Q) X.xe s := by
  have e : us.length = ps.length := r.length.symm.trans (F.len _ _ _ _ h)
  have hz := hb s us I.kIn (by rw [List.append_nil]; exact e)
  rw [List.append_nil] at hz
  have cc := F.run X.A X.stack s H ⟨us, []⟩ us vs Q E g.gd g.rm I.env0 hz r h
  refine wpAny_call (codeAny_mono cc fun res s2 q => ?_)
  match res, q with
  | .ok (.ret _), q => exact I.after q
  | .ok .next, q => exact q.elim
  | .ok .brk, q => exact q.elim
  | .ok .cont, q => exact q.elim
  | .error _, q => exact q.elim
theorem fnG_of {P : Program} {w : World} {K : PySem.W.Frag} {mg : Str → Option Value} {base : Heap} {x qual : Str} {st : Stmt} {f : Addr} {fd : FuncData}
    {N ps : List Str} {k : Nat} {sp : Sp} (F : Fun K x qual st f fd) (S : FnScope N ps (defScope st)) (len : ∀ vs H Q E, sp vs H Q E → vs.length = ps.length)
    (body : ∀ (cdv : Value) (A : Around) (out : List Env) (s : Shared) (H : Hp) (vs : List V) (Q : VK) (E : XK),
      Gx k (cxOf CX0 P w K mg base N qual (defScope st) f cdv A out s H E).nox → sp vs H Q E →
      WS (cxOf CX0 P w K mg base N qual (defScope st) f cdv A out s H E).nox (defBody st) { nx := fun _ H' => Q .non H', rt := Q } (L2.start N vs) H) :
    FnG P w K mg base (k + 1) f fd ps sp := by
  obtain ⟨c1, c2, c3, c4, c5, c6, cdv, c8, c9, rfl, lk, hcd⟩ := F.ex
  refine ⟨len, ?_⟩
  intro A out s H args us vs Q E hg hr e0 hb r hsp
  have up : ∀ b o, base.get? b = some o → s.heap.get? b = some o := fun b o e => (e0.bs b o e).1
  have KX : K.In s.heap := e0.mod.kin.keeps up
  have lim : s.heap.NoLimit := e0.mod.nolimit.keeps up
  have kinds : ∀ y ∈ ps.zip us, (defScope st).names.lookup y.1 = some .local ∨
      ((defScope st).names.lookup y.1 = some .cell ∧ ((cellsFrom (s.heap.objs.size + 1) (defScope st).names []).lookup y.1).isSome = true) := by
    rintro ⟨n, v⟩ hy
    cases S.par n (List.of_mem_zip hy).1 with
    | inl q => exact .inl q
    | inr q => exact .inr ⟨q, PySem.W.cellsFrom_some _ _ _ (.inl q)⟩
  have recd := PySem.W.codeRec_of KX hcd
  refine codeAny_call_function hr.depth (KX _ _ lk) rfl S.co S.gen rfl recd (hb _ _ _ _ ?_)
  refine wpAny_newFunctionEnv_cells S.kind kinds fun env he s1 x1 => ?_
  subst he
  refine ⟨lim.keeps x1.toInCall.keep, codeAny_func ?_⟩
  have I := inv_start (CX := CX0) (E := E) (qual := qual) (f := f) (cd := cdv) S hr.hd e0 (len _ _ _ _ hsp) r x1
  have G : Gx k (cxOf CX0 P w K mg base N qual (defScope st) f cdv A out s H E).nox := ⟨hg, hr.deeper _, S.nd, rfl⟩
  obtain ⟨t, ht, hq⟩ := body cdv A out s H vs Q E G hsp
  refine wpAny_mono (ht.nox.run [] s1 (L2.start N vs) H _ I hq) (fun fl s2 q => ?_) (fun _ _ q => q)
  match fl, q with
  | .ret u, ⟨v, σ', H', J, rv, q⟩ => exact ⟨v, H', J.os, J.bare, J.base, J.hok, rv, q⟩
  | .next, ⟨σ', H', J, q⟩ => exact ⟨.non, H', J.os, J.bare, J.base, J.hok, rfl, q⟩
  | .brk, ⟨_, _, _, q⟩ => exact q.elim
  | .cont, ⟨_, _, _, q⟩ => exact q.elim
abbrev Rel := List VD → Bag → PyData → Bag → Prop
def DefSp (K : PySem.W.Frag) (R : Rel) : Sp := fun vs H Q _ =>
  ∃ g Γ B H0 r B', RvAll K g H0 vs Γ ∧ On K g B H0 H ∧ R Γ B r B' ∧
    ∀ v H0' H', To g H0 H H0' H' → On K g B' H0' H' → Rp K H0' v r → Q v H'
def Cal (P : Program) (w : World) (K : PySem.W.Frag) (mg : Str → Option Value) (base : Heap) (x : Str) (k : Nat) (R : Rel) : Prop :=
  ∃ f fd ps, FnG P w K mg base k f fd ps (DefSp K R) ∧ mg x = some (.ref f) ∧ PySem.W.keepIn K (.ref f) = true ∧ Binds K fd ps []
theorem Cal.imp {P : Program} {w : World} {K : PySem.W.Frag} {mg : Str → Option Value} {base : Heap} {x : Str} {k : Nat} {R R' : Rel}
    (c : Cal P w K mg base x k R) (h : ∀ Γ B r B', R' Γ B r B' → R Γ B r B') : Cal P w K mg base x k R' := by
  obtain ⟨f, fd, ps, F, h1, h2, h3⟩ := c
  refine ⟨f, fd, ps, ⟨?_, ?_⟩, h1, h2, h3⟩
  · rintro vs H Q E ⟨g, Γ, B, H0, r, B', a, b, c, d⟩
    exact F.len vs H Q E ⟨g, Γ, B, H0, r, B', a, b, h _ _ _ _ c, d⟩
  · intro A o s H ar us vs Q E q1 q2 q3 q4 q5 ⟨g, Γ, B, H0, r, B', a, b, c, d⟩
    exact F.run A o s H ar us vs Q E q1 q2 q3 q4 q5 ⟨g, Γ, B, H0, r, B', a, b, h _ _ _ _ c, d⟩
theorem start_env {K : PySem.W.Frag} {g : Gh} {H0 : Hp} {N : List Str} {vs : List V} {Γ : List VD} (h : RvAll K g H0 vs Γ) (hl : Γ.length ≤ N.length) :
    EnvD K g H0 (L2.start N vs) (Γ ++ List.replicate (N.length - Γ.length) .no) := by
  have e := h.length
  refine ⟨?_, ?_⟩
  · unfold L2.start; rw [List.length_append, List.length_append, List.length_map, List.length_replicate, List.length_replicate]; omega
  · have : ∀ (vs : List V) (Γ : List VD) (m n : Nat), RvAll K g H0 vs Γ → ∀ (i : Nat) (d : VD), (Γ ++ List.replicate m .no)[i]? = some d → d ≠ .no →
        ∃ v : V, (vs.map some ++ List.replicate n (none : Option V))[i]? = some (some v) ∧ Rv K g H0 v d := by
      intro vs
      induction vs with
      | nil =>
        intro Γ m n h i d h1 h2
        cases Γ with
        | nil =>
          rw [List.nil_append, List.getElem?_replicate] at h1
          split at h1
          · cases h1; exact absurd rfl h2
          · cases h1
        | cons _ _ => exact h.elim
      | cons v vs ih =>
        intro Γ m n h i d h1 h2
        cases Γ with
        | nil => exact h.elim
        | cons d' Γ =>
          cases i with
          | zero => cases h1; exact ⟨v, rfl, h.1⟩
          | succ i => exact ih Γ m n h.2 i d h1 h2
    unfold L2.start
    exact this vs Γ _ _ h
theorem cal_of {P : Program} {w : World} {K : PySem.W.Frag} {mg : Str → Option Value} {base : Heap} {x qual : Str} {st : Stmt} {f : Addr} {fd : FuncData}
    {N ps : List Str} {k : Nat} {R : Rel} (F : Fun K x qual st f fd) (hm : mg x = some (.ref f)) (hb : Binds K fd ps []) (S : FnScope N ps (defScope st))
    (len : ∀ Γ B r B', R Γ B r B' → Γ.length = ps.length)
    (body : ∀ (cdv : Value) (A : Around) (out : List Env) (s : Shared) (H : Hp) (E : XK),
      Gx k (cxOf CX0 P w K mg base N qual (defScope st) f cdv A out s H E).nox → ∀ Γ B r B', R Γ B r B' →
      SJ (cxOf CX0 P w K mg base N qual (defScope st) f cdv A out s H E).nox (Γ ++ List.replicate (N.length - ps.length) .no) B (defBody st)
        { nx := fun _ B2 => r = .none ∧ B2 = B', rt := fun d B2 => d = r ∧ B2 = B' }) :
    Cal P w K mg base x (k + 1) R := by
  have hpl : ps.length ≤ N.length := by
    have := congrArg List.length S.pre
    rw [List.length_take] at this; omega
  refine ⟨f, fd, ps, fnG_of F S ?_ ?_, hm, F.kp, hb⟩
  · rintro vs H Q E ⟨g, Γ, B, H0, r, B', a, b, c, d⟩
    rw [a.length]; exact len _ _ _ _ c
  · intro cdv A out s H vs Q E G ⟨g, Γ, B, H0, r, B', a, b, c, d⟩
    have hl := len _ _ _ _ c
    have E0' := start_env (N := N) a (by rw [hl]; exact hpl)
    rw [hl] at E0'
    refine body cdv A out s H E G Γ B r B' c g _ H0 H E0' b _ ⟨?_, ?_, ?_, ?_⟩
    · rintro Γ2 B2 σ H1 H' ⟨rfl, rfl⟩ t _ o
      exact d _ _ _ t o .non
    · rintro r2 B2 v H1 H' ⟨rfl, rfl⟩ t o rv
      exact d _ _ _ t o rv
    · intro _ _ _ _ _ z; exact z.elim
    · intro _ _ _ _ _ z; exact z.elim
section
variable {X : Cx} {Γ : List VD} {B B1 B2 B' : Bag} {e a b c : Expr} {es : List Expr} {d da db dc : VD} {pos p pos' : Pos} {rest ss s1 s2 : List Stmt} {E : En}
theorem ej_call {x : Str} {k : Nat} {R : Rel} {ds : List VD} {r : PyData} (c : Cal X.prog X.w X.K X.mg X.base x k R) (g : Gx k X) (ha : AJ X Γ B (e :: es) ds B1) (hR : R ds B1 r B2)
    (hg : Gl X x := by rfl) (hdb : (x == ("__debug__" : Str)) = false := by decide) (he : starEach (e :: es) X.env = (false, eval e X.env) :: starEach es X.env := by rfl)
    (hpl : (backTo pos (starEach es X.env)).any (·.1) = false := by rfl) : EJ X Γ B (.Call (.Name x p) (e :: es) [] pos) (.da r) B2 := by
  obtain ⟨f, fd, ps, F, hm, hk, hb⟩ := c
  intro gh σ H0 H E O Q q
  refine ⟨fun σ H Q => WA X (e :: es) σ H fun vs H1 => DefSp X.K R vs H1 Q E0, ⟨fun pins s σ H Q I h => ?_⟩, ?_⟩
  · refine wpAny_Call_Name_kw (ld_glob I hg hm ?_ hdb)
    refine PySem.W.callWith_K (h₀ := X.base) I.ok.mod.kin hk (thn ((wa (e :: es)).run pos pins s σ H _ I h) ?_) he hpl
    rintro us s1 ⟨vs, H1, I1, r1, q1⟩
    exact ⟨I1.kIn, runG F g hb I1 r1 q1⟩
  · refine ha gh σ H0 H E O _ fun vs H1 H' t o rs => ?_
    exact ⟨gh, ds, B1, H1, r, B2, rs, o, hR, fun v H2 H'' t2 o2 rv => q v H2 H'' (t.trans t2) o2 rv⟩
theorem ej_callB {x : Str} {id : String} {r : List V → Hp → VK → Prop} {ds : List VD} (hc : CallR X (.builtin id) r) (hm : X.mg x = none) (ha : AJ X Γ B (e :: es) ds B1)
    (hr : ∀ g vs H0 H, On X.K g B1 H0 H → RvAll X.K g H0 vs ds → ∀ Q : VK, (∀ z H0' H', To g H0 H H0' H' → On X.K g B1 H0' H' → Rv X.K g H0' z d → Q z H') → r vs H Q)
    (hv : bootBuiltins x = some (.builtin id) := by decide +kernel) (hg : Gl X x := by rfl) (hn : x ≠ "__name__" := by decide) (hdb : (x == ("__debug__" : Str)) = false := by decide)
    (hpl : (backTo pos (starEach es X.env)).any (·.1) = false := by rfl) (he : starEach (e :: es) X.env = (false, eval e X.env) :: starEach es X.env := by rfl) :
    EJ X Γ B (.Call (.Name x p) (e :: es) [] pos) d B1 := fun g σ H0 H E O Q q =>
  ⟨_, pe_callB hc hg hm hv (wa (e :: es)) hn hdb he hpl, ha g σ H0 H E O _ fun vs H1 H' t o rs => hr g vs H1 H' o rs Q fun z H2 H'' t2 o2 rz => q z H2 H'' (t.trans t2) o2 rz⟩
theorem ej_callTy {x : Str} {T : String} {r : List V → Hp → VK → Prop} {ds : List VD} (hc : CallR X (.type T) r) (hm : X.mg x = none) (ha : AJ X Γ B (e :: es) ds B1)
    (hr : ∀ g vs H0 H, On X.K g B1 H0 H → RvAll X.K g H0 vs ds → ∀ Q : VK, (∀ z H0' H', To g H0 H H0' H' → On X.K g B1 H0' H' → Rv X.K g H0' z d → Q z H') → r vs H Q)
    (hv : bootBuiltins x = some (.type T) := by decide +kernel) (hg : Gl X x := by rfl) (hn : x ≠ "__name__" := by decide) (hdb : (x == ("__debug__" : Str)) = false := by decide)
    (hpl : (backTo pos (starEach es X.env)).any (·.1) = false := by rfl) (he : starEach (e :: es) X.env = (false, eval e X.env) :: starEach es X.env := by rfl) :
    EJ X Γ B (.Call (.Name x p) (e :: es) [] pos) d B1 := fun g σ H0 H E O Q q =>
  ⟨_, pe_callTy hc hg hm hv (wa (e :: es)) hn hdb he hpl, ha g σ H0 H E O _ fun vs H1 H' t o rs => hr g vs H1 H' o rs Q fun z H2 H'' t2 o2 rz => q z H2 H'' (t.trans t2) o2 rz⟩
theorem rv1 {K : PySem.W.Frag} {g : Gh} {H0 : Hp} {vs : List V} {d : VD} (h : RvAll K g H0 vs [d]) : ∃ v, vs = [v] ∧ Rv K g H0 v d := by
  match vs, h with
  | [v], h => exact ⟨v, rfl, h.1⟩
theorem rv2 {K : PySem.W.Frag} {g : Gh} {H0 : Hp} {vs : List V} {d d' : VD} (h : RvAll K g H0 vs [d, d']) : ∃ v v', vs = [v, v'] ∧ Rv K g H0 v d ∧ Rv K g H0 v' d' := by
  match vs, h with
  | [v, v'], h => exact ⟨v, v', rfl, h.1, h.2.1⟩
theorem ej_abs {i : Int} (hm : X.mg "abs" = none) (ha : EJ X Γ B a (.da (.int i)) B1) (hs : starEach [a] X.env = [(false, eval a X.env)] := by rfl) (hg : Gl X "abs" := by rfl) :
    EJ X Γ B (.Call (.Name "abs" p) [a] [] pos) (.da (.int (if i < 0 then -i else i))) B1 :=
  ej_callB call_abs hm (aj_cons ha aj_nil hs) (fun g vs H0 H O r Q q => by
    obtain ⟨v, rfl, h⟩ := rv1 r
    exact ⟨i, by rw [rvI h], q _ _ _ To.refl O (Rp.int _)⟩) (hg := hg) (he := hs)
theorem ej_int1 {i : Int} (hm : X.mg "int" = none) (ha : EJ X Γ B a (.da (.int i)) B1) (hs : starEach [a] X.env = [(false, eval a X.env)] := by rfl) (hg : Gl X "int" := by rfl) :
    EJ X Γ B (.Call (.Name "int" p) [a] [] pos) (.da (.int i)) B1 :=
  ej_callTy call_int1 hm (aj_cons ha aj_nil hs) (fun g vs H0 H O r Q q => by
    obtain ⟨v, rfl, h⟩ := rv1 r
    exact .inl ⟨i, by rw [rvI h], q _ _ _ To.refl O (Rp.int _)⟩) (hg := hg) (he := hs)
theorem ej_intB {i : Bool} (hm : X.mg "int" = none) (ha : EJ X Γ B a (.da (.bool i)) B1) (hs : starEach [a] X.env = [(false, eval a X.env)] := by rfl) (hg : Gl X "int" := by rfl) :
    EJ X Γ B (.Call (.Name "int" p) [a] [] pos) (.da (.int (if i then 1 else 0))) B1 :=
  ej_callTy call_int1 hm (aj_cons ha aj_nil hs) (fun g vs H0 H O r Q q => by
    obtain ⟨v, rfl, h⟩ := rv1 r
    exact .inr ⟨i, by rw [rvB h], q _ _ _ To.refl O (Rp.int _)⟩) (hg := hg) (he := hs)
theorem ej_lenL {ds : List PyData} (hm : X.mg "len" = none) (ha : EJ X Γ B a (.da (.list ds)) B1) (hs : starEach [a] X.env = [(false, eval a X.env)] := by rfl) (hg : Gl X "len" := by rfl) :
    EJ X Γ B (.Call (.Name "len" p) [a] [] pos) (.da (.int ds.length)) B1 :=
  ej_callB call_len_seq hm (aj_cons ha aj_nil hs) (fun g vs H0 H O r Q q => by
    obtain ⟨v, rfl, h⟩ := rv1 r
    obtain ⟨p, xs, rfl, hx, rs⟩ := rvL h
    refine ⟨p, xs, rfl, .inl (SqL.of (O.ex _ _ hx)), ?_⟩
    rw [rs.length]; exact q _ _ _ To.refl O (Rp.int _)) (hg := hg) (he := hs)
theorem ej_lenT {ds : List PyData} (hm : X.mg "len" = none) (ha : EJ X Γ B a (.da (.tuple ds)) B1) (hs : starEach [a] X.env = [(false, eval a X.env)] := by rfl) (hg : Gl X "len" := by rfl) :
    EJ X Γ B (.Call (.Name "len" p) [a] [] pos) (.da (.int ds.length)) B1 :=
  ej_callB call_len_seq hm (aj_cons ha aj_nil hs) (fun g vs H0 H O r Q q => by
    obtain ⟨v, rfl, h⟩ := rv1 r
    obtain ⟨p, xs, rfl, hx, rs⟩ := rvT h
    refine ⟨p, xs, rfl, .inr (seqT O.ex hx), ?_⟩
    rw [rs.length]; exact q _ _ _ To.refl O (Rp.int _)) (hg := hg) (he := hs)
structure Shows (d : PyData) : Prop where
  sh : d.showable = true
  nd : d.hasDict = false
  dp : d.depth ≤ 60
  len : d.shown.length ≤ sizeLine
theorem call_repr {k : Nat} (g : Gx k X) : CallR X (.builtin "repr") (fun xs H Q => ∃ x d, xs = [x] ∧ Dp X.K H x d ∧ (∃ p, x = .ref p) ∧ Shows d ∧ Q (.str d.shown) H) := by
  intro pins s σ H xs us Q I rr h
  obtain ⟨x, d, rfl, hd, ⟨p, rfl⟩, S, q⟩ := h
  obtain ⟨u, rfl, rx⟩ := vals1 rr
  cases (show u = Value.ref p from rx)
  obtain ⟨as, rd⟩ := Dp.reads I d (.ref p) (.ref p) hd rfl
  have hu := g.rm.un
  refine repr_of_reads' rd S.sh (fun z => by rw [S.nd] at z; cases z) g.gd (by have := S.dp; omega) (fun _ _ e => e) (fun h' u tk kp => ?_) S.len
  exact ⟨.str d.shown, H, I.kept (t' := tk) kp, ⟨u, rfl⟩, q⟩
def boxed : PyData → Bool
  | .list _ => true
  | .tuple _ => true
  | _ => false
theorem ej_repr {k : Nat} {y : PyData} (g : Gx k X) (hm : X.mg "repr" = none) (ha : EJ X Γ B a (.da y) B1) (hb : boxed y = true) (S : Shows y)
    (hs : starEach [a] X.env = [(false, eval a X.env)] := by rfl) (hg : Gl X "repr" := by rfl) :
    EJ X Γ B (.Call (.Name "repr" p) [a] [] pos) (.da (.str y.shown)) B1 :=
  ej_callB (call_repr g) hm (aj_cons ha aj_nil hs) (fun gh vs H0 H O r Q q => by
    obtain ⟨v, rfl, h⟩ := rv1 r
    have h : Rp X.K H0 v y := h
    refine ⟨v, y, rfl, (h.mono O.ex).dp S.nd, ?_, S, q _ _ _ To.refl O (Rp.str _)⟩
    cases h with
    | lst _ _ => exact ⟨_, rfl⟩
    | tup _ _ => exact ⟨_, rfl⟩
    | non => cases hb
    | bl _ => cases hb
    | int _ => cases hb
    | str _ => cases hb
    | dct _ => cases hb
    | dctT _ _ => cases hb) (hg := hg) (he := hs)
theorem tj_val {x : Bool} (h : EJ X Γ B e (.da (.bool x)) B1) (he : ∀ whole, isTrue e X.env whole = (do let v ← whole; standAt e.pos; holding [v] (truthy v)) := by intro _; rfl) :
    TJ X Γ B e x B1 := fun g σ H0 H E O Q q => ⟨_, pt_val (we e) he, h g σ H0 H E O _ fun v H1 H' t o r => ⟨x, rvB r, q H1 H' t o⟩⟩
theorem tj_cmp {op : CmpOp} {x : Bool} {r : R2} (ha : EJ X Γ B a da B1) (hb : EJ X Γ B1 b db B2) (ho : OpR X (compareOp op) r) (hm : behindInMarks op b = false)
    (hr : ∀ g v w H0 H, On X.K g B2 H0 H → Rv X.K g H0 v da → Rv X.K g H0 w db → ∀ Q : VK, (∀ H0' H', To g H0 H H0' H' → On X.K g B2 H0' H' → Q (.bl x) H') → r v w H Q) :
    TJ X Γ B (.Compare a [op] [b] pos) x B2 := fun g σ H0 H E O Q q =>
  ⟨_, pt_cmpR ho (we a) (we b) hm, ha g σ H0 H E O _ fun v H1 H' t o rv => hb g σ H1 H' (E.mono t.ex) o _ fun w H2 H'' t2 o2 rw' =>
    hr g v w H2 H'' o2 (rv.mono t2.ex) rw' _ fun H3 H3' t3 o3 => ⟨x, rfl, q H3 H3' ((t.trans t2).trans t3) o3⟩⟩
theorem tj_cmpI {i j : Int} {z : Int → Int → V} {y : Bool} {op : CmpOp} (ha : EJ X Γ B a (.da (.int i)) B1) (hb : EJ X Γ B1 b (.da (.int j)) B2)
    (ho : OpR X (compareOp op) (rI0 z)) (hz : z i j = .bl y) (hm : behindInMarks op b = false) : TJ X Γ B (.Compare a [op] [b] pos) y B2 :=
  tj_cmp ha hb ho hm fun g v w H0 H O r1 r2 Q q => ⟨i, j, rvI r1, rvI r2, by rw [hz]; exact q H0 H To.refl O⟩
theorem tj_lt {i j : Int} (ha : EJ X Γ B a (.da (.int i)) B1) (hb : EJ X Γ B1 b (.da (.int j)) B2) : TJ X Γ B (.Compare a [.Lt] [b] pos) (decide (i < j)) B2 := tj_cmpI ha hb op_lt rfl (nomark _)
theorem tj_le {i j : Int} (ha : EJ X Γ B a (.da (.int i)) B1) (hb : EJ X Γ B1 b (.da (.int j)) B2) : TJ X Γ B (.Compare a [.LtE] [b] pos) (decide (i ≤ j)) B2 := tj_cmpI ha hb op_le rfl (nomark _)
theorem tj_gt {i j : Int} (ha : EJ X Γ B a (.da (.int i)) B1) (hb : EJ X Γ B1 b (.da (.int j)) B2) : TJ X Γ B (.Compare a [.Gt] [b] pos) (decide (j < i)) B2 := tj_cmpI ha hb op_gt rfl (nomark _)
theorem tj_ge {i j : Int} (ha : EJ X Γ B a (.da (.int i)) B1) (hb : EJ X Γ B1 b (.da (.int j)) B2) : TJ X Γ B (.Compare a [.GtE] [b] pos) (decide (j ≤ i)) B2 := tj_cmpI ha hb op_ge rfl (nomark _)
theorem tj_eq {x y : PyData} (hu : X.A.units + 64 < cLine) (ha : EJ X Γ B a (.da x) B1) (hb : EJ X Γ B1 b (.da y) B2) (hx : SeqAt.shaped x = true) (hy : SeqAt.shaped y = true) :
    TJ X Γ B (.Compare a [.Eq] [b] pos) (PyData.eqv x y) B2 :=
  tj_cmp ha hb (op_eqD hu) (nomark _) fun g v w H0 H O r1 r2 Q q => ⟨x, y, (Rp.mono O.ex r1).dp (nd_shaped hx), (Rp.mono O.ex r2).dp (nd_shaped hy), hx, hy, q H0 H To.refl O⟩
theorem tj_ne {x y : PyData} (hu : X.A.units + 64 < cLine) (ha : EJ X Γ B a (.da x) B1) (hb : EJ X Γ B1 b (.da y) B2) (hx : SeqAt.shaped x = true) (hy : SeqAt.shaped y = true) :
    TJ X Γ B (.Compare a [.NotEq] [b] pos) (!PyData.eqv x y) B2 :=
  tj_cmp ha hb (op_neD hu) (nomark _) fun g v w H0 H O r1 r2 Q q => ⟨x, y, (Rp.mono O.ex r1).dp (nd_shaped hx), (Rp.mono O.ex r2).dp (nd_shaped hy), hx, hy, q H0 H To.refl O⟩
theorem eqv_int (i j : Int) : PyData.eqv (.int i) (.int j) = decide (i = j) := by
  simp only [PyData.eqv]; exact Bool.beq_eq_decide_eq i j
theorem tj_eqI {i j : Int} (hu : X.A.units + 64 < cLine) (ha : EJ X Γ B a (.da (.int i)) B1) (hb : EJ X Γ B1 b (.da (.int j)) B2) : TJ X Γ B (.Compare a [.Eq] [b] pos) (decide (i = j)) B2 := by
  rw [← eqv_int]; exact tj_eq hu ha hb rfl rfl
theorem tj_neI {i j : Int} (hu : X.A.units + 64 < cLine) (ha : EJ X Γ B a (.da (.int i)) B1) (hb : EJ X Γ B1 b (.da (.int j)) B2) : TJ X Γ B (.Compare a [.NotEq] [b] pos) (!decide (i = j)) B2 := by
  rw [← eqv_int]; exact tj_ne hu ha hb rfl rfl
theorem tj_is {x y : Bool} (h : TJ X Γ B e x B1) (hxy : x = y) : TJ X Γ B e y B1 := hxy ▸ h
theorem ej_is {x y : PyData} (h : EJ X Γ B e (.da x) B1) (hxy : x = y) : EJ X Γ B e (.da y) B1 := hxy ▸ h
theorem tj_not {x : Bool} (h : TJ X Γ B e x B1) : TJ X Γ B (.UnaryOp .Not e pos) (!x) B1 := fun g σ H0 H E O Q q =>
  ⟨_, pt_not (wt e), h g σ H0 H E O _ fun H1 H' t o => q H1 H' t o⟩
def WW (X : Cx) (e : Expr) : TT := fun σ H Q => ∃ t, PW X e t ∧ t σ H Q
theorem ww {X : Cx} (e : Expr) : PW X e (WW X e) := ⟨fun w p s σ H Q I ⟨_, ht, h⟩ => ht.run w p s σ H Q I h⟩
def WJ (X : Cx) (Γ : List VD) (B : Bag) (e : Expr) (b : Bool) (B' : Bag) : Prop :=
  ∀ g σ H0 H, EnvD X.K g H0 σ Γ → On X.K g B H0 H → ∀ Q : Bool → Hp → Prop, (∀ H0' H', To g H0 H H0' H' → On X.K g B' H0' H' → Q b H') → WW X e σ H Q
theorem tj_w {x : Bool} (h : WJ X Γ B e x B1) : TJ X Γ B e x B1 := fun g σ H0 H E O Q q => let ⟨t, h1, h2⟩ := h g σ H0 H E O Q q; ⟨t, h1.pt, h2⟩
theorem wj_or1 {x : Bool} (h : TJ X Γ B e x B1) : WJ X Γ B (.BoolOp .Or [e] pos) x B1 := fun g σ H0 H E O Q q => ⟨_, pw_or1 (wt e), h g σ H0 H E O Q q⟩
theorem wj_or {x y : Bool} (h : TJ X Γ B e x B) (hr : x = false → WJ X Γ B (.BoolOp .Or (a :: es) pos) y B) : WJ X Γ B (.BoolOp .Or (e :: a :: es) pos) (x || y) B := fun g σ H0 H E O Q q =>
  ⟨_, pw_or (wt e) (ww _), h g σ H0 H E O _ fun H1 H' t o => by
    cases x with
    | true => exact iteT (q H1 H' t o)
    | false => exact iteF (hr rfl g σ H1 H' (E.mono t.ex) o Q fun H2 H'' t2 o2 => q H2 H'' (t.trans t2) o2)⟩
theorem ej_one {op} (h : EJ X Γ B e d B1) : EJ X Γ B (.BoolOp op [e] pos) d B1 := fun g σ H0 H E O Q q => ⟨_, pe_one (we e), h g σ H0 H E O Q q⟩
theorem ej_and {x y : Bool} (h : EJ X Γ B e (.da (.bool x)) B1) (hr : x = true → EJ X Γ B1 (.BoolOp .And (a :: es) pos) (.da (.bool y)) B1) : EJ X Γ B (.BoolOp .And (e :: a :: es) pos) (.da (.bool (x && y))) B1 := fun g σ H0 H E O Q q =>
  ⟨_, pe_and (we e) (we _), h g σ H0 H E O _ fun v H1 H' t o r => ⟨x, rvB r, by
    cases x with
    | true => exact iteT (hr rfl g σ H1 H' (E.mono t.ex) o Q fun z H2 H'' t2 o2 r2 => q z H2 H'' (t.trans t2) o2 r2)
    | false => exact iteF (q _ H1 H' t o (Rp.bl _))⟩⟩
theorem ej_not {x : Bool} (h : EJ X Γ B e (.da (.bool x)) B1) : EJ X Γ B (.UnaryOp .Not e pos) (.da (.bool (!x))) B1 := fun g σ H0 H E O Q q =>
  ⟨_, pe_not (we e), h g σ H0 H E O _ fun v H1 H' t o r => ⟨x, rvB r, q _ H1 H' t o (Rp.bl _)⟩⟩
theorem ej_if {x : Bool} (h : TJ X Γ B c x B1) (h1 : x = true → EJ X Γ B1 a d B2) (h2 : x = false → EJ X Γ B1 b d B2) : EJ X Γ B (.IfExp c a b pos) d B2 := fun g σ H0 H E O Q q =>
  ⟨_, pe_ifExp (wt c) (we a) (we b), h g σ H0 H E O _ fun H1 H' t o => by
    cases x with
    | true => exact iteT (h1 rfl g σ H1 H' (E.mono t.ex) o Q fun z H2 H'' t2 o2 r2 => q z H2 H'' (t.trans t2) o2 r2)
    | false => exact iteF (h2 rfl g σ H1 H' (E.mono t.ex) o Q fun z H2 H'' t2 o2 r2 => q z H2 H'' (t.trans t2) o2 r2)⟩
theorem sj_nil (h : E.nx Γ B) : SJ X Γ B [] E := fun g σ H0 H Ev O D G => ⟨_, pss_nil, G.nx Γ B σ H0 H h To.refl Ev O⟩
theorem sj_ret (h : EJ X Γ B e (.da da') B1) (hr : E.rt da' B1) : SJ X Γ B (.Return (some e) pos :: rest) E := fun g σ H0 H Ev O D G =>
  ⟨_, pss_cons (ps_ret (we e)) (ws rest), h g σ H0 H Ev O _ fun v H1 H' t o r => G.rt _ B1 v H1 H' hr t o r⟩
theorem sj_set (i : Nat) {x : Str} (nd : X.N.Nodup) (h : EJ X Γ B e d B1) (k : SJ X (Γ.set i d) B1 rest E) (hi : X.N[i]? = some x := by rfl)
    (hx : Loc X.env.scope x := by first | exact Or.inl rfl | exact Or.inr rfl) (hs : swapsWith e (some (.Name x pos')) pos.line X.env = pure false := by rfl)
    (hf : X.fn x = true ∨ X.env.scope.names.lookup x = some .local := by first | exact Or.inl rfl | exact Or.inr rfl) : SJ X Γ B (.Assign [.Name x pos'] e pos :: rest) E := fun g σ H0 H Ev O D G =>
  ⟨_, pss_cons (ps_set nd hi hx (we e) hs hf) (ws rest), h g σ H0 H Ev O _ fun v H1 H' t o r => k g _ H1 H' ((Ev.mono t.ex).set i r) o D (G.on t)⟩
theorem sj_if {x : Bool} (h : TJ X Γ B c x B1) (h1 : x = true → SJ X Γ B1 s1 { E with nx := fun Γ' B' => SJ X Γ' B' rest E }) (h2 : x = false → SJ X Γ B1 s2 { E with nx := fun Γ' B' => SJ X Γ' B' rest E }) :
    SJ X Γ B (.If c s1 s2 pos :: rest) E := fun g σ H0 H Ev O D G =>
  ⟨_, pss_cons (ps_if (wt c) (ws s1) (ws s2)) (ws rest), h g σ H0 H Ev O _ fun H1 H' t o => by
    have G' : Gets X { E with nx := fun Γ' B' => SJ X Γ' B' rest E } g H1 H' { D with nx := WS X rest D } :=
      ⟨fun Γ2 B2 σ2 H2 H'' q t2 ev o2 => q g σ2 H2 H'' ev o2 D (G.on (t.trans t2)), (G.on t).rt, (G.on t).bk, (G.on t).ct⟩
    cases x with
    | true => exact iteT (h1 rfl g σ H1 H' (Ev.mono t.ex) o _ G')
    | false => exact iteF (h2 rfl g σ H1 H' (Ev.mono t.ex) o _ G')⟩
theorem sj_when {x : Bool} (h : TJ X Γ B c x B1) (h1 : x = true → SJ X Γ B1 s1 { E with nx := fun Γ' B' => SJ X Γ' B' rest E }) (h2 : x = false → SJ X Γ B1 rest E) :
    SJ X Γ B (.If c s1 [] pos :: rest) E := sj_if h h1 fun e => sj_nil (h2 e)
theorem sj_mono {E' : En} (h : SJ X Γ B ss E) (h1 : ∀ Γ B, E.nx Γ B → E'.nx Γ B) (h2 : ∀ r B, E.rt r B → E'.rt r B) (h3 : ∀ Γ B, E.bk Γ B → E'.bk Γ B) (h4 : ∀ Γ B, E.ct Γ B → E'.ct Γ B) : SJ X Γ B ss E' :=
  fun g σ H0 H Ev O D G => h g σ H0 H Ev O D ⟨fun Γ B σ a b q => G.nx Γ B σ a b (h1 _ _ q), fun r B v a b q => G.rt r B v a b (h2 _ _ q), fun Γ B σ a b q => G.bk Γ B σ a b (h3 _ _ q), fun Γ B σ a b q => G.ct Γ B σ a b (h4 _ _ q)⟩
end
end Gd
namespace Gd
open PySem PySem.Spec PyProof.Rows L2
def cutP (ds : List PyData) (lo hi : Option Int) : List PyData := (ds.drop (HT.sIx ds.length 0 lo)).take (HT.sIx ds.length ds.length hi - HT.sIx ds.length 0 lo)
theorem RpAll.cut {K : PySem.W.Frag} {H : Hp} {xs : List V} {ds : List PyData} (r : RpAll K H xs ds) (lo hi : Option Int) : RpAll K H (cutV xs lo hi) (cutP ds lo hi) := by
  unfold cutV cutP
  rw [r.length]
  exact (r.drop _).take _
theorem RpAll.ints {K : PySem.W.Frag} {H : Hp} : ∀ ns : List Int, RpAll K H (ns.map V.int) (ns.map PyData.int)
  | [] => .nil
  | n :: ns => .cons (.int n) (RpAll.ints ns)
theorem RpAll.ints_of {K : PySem.W.Frag} {H : Hp} : ∀ {xs : List V} {ns : List Int}, RpAll K H xs (ns.map PyData.int) → xs = ns.map V.int
  | [], [], _ => rfl
  | _ :: _, n :: ns, .cons h r => by
    cases h
    rw [RpAll.ints_of r]; rfl
section
variable {X : Cx} {Γ : List VD} {B B1 B2 B3 B' : Bag} {e a b c : Expr} {es : List Expr} {d da db dc : VD} {pos p pos' : Pos} {rest ss s1 s2 : List Stmt} {E : En}
def OJ (X : Cx) (Γ : List VD) (B : Bag) (o : Option Expr) (v : Option Int) (B' : Bag) : Prop :=
  ∀ g σ H0 H, EnvD X.K g H0 σ Γ → On X.K g B H0 H → ∀ Q : Option Int → Hp → Prop,
    (∀ H0' H', To g H0 H H0' H' → On X.K g B' H0' H' → Q v H') → ∃ t, PO X o t ∧ t σ H Q
theorem oj_none : OJ X Γ B none none B := fun g σ H0 H _ O Q q => ⟨_, po_none, q H0 H To.refl O⟩
theorem oj_some {i : Int} (h : EJ X Γ B e (.da (.int i)) B1) : OJ X Γ B (some e) (some i) B1 := fun g σ H0 H E O Q q =>
  ⟨_, po_some (we e), h g σ H0 H E O _ fun v H1 H' t o r => ⟨i, rvI r, q H1 H' t o⟩⟩
def WO (X : Cx) (o : Option Expr) : TO := fun σ H Q => ∃ t, PO X o t ∧ t σ H Q
theorem wo (o : Option Expr) : PO X o (WO X o) := ⟨fun p s σ H Q I ⟨_, ht, h⟩ => ht.run p s σ H Q I h⟩
theorem ej_slice {r : V → Option Int → Option Int → Hp → VK → Prop} {lo hi : Option Expr} {l u : Option Int} {p2 : Pos} (hr : SlR X r) (ha : EJ X Γ B a da B1) (hl : OJ X Γ B1 lo l B2) (hu : OJ X Γ B2 hi u B3)
    (k : ∀ g v H0 H, On X.K g B3 H0 H → Rv X.K g H0 v da → ∀ Q : VK, (∀ z H0' H', To g H0 H H0' H' → On X.K g B3 H0' H' → Rv X.K g H0' z d → Q z H') → r v l u H Q) :
    EJ X Γ B (.Subscript a (.Slice lo hi none p2) pos) d B3 := fun g σ H0 H E O Q q =>
  ⟨_, pe_slice hr (we a) (wo lo) (wo hi), ha g σ H0 H E O _ fun v H1 H' t o rv => hl g σ H1 H' (E.mono t.ex) o _ fun H2 H'' t2 o2 =>
    hu g σ H2 H'' (E.mono (t.trans t2).ex) o2 _ fun H3 H3' t3 o3 => k g v H3 H3' o3 (rv.mono (t2.trans t3).ex) Q fun z H4 H4' t4 o4 r4 => q z H4 H4' (((t.trans t2).trans t3).trans t4) o4 r4⟩
theorem ej_sliceL {lo hi : Option Expr} {l u : Option Int} {p2 : Pos} {ds : List PyData} (ha : EJ X Γ B a (.da (.list ds)) B1) (hl : OJ X Γ B1 lo l B2) (hu : OJ X Γ B2 hi u B3) :
    EJ X Γ B (.Subscript a (.Slice lo hi none p2) pos) (.da (.list (cutP ds l u))) B3 :=
  ej_slice sl_list ha hl hu fun g v H0 H O r Q q => by
    obtain ⟨p, xs, rfl, hx, rs⟩ := rvL r
    refine ⟨p, xs, rfl, SqL.of (O.ex _ _ hx), fun n hn => ?_⟩
    obtain ⟨t2, o2⟩ := laid (o := .lst (cutV xs l u)) O hn
    exact q _ _ _ t2 o2 (Rp.lst upd_same ((rs.cut l u).mono t2.ex))
theorem ej_sliceT {lo hi : Option Expr} {l u : Option Int} {p2 : Pos} {ds : List PyData} (ha : EJ X Γ B a (.da (.tuple ds)) B1) (hl : OJ X Γ B1 lo l B2) (hu : OJ X Γ B2 hi u B3) :
    EJ X Γ B (.Subscript a (.Slice lo hi none p2) pos) (.da (.tuple (cutP ds l u))) B3 :=
  ej_slice sl_tupA ha hl hu fun g v H0 H O r Q q => by
    obtain ⟨p, xs, rfl, hx, rs⟩ := rvT r
    refine ⟨p, xs, rfl, seqT O.ex hx, fun w => ?_, fun _ n hn => ?_⟩
    · have e : cutP ds l u = ds := by
        rw [rs.length] at w
        unfold cutP
        rw [w.1, w.2]
        simp
      have q := q (.ref p) H0 H To.refl O
      rw [e] at q
      exact q (Rp.tup hx rs)
    · obtain ⟨t2, o2⟩ := laid (o := .tup (cutV xs l u)) O hn
      exact q _ _ _ t2 o2 (Rp.tup (SqT.of upd_same) ((rs.cut l u).mono t2.ex))
theorem ej_sliceScr {lo hi : Option Expr} {l u : Option Int} {p2 : Pos} {ns : List Int} (ha : EJ X Γ B a (.scr ns) B1) (hl : OJ X Γ B1 lo l B2) (hu : OJ X Γ B2 hi u B3) :
    EJ X Γ B (.Subscript a (.Slice lo hi none p2) pos) (.da (.list (cutP (ns.map .int) l u))) B3 :=
  ej_slice sl_list ha hl hu fun g v H0 H O r Q q => by
    obtain ⟨p, rfl, hx⟩ := r
    refine ⟨p, _, rfl, O.ex.seq hx, fun n hn => ?_⟩
    obtain ⟨t2, o2⟩ := laid (o := .lst (cutV (ns.map V.int) l u)) O hn
    exact q _ _ _ t2 o2 (Rp.lst upd_same ((RpAll.ints ns).cut l u))
theorem ej_bagAt {i : Int} {y : PyData} {k : Nat} (ha : EJ X Γ B a .bag B1) (hb : EJ X Γ B1 b (.da (.int i)) B2) (hi : i = (k : Int)) (hk : k = 0 ∧ y = .int B2.x ∨ k = 1 ∧ y = .int B2.y ∨ k = 2 ∧ y = .int B2.z ∨ k = 3 ∧ y = .list (B2.cs.map .int)) (hs : PlainIx b) :
    EJ X Γ B (.Subscript a b pos) (.da y) B2 :=
  ej_bin ha hb (fun _ _ h1 h2 => pe_ix ix_list h1 h2 hs) fun g v w H0 H O r1 r2 Q q => by
    obtain ⟨p, l, hg, rfl⟩ := r1
    obtain ⟨_, h2, h3⟩ := O.bag p l hg
    subst hi
    rcases hk with ⟨rfl, rfl⟩ | ⟨rfl, rfl⟩ | ⟨rfl, rfl⟩ | ⟨rfl, rfl⟩
    · exact ⟨p, _, _, _, rfl, rvI r2, SqL.of h2, rfl, q _ _ _ To.refl O (Rp.int _)⟩
    · exact ⟨p, _, _, _, rfl, rvI r2, SqL.of h2, rfl, q _ _ _ To.refl O (Rp.int _)⟩
    · exact ⟨p, _, _, _, rfl, rvI r2, SqL.of h2, rfl, q _ _ _ To.refl O (Rp.int _)⟩
    · exact ⟨p, _, _, _, rfl, rvI r2, SqL.of h2, rfl, q _ _ _ To.refl O (Rp.lst h3 (RpAll.ints _))⟩
theorem bagged {K : PySem.W.Frag} {g : Gh} {B B' : Bag} {H0 H : Hp} {a l : Addr} (O : On K g B H0 H) (hg : g = some (a, l)) (hc : B'.cs = B.cs) :
    To g H0 H H0 (upd H a (.lst (bagCells B' l))) ∧ On K g B' H0 (upd H a (.lst (bagCells B' l))) := by
  obtain ⟨h1, h2, h3⟩ := O.bag a l hg
  refine ⟨⟨Same.refl _, fun q u f e1 e2 => ⟨e1, ?_⟩⟩, ⟨fun q u e => ?_, fun q m e => ?_⟩⟩
  · rw [upd_ne (fun z => f l (by rw [z]; exact hg))]; exact e2
  · rw [upd_ne (ne_of_none e h1)]; exact O.ex _ _ e
  · rw [hg] at e; cases e
    exact ⟨h1, upd_same, by rw [hc]; exact h3⟩
theorem sj_bagSet {i n : Int} {k : Nat} {px : Pos} (hv : EJ X Γ B e (.da (.int n)) B1) (ha : EJ X Γ B1 a .bag B2) (hb : EJ X Γ B2 b (.da (.int i)) B3) (hi : i = (k : Int))
    (hk : k = 0 ∧ B' = { B3 with x := n } ∨ k = 1 ∧ B' = { B3 with y := n } ∨ k = 2 ∧ B' = { B3 with z := n }) (q : SJ X Γ B' rest E)
    (h1 : swapsWithSole [.Subscript a b px] e pos.line X.env = pure false := by rfl) (h2 : swappedStores [.Subscript a b px] e X.env = pure none := by rfl)
    (h3 : (assignEach [.Subscript a b px] X.env).map (·.2) = [assign (.Subscript a b px) X.env] := by rfl)
    (h4 : ∀ v, assign (.Subscript a b px) X.env v = (do
      let ov ← holding [v] (eval a X.env)
      let iv ← holding [v, ov] (eval b X.env)
      standAt px; holding [v, ov, iv] (setItem ov iv v)
      release [v, ov, iv] []) := by intro _; rfl) :
    SJ X Γ B (.Assign [.Subscript a b px] e pos :: rest) E := fun g σ H0 H Ev O D G =>
  ⟨_, pss_cons (ps_asg (we e) (pg_sub (we a) (we b) set_list h4) h1 h2 h3) (ws rest), hv g σ H0 H Ev O _ fun v H1 H' t o rv => ha g σ H1 H' (Ev.mono t.ex) o _ fun w H2 H'' t2 o2 rw' =>
    hb g σ H2 H'' (Ev.mono (t.trans t2).ex) o2 _ fun u H3 H3' t3 o3 ru => by
      obtain ⟨p, l, hg, rfl⟩ := rw'
      rw [rvI ru, rvI rv]
      subst hi
      obtain ⟨_, e2, _⟩ := o3.bag p l hg
      have tt := (t.trans t2).trans t3
      have fin : ∀ (H4 : Hp), H4 = upd H3' p (.lst (bagCells B' l)) → B'.cs = B3.cs → WS X rest D σ H4 := by
        rintro H4 rfl hc
        obtain ⟨t4, o4⟩ := bagged o3 hg hc
        exact q g σ H3 _ (Ev.mono tt.ex) o4 D (G.on (tt.trans t4))
      rcases hk with ⟨rfl, rfl⟩ | ⟨rfl, rfl⟩ | ⟨rfl, rfl⟩
      · exact ⟨p, _, _, 0, rfl, rfl, e2, rfl, fin _ rfl rfl⟩
      · exact ⟨p, _, _, 1, rfl, rfl, e2, rfl, fin _ rfl rfl⟩
      · exact ⟨p, _, _, 2, rfl, rfl, e2, rfl, fin _ rfl rfl⟩⟩
def rGetL : V → V → Hp → VK → Prop := fun o i H Q => ∃ p xs k v, o = .ref p ∧ i = .int ((k : Nat) : Int) ∧ H p = some (.lst xs) ∧ xs[k]? = some v ∧ k < 1000 ∧ Q v H
theorem get_list : PGet X rGetL := by
  intro pins s σ H o i ov iv Q I r1 r2 h
  obtain ⟨p, xs, k, v, rfl, rfl, hp, hv, hk, q⟩ := h
  cases (show ov = Value.ref p from r1)
  obtain ⟨t, rfl⟩ := r2
  obtain ⟨its, r, pl, hz⟩ := I.list (SqL.of hp)
  obtain ⟨u, hu, ru⟩ := r.get hv
  refine wpAny_getItem_list pl.isList (Int.natCast_nonneg k) (by omega) ?_ ⟨v, H, I, ru, q⟩
  rw [Int.toNat_natCast]; simpa using hu
theorem sj_bagAug {n : Int} {px : Pos} (ha : EJ X Γ B a .bag B1) (hb : EJ X Γ B1 b (.da (.int 2)) B2) (hv : EJ X Γ B2 e (.da (.int n)) B3) (hz : B3.z = B2.z) (q : SJ X Γ { B3 with z := B3.z + n } rest E)
    (h1 : ∀ ov iv new, augStore b ov iv new = (do holding [new, ov, iv] (setItem ov iv new); release [new, ov, iv] []; pure .next) := by intros; rfl) :
    SJ X Γ B (.AugAssign (.Subscript a b px) .Add e pos :: rest) E := fun g σ H0 H Ev O D G =>
  ⟨_, pss_cons (ps_augS (we a) (we b) get_list (we e) ip_add set_list h1) (ws rest), ha g σ H0 H Ev O _ fun w H1 H' t o rw' => hb g σ H1 H' (Ev.mono t.ex) o _ fun u H2 H'' t2 o2 ru => by
    obtain ⟨p, l, hg, rfl⟩ := rw'
    rw [rvI ru]
    obtain ⟨_, e2, _⟩ := o2.bag p l hg
    refine ⟨p, _, 2, .int B2.z, rfl, rfl, e2, rfl, by omega, ?_⟩
    refine hv g σ H2 H'' (Ev.mono (t.trans t2).ex) o2 _ fun v H3 H3' t3 o3 rv => ?_
    rw [rvI rv]
    obtain ⟨_, e3, _⟩ := o3.bag p l hg
    have tt := (t.trans t2).trans t3
    refine ⟨B2.z, n, rfl, rfl, p, _, 2, 2, rfl, rfl, e3, rfl, ?_⟩
    obtain ⟨t4, o4⟩ := bagged (B' := { B3 with z := B3.z + n }) o3 hg rfl
    rw [← hz]
    exact q g σ H3 _ (Ev.mono tt.ex) o4 D (G.on (tt.trans t4))⟩
theorem sj_while (nd : X.N.Nodup) (P : List VD → Bag → Prop) (μ : List VD → Bag → Nat) (h0 : P Γ B)
    (hs : ∀ Γ B, P Γ B → ∃ x, TJ X Γ B c x B ∧
      (x = true → SJ X Γ B s1 { nx := fun Γ' B' => P Γ' B' ∧ μ Γ' B' < μ Γ B, ct := fun Γ' B' => P Γ' B' ∧ μ Γ' B' < μ Γ B, bk := fun Γ' B' => SJ X Γ' B' rest E, rt := E.rt }) ∧
      (x = false → SJ X Γ B rest E))
    (hp : PassesOwn (model X.prog X.w) X.A X.env X.xe := by exact PassesOwn.never) : SJ X Γ B (.While c s1 [] pos :: rest) E := fun g σ H0 H Ev O D G =>
  ⟨_, pss_cons (ps_while hp (wt c) (ws s1)) (ws rest), by
    refine ⟨fun m σ' H' => ∃ Γ' B' H1, P Γ' B' ∧ μ Γ' B' = m ∧ To g H0 H H1 H' ∧ EnvD X.K g H1 σ' Γ' ∧ On X.K g B' H1 H', ⟨_, Γ, B, H0, h0, rfl, To.refl, Ev, O⟩, ?_⟩
    rintro m σ' H' ⟨Γ', B', H1, hP, rfl, t, ev, o⟩
    obtain ⟨x, ht, hb, hd⟩ := hs Γ' B' hP
    refine ht g σ' H1 H' ev o _ fun H2 H'' t2 o2 => ?_
    have tt := t.trans t2
    cases x with
    | true =>
      refine iteT ⟨fun σ2 H3' => ∃ m', m' < μ Γ' B' ∧ ∃ Γ2 B2 H3, P Γ2 B2 ∧ μ Γ2 B2 = m' ∧ To g H0 H H3 H3' ∧ EnvD X.K g H3 σ2 Γ2 ∧ On X.K g B2 H3 H3', fun _ _ z => z, ?_⟩
      refine hb rfl g σ' H2 H'' (ev.mono t2.ex) o2 _ ⟨?_, ?_, ?_, ?_⟩
      · rintro Γ3 B3 σ3 H3 H3' ⟨q1, q2⟩ t3 e3 o3
        exact ⟨_, q2, Γ3, B3, H3, q1, rfl, tt.trans t3, e3, o3⟩
      · intro r B3 v H3 H3' q t3 o3 rv
        exact (G.on tt).rt r B3 v H3 H3' q t3 o3 rv
      · intro Γ3 B3 σ3 H3 H3' q t3 e3 o3
        exact q g σ3 H3 H3' e3 o3 D (G.on (tt.trans t3))
      · rintro Γ3 B3 σ3 H3 H3' ⟨q1, q2⟩ t3 e3 o3
        exact ⟨_, q2, Γ3, B3, H3, q1, rfl, tt.trans t3, e3, o3⟩
    | false => exact iteF (hd rfl g σ' H2 H'' (ev.mono t2.ex) o2 D (G.on tt))⟩
theorem sj_forT (j : Nat) {x : Str} {ds : List PyData} {px : Pos} (nd : X.N.Nodup) (hc : X.calm = true) (P : Nat → List VD → Bag → Prop) (hi : EJ X Γ B e (.da (.tuple ds)) B1) (h0 : P 0 Γ B1)
    (hs : ∀ i y Γ' B', ds[i]? = some y → P i Γ' B' → SJ X (Γ'.set j (.da y)) B' s1 { nx := P (i + 1), ct := P (i + 1), bk := fun Γ' B' => SJ X Γ' B' rest E, rt := E.rt })
    (hd : ∀ Γ' B', P ds.length Γ' B' → SJ X Γ' B' rest E) (hN : X.N[j]? = some x := by rfl) (hx : Loc X.env.scope x := by first | exact Or.inl rfl | exact Or.inr rfl)
    (hf : X.fn x = true ∨ X.env.scope.names.lookup x = some .local := by first | exact Or.inl rfl | exact Or.inr rfl)
    (hp : PassesOwn (model X.prog X.w) X.A X.env X.xe := by exact PassesOwn.never) (hq : ∀ x, foldedSetIterable e X.env x = pure x := by intro _; rfl) :
    SJ X Γ B (.For (.Name x px) e s1 [] pos :: rest) E := fun g σ H0 H Ev O D G =>
  ⟨_, pss_cons (ps_for hp hc (pi_tup (we e)) (pg_name nd hN hx hf) (ws s1) hq) (ws rest), hi g σ H0 H Ev O _ fun v H1 H' t o r => by
    obtain ⟨p, xs, rfl, hxs, rs⟩ := rvT r
    refine ⟨p, rfl, ⟨xs, seqT o.ex hxs⟩, ?_⟩
    refine for_tup (xs := xs) (fun i σ' H'' => ∃ Γ' B' H2, P i Γ' B' ∧ To g H1 H' H2 H'' ∧ EnvD X.K g H2 σ' Γ' ∧ On X.K g B' H2 H'') ⟨Γ, B1, H1, h0, To.refl, Ev.mono t.ex, o⟩ ?_ ?_ ?_
    · rintro i σ' H'' _ ⟨Γ', B', H2, _, t2, _, o2⟩
      exact seqT o2.ex (seqT t2.ex hxs)
    · rintro i y σ' H'' hy ⟨Γ', B', H2, hP, t2, e2, o2⟩
      obtain ⟨d, hdi, rd⟩ := rs.get hy
      refine hs i d Γ' B' hdi hP g _ H2 H'' (e2.set j (Rp.mono t2.ex rd)) o2 _ ⟨?_, ?_, ?_, ?_⟩
      · intro Γ3 B3 σ3 H3 H3' q t3 e3 o3
        exact ⟨Γ3, B3, H3, q, t2.trans t3, e3, o3⟩
      · intro r B3 v H3 H3' q t3 o3 rv
        exact (G.on (t.trans t2)).rt r B3 v H3 H3' q t3 o3 rv
      · intro Γ3 B3 σ3 H3 H3' q t3 e3 o3
        exact q g σ3 H3 H3' e3 o3 D (G.on ((t.trans t2).trans t3))
      · intro Γ3 B3 σ3 H3 H3' q t3 e3 o3
        exact ⟨Γ3, B3, H3, q, t2.trans t3, e3, o3⟩
    · rintro σ' H'' ⟨Γ', B', H2, hP, t2, e2, o2⟩
      rw [rs.length] at hP
      exact hd Γ' B' hP g σ' H2 H'' e2 o2 D (G.on (t.trans t2))⟩
theorem sj_par (i j : Nat) {x y : Str} {px py pt : Pos} {kt k2 pt2} {d1 d2 : VD} (nd : X.N.Nodup) (hc : X.calm = true) (h : AJ X Γ B [a, b] [d1, d2] B1) (k : SJ X ((Γ.set i d1).set j d2) B1 rest E)
    (hij : i ≠ j) (hw : swappedStores [.Tuple [.Name x px, .Name y py] kt pt] (.Tuple [a, b] k2 pt2) X.env = pure (some [x, y])) (hi : X.N[i]? = some x := by rfl) (hj : X.N[j]? = some y := by rfl)
    (hx : X.env.scope.names.lookup x = some .local := by rfl) (hy : X.env.scope.names.lookup y = some .local := by rfl)
    (hsw : swapsWithSole [.Tuple [.Name x px, .Name y py] kt pt] (.Tuple [a, b] k2 pt2) pos.line X.env = pure false := by rfl) :
    SJ X Γ B (.Assign [.Tuple [.Name x px, .Name y py] kt pt] (.Tuple [a, b] k2 pt2) pos :: rest) E := fun g σ H0 H Ev O D G =>
  ⟨_, pss_cons (ps_par hc nd hi hj hij hx hy (wa [a, b]) hw hsw) (ws rest), h g σ H0 H Ev O _ fun vs H1 H' t o r => by
    obtain ⟨v, w, rfl, r1, r2⟩ := rv2 r
    exact ⟨v, w, rfl, k g _ H1 H' (((Ev.mono t.ex).set i r1).set j r2) o D (G.on t)⟩⟩
def gNames : List Nat → TGs
  | [] => gNil
  | i :: is => gCons (gName i) (gNames is)
def setAll (Γ : List VD) : List Nat → List PyData → List VD
  | i :: is, d :: ds => setAll (Γ.set i (.da d)) is ds
  | _, _ => Γ
theorem gNames_run {K : PySem.W.Frag} {g : Gh} {H0 H : Hp} {Q : L2.St → Hp → Prop} : ∀ (is : List Nat) (vs : List V) (ds : List PyData) (σ : L2.St) (Γ : List VD), RpAll K H0 vs ds → is.length = ds.length → EnvD K g H0 σ Γ →
    (∀ σ', EnvD K g H0 σ' (setAll Γ is ds) → Q σ' H) → gNames is vs σ H Q
  | [], _, _, σ, Γ, .nil, _, e, q => ⟨rfl, q σ e⟩
  | i :: is, _, _, σ, Γ, .cons h r, hl, e, q => ⟨_, _, rfl, gNames_run is _ _ _ _ r (Nat.succ.inj hl) (e.set (d := .da _) i h) q⟩
theorem sj_unpack (is : List Nat) {ts : List Expr} {k} {pt : Pos} {ds : List PyData} (hc : X.calm = true) (h : EJ X Γ B e (.da (.tuple ds)) B1) (hg : PGs X ts (gNames is)) (hl : is.length = ds.length)
    (q : SJ X (setAll Γ is ds) B1 rest E) (hn : (assignEach ts X.env).length = ds.length := by rfl) (hst : (assignEach ts X.env).findIdx? (·.1) = none := by rfl)
    (h1 : swapsWithSole [.Tuple ts k pt] e pos.line X.env = pure false := by rfl) (h2 : swappedStores [.Tuple ts k pt] e X.env = pure none := by rfl)
    (h3 : (assignEach [.Tuple ts k pt] X.env).map (·.2) = [assign (.Tuple ts k pt) X.env] := by rfl) : SJ X Γ B (.Assign [.Tuple ts k pt] e pos :: rest) E := fun g σ H0 H Ev O D G =>
  ⟨_, pss_cons (ps_asg (we e) (pg_tup hc hg hn hst) h1 h2 h3) (ws rest), h g σ H0 H Ev O _ fun v H1 H' t o r => by
    obtain ⟨p, xs, rfl, hxs, rs⟩ := rvT r
    exact ⟨p, xs, rfl, seqT o.ex hxs, rs.length, gNames_run is xs ds σ Γ rs hl (Ev.mono t.ex) fun σ' e' => q g σ' H1 H' e' o D (G.on t)⟩⟩
def Blk (X : Cx) (scope : Scope) (J : Cx → Prop) : Prop := ∀ (s : Shared) (H : Hp) (C : Addr) (cl : List (Str × Addr)) (fp : List Addr), J (X.blk s H scope (compEnvC scope cl C X.env) fp)
def WB (X : Cx) (scope : Scope) (e : Expr) : TE := fun σ H Q => ∀ (s : Shared) (H' : Hp) (C : Addr) (cl : List (Str × Addr)) (fp : List Addr), WE (X.blk s H' scope (compEnvC scope cl C X.env) fp) e σ H Q
theorem wb (scope : Scope) (e : Expr) (s : Shared) (H : Hp) (C : Addr) (cl : List (Str × Addr)) (fp : List Addr) : PE (X.blk s H scope (compEnvC scope cl C X.env) fp) e (WB X scope e) :=
  ⟨fun pins s' σ H' Q I h => (we e).run pins s' σ H' Q I (h s H C cl fp)⟩
def WTB (X : Cx) (scope : Scope) (e : Expr) : TT := fun σ H Q => ∀ (s : Shared) (H' : Hp) (C : Addr) (cl : List (Str × Addr)) (fp : List Addr), WT (X.blk s H' scope (compEnvC scope cl C X.env) fp) e σ H Q
theorem wtb (scope : Scope) (e : Expr) (s : Shared) (H : Hp) (C : Addr) (cl : List (Str × Addr)) (fp : List Addr) : PT (X.blk s H scope (compEnvC scope cl C X.env) fp) e (WTB X scope e) :=
  ⟨fun pins s' σ H' Q I h => (wt e).run pins s' σ H' Q I (h s H C cl fp)⟩
structure LcI (K : PySem.W.Frag) (g : Gh) (H1 H' : Hp) (A : Addr) (acc : List PyData) (B : Bag) (H2 H'' : Hp) : Prop where
  to : To g H1 H' H2 H''
  new : H' A = none
  no : H2 A = none
  at' : ∃ zs, H'' A = some (.lst zs) ∧ RpAll K H2 zs acc
  on : On K g B H2 H''
theorem lcI_start {K : PySem.W.Frag} {g : Gh} {H1 H' : Hp} {A : Addr} (o : On K g B H1 H') (h : H' A = none) : Off g A ∧ LcI K g H1 H' A [] B H1 (upd H' A (.lst [])) := by
  have h1 : H1 A = none := o.ex.free h
  have off : Off g A := fun l e => by
    obtain ⟨_, q, _⟩ := o.bag A l e
    rw [h] at q; cases q
  refine ⟨off, ⟨⟨Same.refl _, fun q u f e1 e2 => ⟨e1, ?_⟩⟩, h, h1, ⟨[], upd_same, .nil⟩, ⟨fun q u e => ?_, fun q l e => ?_⟩⟩⟩
  · rw [upd_ne (ne_of_none e2 h)]; exact e2
  · rw [upd_ne (ne_of_none e h1)]; exact o.ex _ _ e
  · obtain ⟨q1, q2, q3⟩ := o.bag q l e
    exact ⟨q1, by rw [upd_ne (ne_of_none q2 h)]; exact q2, q3⟩
theorem lcI_app {K : PySem.W.Frag} {g : Gh} {H1 H' : Hp} {A : Addr} {acc : List PyData} {H2 H'' H3 H3' : Hp} {v : V} {y : PyData} (off : Off g A) (I : LcI K g H1 H' A acc B1 H2 H'') (t : To g H2 H'' H3 H3') (o : On K g B2 H3 H3') (r : Rp K H3 v y) :
    ∃ zs, H3' A = some (.lst zs) ∧ zs.length = acc.length ∧ LcI K g H1 H' A (acc ++ [y]) B2 H3 (upd H3' A (.lst (zs ++ [v]))) := by
  obtain ⟨zs, h1, h2⟩ := I.at'
  obtain ⟨h3, h4⟩ := t.un A _ off I.no h1
  refine ⟨zs, h4, h2.length, ⟨⟨I.to.ex.trans t.ex, fun q u f e1 e2 => ?_⟩, I.new, h3, ⟨_, upd_same, (h2.mono t.ex).app (.cons r .nil)⟩, ⟨fun q u e => ?_, fun q l e => ?_⟩⟩⟩
  · by_cases hq : q = A
    · subst hq
      have z := I.new
      rw [e2] at z; cases z
    · obtain ⟨q1, q2⟩ := I.to.un q u f e1 e2
      obtain ⟨q3, q4⟩ := t.un q u f q1 q2
      exact ⟨q3, by rw [upd_ne hq]; exact q4⟩
  · rw [upd_ne (ne_of_none e h3)]; exact o.ex _ _ e
  · obtain ⟨q1, q2, q3⟩ := o.bag q l e
    have hq : q ≠ A := fun z => off l (by rw [← z]; exact e)
    exact ⟨q1, by rw [upd_ne hq]; exact q2, q3⟩
theorem lcI_end {K : PySem.W.Frag} {g : Gh} {H0 H H1 H' : Hp} {A : Addr} {acc : List PyData} {H2 H'' : Hp} (off : Off g A) (t : To g H0 H H1 H') (I : LcI K g H1 H' A acc B H2 H'') :
    ∃ H3, To g H0 H H3 H'' ∧ On K g B H3 H'' ∧ Rp K H3 (.ref A) (.list acc) := by
  obtain ⟨zs, h1, h2⟩ := I.at'
  have tt := t.trans I.to
  have up : Same H2 (upd H2 A (.lst zs)) := fun q u e => by rw [upd_ne (ne_of_none e I.no)]; exact e
  refine ⟨upd H2 A (.lst zs), ⟨tt.ex.trans up, fun q u f e1 e2 => ?_⟩, ⟨fun q u e => ?_, fun q l e => ?_⟩, Rp.lst upd_same (h2.mono up)⟩
  · obtain ⟨q1, q2⟩ := tt.un q u f e1 e2
    have hq : q ≠ A := fun z => by
      subst z
      obtain ⟨_, q3⟩ := t.un q u f e1 e2
      rw [I.new] at q3; cases q3
    exact ⟨by rw [upd_ne hq]; exact q1, q2⟩
  · by_cases hq : q = A
    · subst hq; rw [upd_same] at e; cases e; exact h1
    · rw [upd_ne hq] at e; exact I.on.ex _ _ e
  · obtain ⟨q1, q2, q3⟩ := I.on.bag q l e
    have hq : q ≠ A := fun z => off l (by rw [← z]; exact e)
    have hl : l ≠ A := fun z => by rw [z, I.no] at q3; cases q3
    exact ⟨by rw [upd_ne hq]; exact q1, q2, by rw [upd_ne hl]; exact q3⟩
theorem wipe1 {σ : L2.St} {j : Nat} {v : Option V} : wipe ((wipe σ [j]).set j v) [j] = wipe σ [j] := by
  show (((σ.set j none).set j v).set j none) = σ.set j none
  rw [List.set_set, List.set_set]
theorem wipe_env {K : PySem.W.Frag} {g : Gh} {H0 : Hp} {σ : L2.St} {j : Nat} {v : V} {d : PyData} (Ev : EnvD K g H0 σ Γ) (r : Rp K H0 v d) : EnvD K g H0 ((wipe σ [j]).set j (some v)) (Γ.set j (.da d)) := by
  show EnvD K g H0 ((σ.set j none).set j (some v)) (Γ.set j (.da d))
  rw [List.set_set]
  exact Ev.set (d := .da d) j r
def RJ (X : Cx) (Γ : List VD) (B : Bag) (t : TE) (d : VD) (B' : Bag) : Prop :=
  ∀ g σ H0 H, EnvD X.K g H0 σ Γ → On X.K g B H0 H → ∀ Q : VK,
    (∀ v H0' H', To g H0 H H0' H' → On X.K g B' H0' H' → Rv X.K g H0' v d → Q v H') → t σ H Q
theorem ej_of {t : TE} (h : PE X e t) (r : RJ X Γ B t d B1) : EJ X Γ B e d B1 := fun g σ H0 H E O Q q => ⟨t, h, r g σ H0 H E O Q q⟩
section
variable {elt : Expr} {scope : Scope} {j : Nat} {x : Str} {px : Pos} {ds ys : List PyData}
theorem lc_turn {g : Gh} {H1 H' : Hp} {A : Addr} {acc : List PyData} {H'' H2 : Hp} {σ : L2.St} {v : V} {y z : PyData} {Nx : Hp → Prop} (off : Off g A) (Ev : EnvD X.K g H1 σ Γ) (I : LcI X.K g H1 H' A acc B1 H2 H'') (r : Rp X.K H2 v y)
    (hz : acc.length < 1000) (he : Blk X scope fun Y => EJ Y (Γ.set j (.da y)) B1 elt (.da z) B2) (k : ∀ H3 H3', LcI X.K g H1 H' A (acc ++ [z]) B2 H3 H3' → Nx H3') :
    gName j v (wipe σ [j]) H'' fun σ2 H2 => wipe σ2 [j] = wipe σ [j] ∧ tYes σ2 H2 fun b H3 => if b = true then WB X scope elt σ2 H3 fun y H4 => ∃ acc, H4 A = some (.lst acc) ∧ acc.length < sizeLine ∧ Nx (upd H4 A (.lst (acc ++ [y]))) else Nx H3 := by
  refine ⟨wipe1, ?_⟩
  unfold tYes
  refine iteT ?_
  intro s hH C cl fp
  refine he s hH C cl fp g _ H2 H'' (wipe_env (Ev.mono I.to.ex) r) I.on _ fun w H3 H3' t o rw' => ?_
  obtain ⟨zs, h1, h2, J⟩ := lcI_app off I t o rw'
  exact ⟨zs, h1, by rw [h2]; exact small1000 (Nat.le_of_lt hz), k _ _ J⟩
theorem rj_lc (Bs : Nat → Bag) (hi : EJ X Γ B e (.da (.list ds)) (Bs 0)) (hl : ys.length = ds.length) (hz : ds.length ≤ 1000)
    (hs : ∀ i y z, ds[i]? = some y → ys[i]? = some z → Blk X scope fun Y => EJ Y (Γ.set j (.da y)) (Bs i) elt (.da z) (Bs (i + 1))) :
    RJ X Γ B (tLc (iList X.K (WE X e)) (gName j) tYes (WB X scope elt) [j]) (.da (.list ys)) (Bs ds.length) := fun g σ H0 H Ev O Q q =>
  hi g σ H0 H Ev O _ fun v H1 H' t o r => by
    obtain ⟨p, xs, rfl, hxs, rs⟩ := rvL r
    refine ⟨p, rfl, ⟨xs, SqL.of (o.ex _ _ hxs)⟩, fun A hA => ?_⟩
    obtain ⟨off, I0⟩ := lcI_start o hA
    refine lc_list (xs := xs) (fun i H'' => ∃ H2, LcI X.K g H1 H' A (ys.take i) (Bs i) H2 H'') ⟨_, I0⟩ ?_ ?_ ?_
    · rintro i H'' _ ⟨H2, I⟩
      exact SqL.of (I.on.ex _ _ (I.to.ex _ _ hxs))
    · rintro i w H'' hw ⟨H2, I⟩
      obtain ⟨y, hy, ry⟩ := rs.get hw
      have hi2 : i < ys.length := by rw [hl]; exact (List.getElem?_eq_some_iff.mp hy).1
      have hyz : ys[i]? = some ys[i] := List.getElem?_eq_getElem hi2
      refine lc_turn off (Ev.mono t.ex) I (ry.mono I.to.ex) (by rw [List.length_take]; omega) (hs i y _ hy hyz) fun H3 H3' J => ⟨H3, ?_⟩
      rw [List.take_add_one, hyz]; exact J
    · rintro H'' ⟨H2, I⟩
      rw [rs.length, ← hl, List.take_length] at I
      obtain ⟨H3, t3, o3, r3⟩ := lcI_end off t I
      rw [hl] at o3
      exact q _ H3 H'' t3 o3 r3
theorem ej_lc (nd : X.N.Nodup) (hc : X.calm = true) (ok : BlkOk X.N X.env.scope scope [(x, j)])
    (hg : ∀ (s : Shared) (H : Hp) (C : Addr) (cl : List (Str × Addr)) (fp : List Addr), PG (X.blk s H scope (compEnvC scope cl C X.env) fp) (.Name x px) (gName j))
    (r : RJ X Γ B (tLc (iList X.K (WE X e)) (gName j) tYes (WB X scope elt) [j]) d B1) (hq : ∀ x, foldedSetIterable e X.env x = pure x := by intro _; rfl) :
    EJ X Γ B (.ListComp elt [⟨.Name x px, e, [], 0⟩] scope pos) d B1 := ej_of (pe_lc (own := [(x, j)]) hc nd (pi_list (we e)) ok hg (fun _ _ _ _ _ => pts_nil) (wb scope elt) hq) r
end
end
end Gd
namespace Gd
open PySem PySem.Spec PyProof.Rows L2
section
variable {X : Cx} {Γ : List VD} {B B1 B2 B3 B' : Bag} {e a b c : Expr} {es : List Expr} {d da db dc : VD} {pos p pos' : Pos} {rest ss s1 s2 : List Stmt} {E : En}
def CDivX (_ j : Int) : Prop := j ≠ 0 ∧ j.natAbs.log2 < 9000
theorem op_fdivX : OpR X (binaryOp .FloorDiv) (rI CDivX fun i j => .int (i.fdiv j)) :=
  opI fun i j _ _ _ _ _ hc q => PyProof.Rows.floordiv_int hc.1 q (.inl (PyProof.noPylong_of_log2 hc.2))
theorem ej_fdivX {i j : Int} (ha : EJ X Γ B a (.da (.int i)) B1) (hb : EJ X Γ B1 b (.da (.int j)) B2) (hc : CDivX i j) : EJ X Γ B (.BinOp a .FloorDiv b pos) (.da (.int (i.fdiv j))) B2 :=
  ej_iic ha hb op_fdivX hc fun _ => .int _
theorem ej_gcd {i j : Int} (hm : X.mg "gcd" = some (.builtin "math.gcd")) (ha : EJ X Γ B a (.da (.int i)) B1) (hb : EJ X Γ B1 b (.da (.int j)) B2) (hg : Gl X "gcd" := by rfl)
    (h1 : starEach [a, b] X.env = (false, eval a X.env) :: starEach [b] X.env := by rfl) (h2 : starEach [b] X.env = (false, eval b X.env) :: starEach [] X.env := by rfl)
    (hpl : (backTo pos (starEach [b] X.env)).any (·.1) = false := by rfl) :
    EJ X Γ B (.Call (.Name "gcd" p) [a, b] [] pos) (.da (.int (Nat.gcd i.natAbs j.natAbs : Nat))) B2 := fun g σ H0 H E O Q q =>
  ⟨_, pe_callBfun cr_gcd hg hm (wa [a, b]) (by decide) h1 hpl, (aj_cons ha (aj_cons hb aj_nil h2) h1) g σ H0 H E O _ fun vs H1 H' t o r => by
    obtain ⟨v, w, rfl, r1, r2⟩ := rv2 r
    exact ⟨i, j, by rw [rvI r1, rvI r2], q _ _ _ t o (Rp.int _)⟩⟩
theorem sj_augI (i : Nat) {x : Str} {m n : Int} (nd : X.N.Nodup) (h0 : Γ[i]? = some (.da (.int m))) (h : EJ X Γ B e (.da (.int n)) B1) (k : SJ X (Γ.set i (.da (.int (m + n)))) B1 rest E) (hi : X.N[i]? = some x := by rfl)
    (hx : Loc X.env.scope x := by first | exact Or.inl rfl | exact Or.inr rfl) (hf : X.fn x = true ∨ X.env.scope.names.lookup x = some .local := by first | exact Or.inl rfl | exact Or.inr rfl) :
    SJ X Γ B (.AugAssign (.Name x pos') .Add e pos :: rest) E := fun g σ H0 H Ev O D G =>
  ⟨_, pss_cons (ps_aug nd hi hx (we e) ip_add hf) (ws rest), by
    obtain ⟨v, hv, r⟩ := Ev.at' i _ h0 (fun z => nomatch z)
    refine ⟨v, hv, h g σ H0 H Ev O _ fun w H1 H' t o r2 => ⟨m, n, rvI r, rvI r2, ?_⟩⟩
    exact k g _ H1 H' ((Ev.mono t.ex).set (d := .da _) i (Rp.int _)) o D (G.on t)⟩
end
theorem sj_law {X : Cx} {Γ : List VD} {B B1 : Bag} {e : Expr} {x : Str} {pos pos' : Pos} {rest : List Stmt} {ns : List Int} {y : Int} (i : Nat) (nd : X.N.Nodup)
    (h : EJ X Γ B e (.da (.list [.int 0, .int y, .int 0, .list (ns.map .int)])) B1)
    (k : SJ X ((List.replicate Γ.length VD.no).set i .bag) ⟨0, y, 0, ns⟩ rest { nx := fun _ _ => False, rt := fun r _ => r = .bool true })
    (hi : X.N[i]? = some x := by rfl) (hx : Loc X.env.scope x := by first | exact Or.inl rfl | exact Or.inr rfl) (hs : swapsWith e (some (.Name x pos')) pos.line X.env = pure false := by rfl)
    (hf : X.fn x = true ∨ X.env.scope.names.lookup x = some .local := by first | exact Or.inl rfl | exact Or.inr rfl)
    {σ : L2.St} {H0 H : Hp} (Ev : EnvD X.K none H0 σ Γ) (O : On X.K none B H0 H) {Q : VK} (q : ∀ H', Q (.bl true) H') :
    WS X (.Assign [.Name x pos'] e pos :: rest) { nx := fun _ H' => Q .non H', rt := Q } σ H :=
  ⟨_, pss_cons (ps_set nd hi hx (we e) hs hf) (ws rest), h none σ H0 H Ev O _ fun v H1 H' t o r => by
    obtain ⟨p, xs, rfl, hp, rs⟩ := rvL r
    cases rs with
    | cons r0 rs =>
    cases rs with
    | cons r1 rs =>
    cases rs with
    | cons r2 rs =>
    cases rs with
    | cons r3 rs =>
    cases rs
    cases r0; cases r1; cases r2
    cases r3 with
    | lst hl rl =>
    rename_i l zs
    have ez := rl.ints_of
    subst ez
    have hlp : l ≠ p := by
      intro z
      rw [z, hp] at hl
      have e1 := HO.lst.inj (Option.some.inj hl)
      cases ns with
      | nil => cases e1
      | cons n ns =>
        cases ns with
        | nil => cases e1
        | cons m ns =>
          cases ns with
          | nil => cases e1
          | cons m2 ns =>
            cases ns with
            | nil => cases e1
            | cons m3 ns => cases e1
    refine k (some (p, l)) _ (fun b => if b = p then none else H1 b) H' ⟨?_, ?_⟩ ⟨fun b u hb => ?_, fun b m hb => ?_⟩ _ ⟨?_, ?_, ?_, ?_⟩
    · rw [List.length_set, List.length_set, List.length_replicate]; exact Ev.len
    · intro j dd hj hne
      by_cases hij : i = j
      · subst hij
        have hlt : i < Γ.length := by
          have := (List.getElem?_eq_some_iff.mp hj).1
          rwa [List.length_set, List.length_replicate] at this
        rw [List.getElem?_set_self (by rw [List.length_replicate]; exact hlt)] at hj
        cases hj
        exact ⟨.ref p, List.getElem?_set_self (by rw [Ev.len]; exact hlt), p, l, rfl, rfl⟩
      · rw [List.getElem?_set_ne hij, List.getElem?_replicate] at hj
        split at hj
        · cases hj; exact absurd rfl hne
        · cases hj
    · by_cases hb2 : b = p
      · rw [if_pos hb2] at hb; cases hb
      · rw [if_neg hb2] at hb; exact o.ex _ _ hb
    · cases hb
      refine ⟨if_pos rfl, o.ex _ _ hp, ?_⟩
      rw [if_neg hlp]; exact hl
    · intro _ _ _ _ _ z; exact z.elim
    · rintro r2 B2 v H2 H2' rfl _ _ rv
      cases rv; exact q _
    · intro _ _ _ _ _ z; exact z.elim
    · intro _ _ _ _ _ z; exact z.elim⟩
def spLaw (K : PySem.W.Frag) : Sp := fun vs H Q _ => ∃ (a : Addr) (ns : List Int), vs = [.ref a] ∧ SqL K H a (ns.map V.int) ∧ ns.length ≤ 63 ∧ ∀ H', Q (.bl true) H'
theorem law_callG {P : Program} {w : World} {K : PySem.W.Frag} {mg mb : Str → Option Value} {k : Nat} {fa a : Addr} {fd : FuncData} {x : Str} {sp : Sp} {sx : Shared} {vs : List Value} {ns : List Int}
    (KI : K.In sx.heap) (hn1 : sx.heap.Ns mainGlobals mg) (hb : sx.heap.Ns builtinsNs mb) (hbb : ∀ x : Str, x ≠ "__name__" → mb x = bootBuiltins x) (hl0 : sx.heap.NoLimit) (hg : sx.gens = #[])
    (ha : sx.heap.get? a = some { cls := .type "list", data := .seq vs.toArray }) (hi : IntsAre vs ns) (hl : ns.length ≤ sizeLine) (hr : Room k callerA)
    (F : ∀ base : Heap, K.In base → base.Ns mainGlobals mg → FnG P w K mg base k fa fd [x] sp) (hbind : ∀ (s : Shared) (u : Value), BindsTo s fd ⟨[u], []⟩ [(x, u)])
    (hsp : ∀ H : Hp, SqL K H a (ns.map V.int) → sp [.ref a] H (fun v _ => v = .bl true) fun _ _ _ => False) :
    codeAny (model P w) callerA (.call (.ref fa) ⟨[.ref a], []⟩) (fun r s' => r = Except.ok (.ret (.bool true)) ∧ OldK sx.heap s'.heap ∧ s'.os = sx.os ∧ AllBare s'.gens) sx := by
  have rv := vals_ints hi
  have lenV := hi.length
  have main : ∀ H : Hp, Only H → SqL K H a (ns.map V.int) → HOk P w H sx.heap → (∀ b, H b ≠ none → b = a) → (H a ≠ none → K.lookup a = none) →
      codeAny (model P w) callerA (.call (.ref fa) ⟨[.ref a], []⟩) (fun r s' => r = Except.ok (.ret (.bool true)) ∧ OldK sx.heap s'.heap ∧ s'.os = sx.os ∧ AllBare s'.gens) sx := by
    intro H hO hS hok hA hK
    have free : ∀ b, (∃ o, sx.heap.get? b = some o ∧ ∃ es ep, o.data = .dict es ep) → H b = none := by
      rintro b ⟨o, e, es, ep, d⟩
      cases q : H b with
      | none => rfl
      | some u =>
        have eb : b = a := hA b (by simp [q])
        rw [eb, ha] at e
        cases e
        have dd : Data.seq vs.toArray _ = Data.dict es ep := d
        cases dd
    have nsK : ∀ {b : Addr} {m : Str → Option Value}, sx.heap.Ns b m → (hidT sx.heap H).Ns b m := by
      rintro b m ⟨o, es, ep, e, dd, r⟩
      exact ⟨o, es, ep, hidT_get e (free b ⟨o, e, es, ep, dd⟩), dd, r⟩
    have hKb : K.In (hidT sx.heap H) := by
      intro b o e
      refine hidT_get (KI b o e) ?_
      cases q : H b with
      | none => rfl
      | some u =>
        have eb : b = a := hA b (by simp [q])
        rw [eb, hK (by rw [← eb]; simp [q])] at e
        cases e
    obtain ⟨mc, l1, l2⟩ := hl0
    have hM : Mod K mg (hidT sx.heap H) := ⟨hKb, nsK hn1, ⟨mb, nsK hb, hbb⟩, mc, nsK l1, l2⟩
    have e0 : Env0 P w K mg (hidT sx.heap H) callerA [] sx H :=
      ⟨rfl, hM, fun b o e => of_hidT e, Nat.le_of_eq (hidT_size _ _), trivial, fun b z => absurd (show b ∈ ([] : List Addr) from z) (by simp), hok, .of_eq hg⟩
    have cc := (F _ hKb (nsK hn1)).run callerA [] sx H ⟨[.ref a], []⟩ [.ref a] [.ref a] _ _ rfl hr e0 (hbind sx (.ref a)) (.cons rfl .nil) (hsp H hS)
    refine codeAny_mono cc fun res s2 h => ?_
    match res, h with
    | .error _, h => exact h.elim
    | .ok .next, h => exact h.elim
    | .ok .brk, h => exact h.elim
    | .ok .cont, h => exact h.elim
    | .ok (.ret u), ⟨v, H', os, bare, un, hok', r', q⟩ =>
      have q' : v = .bl true := q
      subst q'
      obtain rfl : u = .bool true := r'
      refine ⟨rfl, .of_keep fun b o e => ?_, os, bare⟩
      cases q : H b with
      | none => exact un.keep b o e q (fun z => absurd (show b ∈ ([] : List Addr) from z) (by simp)) (by simp)
      | some u =>
        cases hO b with
        | inl z => rw [q] at z; cases z
        | inr z =>
          obtain ⟨ob, xs, z⟩ := z
          obtain ⟨e1, _⟩ := hok b _ z
          obtain ⟨e2, _⟩ := hok' b _ (un.frzs b ob _ z)
          rw [e] at e1; cases e1; exact e2
  cases hk : K.lookup a with
  | some o =>
    have e := KI a o hk
    rw [ha] at e
    cases e
    refine main (fun _ => none) (fun _ => .inl rfl) (.inr ⟨_, vs.toArray, _, hk, rfl, rfl, rfl, by rw [List.size_toArray, lenV]; exact hl, by simpa using rv⟩) ?_ (fun b z => absurd rfl z) fun z => absurd rfl z
    intro b u z
    have z' : (none : Option HO) = some u := z
    cases z'
  | none =>
    have at1 : ∀ b, b ≠ a → (if b = a then some (HO.frz { cls := .type "list", data := .seq vs.toArray } (.lst (ns.map V.int))) else none) = none := fun b h => if_neg h
    refine main (fun b => if b = a then some (.frz { cls := .type "list", data := .seq vs.toArray } (.lst (ns.map V.int))) else none) (fun b => ?_) (.inl (.inr ⟨_, if_pos rfl⟩)) (fun b u z => ?_) (fun b z => ?_) fun _ => hk
    · by_cases hb : b = a
      · exact Or.inr ⟨_, _, if_pos hb⟩
      · exact .inl (if_neg hb)
    · by_cases hb : b = a
      · have zz := (if_pos hb).symm.trans z
        cases zz
        subst hb
        exact ⟨ha, by simpa using hl, vs, _, rv, ha⟩
      · have z' := (at1 b hb).symm.trans z
        cases z'
    · by_cases hb : b = a
      · exact hb
      · exact absurd (at1 b hb) z
end Gd
namespace Gd
open PySem PySem.Spec PyProof.Rows L2
def Bd (n : Nat) (i : Int) : Prop := i.natAbs < 2 ^ n
theorem Bd.le {n m : Nat} {i : Int} (h : Bd n i) (e : n ≤ m) : Bd m i := Nat.lt_of_lt_of_le h (Nat.pow_le_pow_right (by decide) e)
theorem Bd.mul {n m : Nat} {i j : Int} (h : Bd n i) (k : Bd m j) : Bd (n + m) (i * j) := wide_lt h k
theorem Bd.add {n m : Nat} {i j : Int} (h : Bd n i) (k : Bd m j) : Bd (n + m + 1) (i + j) := by
  have h1 := h.le (Nat.le_add_right n m)
  have h2 := k.le (Nat.le_add_left m n)
  have := Int.natAbs_add_le i j
  unfold Bd at *
  rw [Nat.pow_succ]; omega
theorem Bd.neg {n : Nat} {i : Int} (h : Bd n i) : Bd n (-i) := by unfold Bd; rw [Int.natAbs_neg]; exact h
theorem Bd.abs {n : Nat} {i : Int} (h : Bd n i) : Bd n (if i < 0 then -i else i) := by
  split
  · exact h.neg
  · exact h
theorem Bd.mod {n : Nat} {i j : Int} (k : Bd n j) (h : 0 < j) : Bd n (i % j) := by
  have h1 := Int.emod_nonneg i (Int.ne_of_gt h)
  have h2 := Int.emod_lt_of_pos i h
  unfold Bd at *; omega
theorem Bd.nat {n a : Nat} (h : a < 2 ^ n) : Bd n (a : Int) := h
theorem cm {n m : Nat} {i j : Int} (h : Bd n i) (k : Bd m j) (e : n + m + 2 ≤ 1000000 := by decide) : CMulW i j :=
  wide_mul (h.le (Nat.le_succ n)) (k.le (Nat.le_succ m)) (Nat.succ_pos _) (Nat.succ_pos _) (by omega)
theorem cdv {n : Nat} {i j : Int} (k : Bd n j) (h : 0 < j) (e : n + 1 ≤ 9000 := by decide) : CDivW i j := wide_div h (k.le (Nat.le_succ n)) (Nat.succ_pos _) e
theorem cdx {n : Nat} {i j : Int} (k : Bd n j) (h : j ≠ 0) (e : n + 1 ≤ 9000 := by decide) : CDivX i j := ⟨h, (wide_div (i := i) (j := ((j.natAbs : Nat) : Int)) (by omega) (by rw [Int.natAbs_natCast]; exact k.le (Nat.le_succ n)) (Nat.succ_pos _) e).2⟩
section
variable {X : Cx} {Γ : List VD} {B B1 B2 B3 B' : Bag} {e a b c : Expr} {es : List Expr} {d da db dc : VD} {pos p pos' : Pos} {rest ss s1 s2 : List Stmt} {E : En}
def AD (X : Cx) (Γ : List VD) (B : Bag) (es : List Expr) (ds : List PyData) (B' : Bag) : Prop := AJ X Γ B es (ds.map .da) B'
theorem ad_nil : AD X Γ B [] [] B := aj_nil
theorem ad_cons {y : PyData} {ds : List PyData} (h : EJ X Γ B e (.da y) B1) (r : AD X Γ B1 es ds B2) (hs : starEach (e :: es) X.env = (false, eval e X.env) :: starEach es X.env := by rfl) : AD X Γ B (e :: es) (y :: ds) B2 := aj_cons h r hs
theorem ej_tupD {ds : List PyData} {k} (h : AD X Γ B es ds B1) (hl : ds.length ≤ 1000 := by decide) : EJ X Γ B (.Tuple es k pos) (.da (.tuple ds)) B1 := ej_tup h hl
theorem ej_lstD {ds : List PyData} (h : AD X Γ B es ds B1) (hl : ds.length ≤ 1000 := by decide) : EJ X Γ B (.List es pos) (.da (.list ds)) B1 := ej_lst h hl
theorem ej_at {ds : List PyData} {i : Int} {y : PyData} {j} (ha : EJ X Γ B a (.da (.tuple ds)) B1) (h : atI ds i = some y := by rfl) : EJ X Γ B (.Subscript a (.Constant (.int i) j p) pos) (.da y) B1 :=
  ej_ixT ha ej_int h fun _ _ => rfl
theorem ej_ifI {x : Bool} {u v : Int} (h : TJ X Γ B c x B1) (h1 : x = true → EJ X Γ B1 a (.da (.int u)) B2) (h2 : x = false → EJ X Γ B1 b (.da (.int v)) B2) : EJ X Γ B (.IfExp c a b pos) (.da (.int (bif x then u else v))) B2 :=
  ej_if h (fun e => by subst e; exact h1 rfl) fun e => by subst e; exact h2 rfl
theorem sj_ifM {x : Bool} (M : List VD → Bag → Prop) (h : TJ X Γ B c x B1) (h1 : x = true → SJ X Γ B1 s1 { E with nx := M }) (h2 : x = false → SJ X Γ B1 s2 { E with nx := M }) (k : ∀ Γ' B', M Γ' B' → SJ X Γ' B' rest E) :
    SJ X Γ B (.If c s1 s2 pos :: rest) E :=
  sj_if h (fun e => sj_mono (h1 e) (fun Γ' B' q => k Γ' B' q) (fun _ _ q => q) (fun _ _ q => q) (fun _ _ q => q)) (fun e => sj_mono (h2 e) (fun Γ' B' q => k Γ' B' q) (fun _ _ q => q) (fun _ _ q => q) (fun _ _ q => q))
theorem tj_neS {i j : Str} (ha : EJ X Γ B a (.da (.str i)) B1) (hb : EJ X Γ B1 b (.da (.str j)) B2) : TJ X Γ B (.Compare a [.NotEq] [b] pos) (!decide (i = j)) B2 :=
  tj_cmp ha hb op_ne (nomark _) fun g v w H0 H O r1 r2 Q q => by
    rw [rvS r1, rvS r2]
    have e : decide (V.str i = V.str j) = decide (i = j) := by
      by_cases h : i = j
      · subst h; simp
      · rw [decide_eq_false h, decide_eq_false fun z => h (V.str.inj z)]
    refine ⟨rfl, ?_⟩
    rw [e]; exact q H0 H To.refl O
theorem ej_mulC {i j : Int} (ha : EJ X Γ B a (.da (.int i)) B1) (hb : EJ X Γ B1 b (.da (.int j)) B2) (hc : CMul i j) : EJ X Γ B (.BinOp a .Mult b pos) (.da (.int (i * j))) B2 :=
  ej_iic ha hb op_mul hc fun _ => .int _
theorem ej_atL {ds : List PyData} {i : Int} {y : PyData} {j} (ha : EJ X Γ B a (.da (.list ds)) B1) (h : atI ds i = some y) : EJ X Γ B (.Subscript a (.Constant (.int i) j p) pos) (.da y) B1 :=
  ej_ixL ha ej_int h fun _ _ => rfl
theorem eqv_refl_of {y : PyData} (h : SeqAt.shaped y = true) : PyData.eqv y y = true := SeqAt.eqv_refl y (SeqAt.canLay_of_shaped h)
end
def At (K : PySem.W.Frag) (mg : Str → Option Value) (x : Str) (st : Stmt) (ps : List Str) : Prop :=
  ∃ f fd, Fun K x x st f fd ∧ mg x = some (.ref f) ∧ Binds K fd ps []
theorem cal_at {P : Program} {w : World} {K : PySem.W.Frag} {mg : Str → Option Value} {base : Heap} {x : Str} {st : Stmt}
    {N ps : List Str} {k : Nat} {R : Rel} (T : At K mg x st ps) (S : FnScope N ps (defScope st))
    (len : ∀ Γ B r B', R Γ B r B' → Γ.length = ps.length)
    (body : ∀ (f : Addr) (cdv : Value) (A : Around) (out : List Env) (s : Shared) (H : Hp) (E : XK),
      Gx k (cxOf CX0 P w K mg base N x (defScope st) f cdv A out s H E).nox → ∀ Γ B r B', R Γ B r B' →
      SJ (cxOf CX0 P w K mg base N x (defScope st) f cdv A out s H E).nox (Γ ++ List.replicate (N.length - ps.length) .no) B (defBody st)
        { nx := fun _ B2 => r = .none ∧ B2 = B', rt := fun d B2 => d = r ∧ B2 = B' }) :
    Cal P w K mg base x (k + 1) R := by
  obtain ⟨f, fd, F, hm, hb⟩ := T
  exact cal_of F hm hb S len fun cdv A out s H E G => body f cdv A out s H E G
end Gd
namespace Fr
open Gd PySem
open scoped Rat
def fq (q : Rat) : PyData := .tuple [.int q.num, .int (q.den : Int)]
def com (n d : Int) : Int := if d < 0 then -((Nat.gcd n.natAbs d.natAbs : Nat) : Int) else ((Nat.gcd n.natAbs d.natAbs : Nat) : Int)
theorem com_ne {n d : Int} (h : d ≠ 0) : com n d ≠ 0 := by
  have : 0 < Nat.gcd n.natAbs d.natAbs := Nat.gcd_pos_of_pos_right _ (by omega)
  unfold com; split <;> omega
theorem com_bd {n d : Int} {k : Nat} (h : d ≠ 0) (b : Bd k d) : Bd k (com n d) := by
  have h1 : Nat.gcd n.natAbs d.natAbs ≤ d.natAbs := Nat.gcd_le_right _ (by omega)
  unfold Bd com at *; split <;> omega
theorem red_num {n d : Int} (h : d ≠ 0) : n.fdiv (com n d) = (n /. d).num := by
  rw [Rat.num_divInt]
  have hg : (d.gcd n : Int) = (Nat.gcd n.natAbs d.natAbs : Nat) := by rw [Int.gcd_comm]; rfl
  rw [hg]
  unfold com
  by_cases hd : d < 0
  · rw [if_pos hd, Int.sign_eq_neg_one_of_neg hd, Int.neg_one_mul]
    have := Int.neg_fdiv_neg (-n) ((Nat.gcd n.natAbs d.natAbs : Nat) : Int)
    rw [Int.neg_neg] at this
    rw [this, Int.fdiv_eq_ediv_of_nonneg _ (Int.natCast_nonneg _)]
  · rw [if_neg hd, Int.sign_eq_one_of_pos (by omega), Int.one_mul, Int.fdiv_eq_ediv_of_nonneg _ (Int.natCast_nonneg _)]
theorem red_den {n d : Int} (h : d ≠ 0) : d.fdiv (com n d) = ((n /. d).den : Int) := by
  rw [Rat.den_divInt, if_neg h]
  have hg : d.gcd n = Nat.gcd n.natAbs d.natAbs := by rw [Int.gcd_comm]; rfl
  rw [hg]
  unfold com
  by_cases hd : d < 0
  · rw [if_pos hd]
    have := Int.neg_fdiv_neg (-d) ((Nat.gcd n.natAbs d.natAbs : Nat) : Int)
    rw [Int.neg_neg] at this
    rw [this, Int.fdiv_eq_ediv_of_nonneg _ (Int.natCast_nonneg _)]
    rw [Int.natCast_ediv]
    have : -d = (d.natAbs : Int) := by omega
    rw [this]
  · rw [if_neg hd, Int.fdiv_eq_ediv_of_nonneg _ (Int.natCast_nonneg _), Int.natCast_ediv]
    have : d = (d.natAbs : Int) := by omega
    conv => lhs; lhs; rw [this]
theorem divInt_bd {n d : Int} {a b : Nat} (h : d ≠ 0) (ha : Bd a n) (hb : Bd b d) : Bd a (n /. d).num ∧ Bd b ((n /. d).den : Int) := by
  constructor
  · rw [← red_num h]
    unfold Bd at *
    refine Nat.lt_of_le_of_lt ?_ ha
    rw [red_num h, Rat.num_divInt]
    refine Nat.le_trans (Int.natAbs_ediv_le_natAbs _ _) ?_
    rw [Int.natAbs_mul, Int.natAbs_sign_of_ne_zero h, Nat.one_mul]
    exact Nat.le_refl _
  · unfold Bd at *
    rw [Int.natAbs_natCast, Rat.den_divInt, if_neg h]
    exact Nat.lt_of_le_of_lt (Nat.div_le_self _ _) hb
theorem den_pos (q : Rat) : (0 : Int) < (q.den : Int) := Int.natCast_pos.mpr q.den_pos
theorem den_ne (q : Rat) : (q.den : Int) ≠ 0 := Int.ne_of_gt (den_pos q)
theorem self_div (q : Rat) : q.num /. (q.den : Int) = q := Rat.num_divInt_den q
theorem add_div (x y : Rat) : (x.num * (y.den : Int) + y.num * (x.den : Int)) /. ((x.den : Int) * (y.den : Int)) = x + y := by
  rw [← Rat.divInt_add_divInt _ _ (den_ne x) (den_ne y), self_div, self_div]
theorem mul_div (x y : Rat) : (x.num * y.num) /. ((x.den : Int) * (y.den : Int)) = x * y := by
  rw [← Rat.divInt_mul_divInt, self_div, self_div]
end Fr
namespace Gd
open PySem PySem.Spec PyProof.Rows L2
mutual
def nice : PyData → Bool
  | .none => true
  | .bool _ => true
  | .int i => decide (Nat.log2 i.natAbs < 1920)
  | .str x => x.cps.all fun c => c < 0x110000
  | .list xs => niceAll xs
  | .tuple xs => niceAll xs
  | .dict _ => false
def niceAll : List PyData → Bool
  | [] => true
  | x :: xs => nice x && niceAll xs
end
mutual
theorem nice_sh : ∀ d : PyData, nice d = true → d.showable = true
  | .none, _ => by simp only [PyData.showable]
  | .bool _, _ => by simp only [PyData.showable]
  | .int i, h => by simp only [nice] at h; simp only [PyData.showable]; exact h
  | .str _, _ => by simp only [PyData.showable]
  | .list xs, h => by simp only [nice] at h; simp only [PyData.showable]; exact nice_shA xs h
  | .tuple xs, h => by simp only [nice] at h; simp only [PyData.showable]; exact nice_shA xs h
  | .dict _, h => by simp only [nice] at h; cases h
theorem nice_shA : ∀ ds : List PyData, niceAll ds = true → PyData.showableAll ds = true
  | [], _ => by
    simp only [PyData.showableAll]
  | x :: xs, h => by
    simp only [niceAll, Bool.and_eq_true] at h
    simp only [PyData.showableAll, Bool.and_eq_true]; exact ⟨nice_sh x h.1, nice_shA xs h.2⟩
end
mutual
theorem nice_nd : ∀ d : PyData, nice d = true → d.hasDict = false
  | .none, _ => by simp only [PyData.hasDict]
  | .bool _, _ => by simp only [PyData.hasDict]
  | .int i, h => by simp only [PyData.hasDict]
  | .str _, _ => by simp only [PyData.hasDict]
  | .list xs, h => by simp only [nice] at h; simp only [PyData.hasDict]; exact nice_ndA xs h
  | .tuple xs, h => by simp only [nice] at h; simp only [PyData.hasDict]; exact nice_ndA xs h
  | .dict _, h => by simp only [nice] at h; cases h
theorem nice_ndA : ∀ ds : List PyData, niceAll ds = true → PyData.hasDictAll ds = false
  | [], _ => by simp only [PyData.hasDictAll]
  | x :: xs, h => by
    simp only [niceAll, Bool.and_eq_true] at h
    simp only [PyData.hasDictAll, Bool.or_eq_false_iff]; exact ⟨nice_nd x h.1, nice_ndA xs h.2⟩
end
mutual
theorem nice_lay : ∀ d : PyData, nice d = true → d.canLay0 = true
  | .none, _ => by simp only [PyData.canLay0]
  | .bool _, _ => by simp only [PyData.canLay0]
  | .int i, h => by simp only [PyData.canLay0]
  | .str _, h => by simp only [nice] at h; simp only [PyData.canLay0]; exact h
  | .list xs, h => by simp only [nice] at h; simp only [PyData.canLay0]; exact nice_layA xs h
  | .tuple xs, h => by simp only [nice] at h; simp only [PyData.canLay0]; exact nice_layA xs h
  | .dict _, h => by simp only [nice] at h; cases h
theorem nice_layA : ∀ ds : List PyData, niceAll ds = true → PyData.canLayAll0 ds = true
  | [], _ => by simp only [PyData.canLayAll0]
  | x :: xs, h => by
    simp only [niceAll, Bool.and_eq_true] at h
    simp only [PyData.canLayAll0, Bool.and_eq_true]; exact ⟨nice_lay x h.1, nice_layA xs h.2⟩
end
mutual
theorem nice_short : ∀ d : PyData, nice d = true → d.leavesShort 1921 = true
  | .none, _ => by simp only [PyData.leavesShort]
  | .bool _, _ => by simp only [PyData.leavesShort]
  | .int i, h => by
    simp only [nice, decide_eq_true_eq] at h
    simp only [PyData.leavesShort, decide_eq_true_eq, PyData.shown_int]
    exact int_text_len_1921 h
  | .str x, h => by
    simp only [nice] at h
    simp only [PyData.leavesShort, List.all_eq_true, decide_eq_true_eq]
    intro c hc
    have h2 := Array.all_eq_true'.mp h c (by simpa using hc)
    have h3 : c < 0x110000 := of_decide_eq_true h2
    omega
  | .list xs, h => by simp only [nice] at h; simp only [PyData.leavesShort]; exact nice_shortA xs h
  | .tuple xs, h => by simp only [nice] at h; simp only [PyData.leavesShort]; exact nice_shortA xs h
  | .dict _, h => by simp only [nice] at h; cases h
theorem nice_shortA : ∀ ds : List PyData, niceAll ds = true → PyData.leavesShortAll 1921 ds = true
  | [], _ => by simp only [PyData.leavesShortAll]
  | x :: xs, h => by
    simp only [niceAll, Bool.and_eq_true] at h
    simp only [PyData.leavesShortAll, Bool.and_eq_true]; exact ⟨nice_short x h.1, nice_shortA xs h.2⟩
end
structure Okd (d : PyData) : Prop where
  nice : Gd.nice d = true
  dp : d.depth ≤ 60
  bulk : d.bulk ≤ 5000
theorem Okd.shows {d : PyData} (h : Okd d) : Shows d := ⟨nice_sh d h.nice, nice_nd d h.nice, h.dp, by
  have h1 := PyData.shown_le_bulk 1921 (by decide) d (nice_short d h.nice)
  have h2 := h.bulk
  rw [show sizeLine = 16777216 from by decide]
  omega⟩
theorem Okd.shaped {d : PyData} (h : Okd d) : SeqAt.shaped d = true := by
  unfold SeqAt.shaped
  rw [nice_lay d h.nice, Bool.true_and, decide_eq_true_eq]
  have := h.dp; omega
theorem nice_int {n : Nat} {i : Int} (h : Bd n i) (e : n ≤ 1920 := by decide) : nice (.int i) = true := by
  simp only [nice, decide_eq_true_eq]
  by_cases h0 : 0 < n
  · exact Nat.lt_of_lt_of_le (PySem.Flt.log2_lt_of h0 h) e
  · have : n = 0 := by omega
    subst this
    have : i.natAbs = 0 := by unfold Bd at h; omega
    rw [this]; decide
theorem niceAll_cons {d : PyData} {ds : List PyData} (h : nice d = true) (r : niceAll ds = true) : niceAll (d :: ds) = true := by simp only [niceAll, h, r, Bool.and_self]
theorem niceAll_nil : niceAll [] = true := by simp only [niceAll]
theorem nice_list {ds : List PyData} (r : niceAll ds = true) : nice (.list ds) = true := by simp only [nice]; exact r
theorem nice_tuple {ds : List PyData} (r : niceAll ds = true) : nice (.tuple ds) = true := by simp only [nice]; exact r
end Gd
namespace Gd
open PySem PySem.Spec PyProof.Rows L2
theorem at_mk {K : PySem.W.Frag} {h : Heap} {mg : Str → Option Value} {x : Str} {st : Stmt} (ps : List Str) {f : Addr} {oc : Value} {od an : Option Addr} {osl : Array (Option Value)} {kV doc pm cdv ct : Value}
    (X : K.In h) (G : h.Ns mainGlobals mg) (a : PySem.W.nsIn K mainGlobals x = some (some (.ref f)))
    (l : K.lookup f = some ⟨oc, od, .func (PySem.W.fnOf x x (defArgs st) (defBody st) (defScope st) .none kV doc pm an cdv ct), osl⟩) (c : PySem.W.codeIn K cdv x = true) (k : PySem.W.keepIn K (.ref f) = true)
    (b : ∀ (kV doc pm : Value) (an : Option Addr) (cdv ct : Value) (us : List Value), us.length = ps.length → bindArgs (PySem.W.fnOf x x (defArgs st) (defBody st) (defScope st) .none kV doc pm an cdv ct) ⟨us, []⟩ = pure (ps.zip us)) :
    At K mg x st ps := ⟨f, _, fun_mk l c k, PySem.W.mg_of X G a, (fun_mk (st := st) l c k).binds b⟩
theorem law_mk {P : Program} {w : World} {K : PySem.W.Frag} {h : Heap} {mg : Str → Option Value} {st : Stmt} {fa f : Addr} {oc : Value} {od an : Option Addr} {osl : Array (Option Value)} {kV doc pm cdv ct : Value} {n : Nat}
    (X : K.In h) (G : h.Ns mainGlobals mg) (hfa : mg "law" = some (.ref fa)) (a : PySem.W.nsIn K mainGlobals "law" = some (some (.ref f)))
    (l : K.lookup f = some ⟨oc, od, .func (PySem.W.fnOf "law" "law" (defArgs st) (defBody st) (defScope st) .none kV doc pm an cdv ct), osl⟩) (c : PySem.W.codeIn K cdv "law" = true) (k : PySem.W.keepIn K (.ref f) = true)
    (b : ∀ (s : Shared) (v : Value), BindsTo s (PySem.W.fnOf "law" "law" (defArgs st) (defBody st) (defScope st) .none kV doc pm an cdv ct) ⟨[v], []⟩ [("_law_script", v)])
    (H : ∀ (base : Heap) (f : Addr) (fd : FuncData), Fun K "law" "law" st f fd → FnG P w K mg base n f fd ["_law_script"] (spLaw K)) :
    ∃ fd : FuncData, (∀ (s : Shared) (v : Value), BindsTo s fd ⟨[v], []⟩ [("_law_script", v)]) ∧ ∀ base : Heap, K.In base → base.Ns mainGlobals mg → FnG P w K mg base n fa fd ["_law_script"] (spLaw K) := by
  have e := hfa.symm.trans (PySem.W.mg_of X G a)
  cases e
  exact ⟨_, b, fun base _ _ => H base _ _ (fun_mk l c k)⟩
end Gd
namespace Gd
open PySem PySem.Spec PyProof.Rows L2
def keyT (e : Int × Value) : Str := match e.2 with | .str k _ => k | _ => Str.empty
def TxE (w : World) (e : Int × Value) : Prop := ∃ k tk, e.2 = Value.str k tk ∧ e.1 = hashStr w k
structure TxAt (w : World) (l : List Str) (o : Obj) (es : Array (Int × Value)) (t : SetTable) : Prop where
  ex : o.ExactSet
  el : ∀ e ∈ es.toList, TxE w e
  nd : (es.toList.map keyT).Nodup
  me : ∀ k, k ∈ es.toList.map keyT ↔ k ∈ l
  sz : es.size ≤ l.length
  ft : t.fits es.size = true
  ri : Ris t.place.toList
  ld : w.params.followText "set-order" = true ∨ t.led = true
def TxSet (w : World) (h : Heap) (a : Addr) (l : List Str) : Prop := ∃ o es ep t, h.get? a = some o ∧ o.data = .set es ep t ∧ TxAt w l o es t
theorem TxSet.at {w : World} {h h' : Heap} {a : Addr} {l : List Str} (R : TxSet w h a l) (k : ∀ o, h.get? a = some o → h'.get? a = some o) : TxSet w h' a l :=
  let ⟨o, es, ep, t, ho, r⟩ := R; ⟨o, es, ep, t, k o ho, r⟩
section
variable {P : Program} {w : World} {A : Around} {E : Value → Shared → Prop} {s : Shared} {a : Addr} {l : List Str}
end
end Gd
namespace Gd
open PySem PySem.Spec PyProof.Rows L2
section
variable {P : Program} {w : World} {A : Around} {s : Shared} {E : Value → Shared → Prop}
end
end Gd
namespace Gd
open PySem PySem.Spec PyProof.Rows L2
section
variable {P : Program} {w : World} {A : Around} {E : Value → Shared → Prop} {s : Shared} {a : Addr} {l : List Str}
end
section
variable {X : Cx}
end
end Gd
namespace Gd
open PySem PySem.Spec PyProof.Rows L2
structure Own (K : PySem.W.Frag) (i : Nat) (g : Gh) (A0 A1 : Hp) (a : Addr) (B : Bag) (Γ : List VD) (acc : List PyData) (σ : L2.St) (H0 H : Hp) : Prop where
  to : To g A0 A1 H0 H
  fr : A1 a = none
  off : Off g a
  ev : EnvD K g H0 σ Γ
  at' : σ[i]? = some (some (.ref a))
  no : H0 a = none
  ls : ∃ zs, H a = some (.lst zs) ∧ RpAll K H0 zs acc
  on : On K g B H0 H
theorem Own.freeze {K : PySem.W.Frag} {i : Nat} {g : Gh} {A0 A1 : Hp} {a : Addr} {B : Bag} {Γ : List VD} {acc : List PyData} {σ : L2.St} {H0 H : Hp} (O : Own K i g A0 A1 a B Γ acc σ H0 H) :
    ∃ H1, To g A0 A1 H1 H ∧ EnvD K g H1 σ (Γ.set i (.da (.list acc))) ∧ On K g B H1 H := by
  obtain ⟨zs, hz, rz⟩ := O.ls
  have sm : Same H0 (upd H0 a (.lst zs)) := fun b o e => by
    rw [upd_ne fun z : b = a => by rw [z, O.no] at e; cases e]; exact e
  refine ⟨upd H0 a (.lst zs), ⟨O.to.ex.trans sm, fun b o f h1 h2 => ?_⟩, ?_, ⟨fun b o e => ?_, fun b l e => ?_⟩⟩
  · have hb : b ≠ a := fun z => by rw [z, O.fr] at h2; cases h2
    obtain ⟨p, q⟩ := O.to.un b o f h1 h2
    exact ⟨by rw [upd_ne hb]; exact p, q⟩
  · have e := (O.ev.mono sm).set (v := .ref a) (d := .da (.list acc)) i (Rp.lst upd_same (rz.mono sm))
    have es : σ.set i (some (.ref a)) = σ := by
      apply List.ext_getElem?
      intro j
      by_cases hj : i = j
      · subst hj
        rw [List.getElem?_set_self (List.getElem?_eq_some_iff.mp O.at').1, O.at']
      · rw [List.getElem?_set_ne hj]
    rw [es] at e; exact e
  · by_cases hb : b = a
    · subst hb; rw [upd_same] at e; rw [hz]; exact e
    · rw [upd_ne hb] at e; exact O.on.ex b o e
  · obtain ⟨p, q, r⟩ := O.on.bag b l e
    have hb : b ≠ a := fun z => O.off l (z ▸ e)
    have hl : l ≠ a := fun z => by rw [z, O.no] at r; cases r
    exact ⟨by rw [upd_ne hb]; exact p, q, by rw [upd_ne hl]; exact r⟩
structure EnO where
  nx : List VD → Bag → List PyData → Prop
  fx : List VD → Bag → Prop
  rt : PyData → Bag → Prop
  bk : List VD → Bag → List PyData → Prop := fun _ _ _ => False
  ct : List VD → Bag → List PyData → Prop := fun _ _ _ => False
  ro : List PyData → Bag → Prop := fun _ _ => False
  fc : List VD → Bag → Prop := fun _ _ => False
structure GetsO (X : Cx) (i : Nat) (E : EnO) (g : Gh) (A0 A1 : Hp) (a : Addr) (S : Hp) (D : Ends) : Prop where
  nx : ∀ Γ B acc σ H0 H, E.nx Γ B acc → Own X.K i g A0 A1 a B Γ acc σ H0 H → Same S H0 → D.nx σ H
  fx : ∀ Γ B σ H0 H, E.fx Γ B → To g A0 A1 H0 H → EnvD X.K g H0 σ Γ → On X.K g B H0 H → D.nx σ H
  rt : ∀ r B v H0 H, E.rt r B → To g A0 A1 H0 H → On X.K g B H0 H → Rp X.K H0 v r → D.rt v H
  bk : ∀ Γ B acc σ H0 H, E.bk Γ B acc → Own X.K i g A0 A1 a B Γ acc σ H0 H → Same S H0 → D.bk σ H
  ct : ∀ Γ B acc σ H0 H, E.ct Γ B acc → Own X.K i g A0 A1 a B Γ acc σ H0 H → Same S H0 → D.ct σ H
  ro : ∀ Γ B acc σ H0 H, E.ro acc B → Own X.K i g A0 A1 a B Γ acc σ H0 H → Same S H0 → D.rt (.ref a) H
  fc : ∀ Γ B σ H0 H, E.fc Γ B → To g A0 A1 H0 H → EnvD X.K g H0 σ Γ → On X.K g B H0 H → D.ct σ H
theorem GetsO.on {X : Cx} {i : Nat} {E : EnO} {g : Gh} {A0 A1 : Hp} {a : Addr} {S S' : Hp} {D : Ends} (G : GetsO X i E g A0 A1 a S D) (e : Same S S') : GetsO X i E g A0 A1 a S' D :=
  ⟨fun Γ B acc σ H0 H q w m => G.nx Γ B acc σ H0 H q w (e.trans m), G.fx, G.rt, fun Γ B acc σ H0 H q w m => G.bk Γ B acc σ H0 H q w (e.trans m), fun Γ B acc σ H0 H q w m => G.ct Γ B acc σ H0 H q w (e.trans m), fun Γ B acc σ H0 H q w m => G.ro Γ B acc σ H0 H q w (e.trans m), G.fc⟩
def OwJ (X : Cx) (i : Nat) (Γ : List VD) (B : Bag) (acc : List PyData) (ss : List Stmt) (E : EnO) : Prop :=
  ∀ g σ A0 A1 a H0 H, Own X.K i g A0 A1 a B Γ acc σ H0 H → ∀ D : Ends, GetsO X i E g A0 A1 a H0 D → WS X ss D σ H
def FJ (X : Cx) (Γ : List VD) (B : Bag) (e : Expr) (ds : List PyData) (B' : Bag) : Prop :=
  ∀ g σ H0 H, EnvD X.K g H0 σ Γ → On X.K g B H0 H → ∀ Q : VK,
    (∀ a zs H0' H', To g H0 H H0' H' → On X.K g B' H0' H' → RpAll X.K H0' zs ds → H' a = none → Q (.ref a) (upd H' a (.lst zs))) → WE X e σ H Q
section
variable {X : Cx} {i : Nat} {Γ : List VD} {B B1 B2 B' : Bag} {acc ds : List PyData} {e a b c : Expr} {es : List Expr} {d da db : VD} {y : PyData} {pos p p1 p2 p3 pos' : Pos} {rest ss s1 s2 : List Stmt} {E : EnO}
theorem fj_lst (h : AJ X Γ B es (ds.map .da) B1) (hl : ds.length ≤ 1000) : FJ X Γ B (.List es pos) ds B1 := fun g σ H0 H E O Q q =>
  ⟨_, pe_lst (wa es), h g σ H0 H E O _ fun vs H1 H' t o rs => by
    have rs := RvAll.dat rs
    exact ⟨by rw [rs.length]; exact Nat.le_of_lt (small1000 hl), fun p n => q p vs H1 H' t o rs n⟩⟩
theorem fj_lstD (h : AD X Γ B es ds B1) (hl : ds.length ≤ 1000 := by decide) : FJ X Γ B (.List es pos) ds B1 := fj_lst h hl
theorem sj_own {x : Str} {Es : En} (i : Nat) (nd : X.N.Nodup) (h : FJ X Γ B e ds B1) (hΓ : i < Γ.length)
    (k : OwJ X i (Γ.set i .no) B1 ds rest { nx := fun Γ' B' acc => Es.nx (Γ'.set i (.da (.list acc))) B', fx := Es.nx, rt := Es.rt, bk := fun Γ' B' acc => Es.bk (Γ'.set i (.da (.list acc))) B', ct := fun Γ' B' acc => Es.ct (Γ'.set i (.da (.list acc))) B' })
    (hi : X.N[i]? = some x := by rfl) (hx : Loc X.env.scope x := by first | exact Or.inl rfl | exact Or.inr rfl) (hs : swapsWith e (some (.Name x pos')) pos.line X.env = pure false := by rfl)
    (hf : X.fn x = true ∨ X.env.scope.names.lookup x = some .local := by first | exact Or.inl rfl | exact Or.inr rfl) : SJ X Γ B (.Assign [.Name x pos'] e pos :: rest) Es := fun g σ H0 H Ev O D G =>
  ⟨_, pss_cons (ps_set nd hi hx (we e) hs hf) (ws rest), h g σ H0 H Ev O _ fun a zs H1 H' t o r n => by
    have n1 : H1 a = none := o.ex.free n
    have off : Off g a := fun l z => by
      obtain ⟨_, q, _⟩ := o.bag a l z
      rw [n] at q; cases q
    have on : On X.K g B1 H1 (upd H' a (.lst zs)) := ⟨fun b u q => by
      rw [upd_ne (ne_of_none q n1)]; exact o.ex b u q, fun b l q => by
      obtain ⟨p1, p2, p3⟩ := o.bag b l q
      exact ⟨p1, by rw [upd_ne (ne_of_none p2 n)]; exact p2, p3⟩⟩
    have hi' : i < σ.length := by rw [Ev.len]; exact hΓ
    have ev : EnvD X.K g H1 (σ.set i (some (.ref a))) (Γ.set i .no) := (Ev.mono t.ex).set i (show Rv X.K g H1 (.ref a) .no from trivial)
    refine k g _ H1 H' a H1 _ ⟨⟨Same.refl _, fun b u f h1 h2 => ⟨h1, by rw [upd_ne (ne_of_none h2 n)]; exact h2⟩⟩, n, off, ev, List.getElem?_set_self hi', n1, ⟨zs, upd_same, r⟩, on⟩ D ⟨?_, ?_, ?_, ?_, ?_, ?_, ?_⟩
    · intro Γ' B' acc σ' H2 H2' q w _
      obtain ⟨H3, t3, e3, o3⟩ := w.freeze
      exact G.nx _ _ _ _ _ q (t.trans t3) e3 o3
    · intro Γ' B' σ' H2 H2' q t2 e2 o2
      exact G.nx _ _ _ _ _ q (t.trans t2) e2 o2
    · intro r B' v H2 H2' q t2 o2 rv
      exact G.rt _ _ _ _ _ q (t.trans t2) o2 rv
    · intro Γ' B' acc σ' H2 H2' q w _
      obtain ⟨H3, t3, e3, o3⟩ := w.freeze
      exact G.bk _ _ _ _ _ q (t.trans t3) e3 o3
    · intro Γ' B' acc σ' H2 H2' q w _
      obtain ⟨H3, t3, e3, o3⟩ := w.freeze
      exact G.ct _ _ _ _ _ q (t.trans t3) e3 o3
    · intro _ _ _ _ _ _ q; exact q.elim
    · intro _ _ _ _ _ q; exact q.elim⟩
theorem ow_end (h : SJ X (Γ.set i (.da (.list acc))) B ss { nx := E.fx, rt := E.rt, ct := E.fc }) : OwJ X i Γ B acc ss E := fun g σ A0 A1 a H0 H w D G => by
  obtain ⟨H1, t, ev, o⟩ := w.freeze
  exact h g σ H1 H ev o D ⟨fun Γ' B' σ' H2 H2' q t2 e2 o2 => G.fx _ _ _ _ _ q (t.trans t2) e2 o2, fun r B' v H2 H2' q t2 o2 rv => G.rt _ _ _ _ _ q (t.trans t2) o2 rv, fun _ _ _ _ _ q => q.elim, fun Γ' B' σ' H2 H2' q t2 e2 o2 => G.fc _ _ _ _ _ q (t.trans t2) e2 o2⟩
theorem ow_nil (h : E.nx Γ B acc) : OwJ X i Γ B acc [] E := fun g σ A0 A1 a H0 H w D G => ⟨_, pss_nil, G.nx _ _ _ _ _ _ h w (Same.refl _)⟩
theorem Own.step {K : PySem.W.Frag} {g : Gh} {A0 A1 : Hp} {a : Addr} {σ : L2.St} {H0 H H0' H' : Hp} (w : Own K i g A0 A1 a B Γ acc σ H0 H) (t : To g H0 H H0' H') (o : On K g B1 H0' H') : Own K i g A0 A1 a B1 Γ acc σ H0' H' := by
  obtain ⟨zs, hz, rz⟩ := w.ls
  obtain ⟨p, q⟩ := t.un a _ w.off w.no hz
  exact ⟨w.to.trans t, w.fr, w.off, w.ev.mono t.ex, w.at', p, ⟨zs, q, rz.mono t.ex⟩, o⟩
theorem ow_set {x : Str} (j : Nat) (nd : X.N.Nodup) (hij : j ≠ i) (h : EJ X Γ B e d B1) (k : OwJ X i (Γ.set j d) B1 acc rest E) (hi : X.N[j]? = some x := by rfl)
    (hx : Loc X.env.scope x := by first | exact Or.inl rfl | exact Or.inr rfl) (hs : swapsWith e (some (.Name x pos')) pos.line X.env = pure false := by rfl)
    (hf : X.fn x = true ∨ X.env.scope.names.lookup x = some .local := by first | exact Or.inl rfl | exact Or.inr rfl) : OwJ X i Γ B acc (.Assign [.Name x pos'] e pos :: rest) E := fun g σ A0 A1 a H0 H w D G =>
  ⟨_, pss_cons (ps_set nd hi hx (we e) hs hf) (ws rest), h g σ H0 H w.ev w.on _ fun v H1 H' t o r => by
    have w2 := w.step t o
    exact k g _ A0 A1 a H1 H' ⟨w2.to, w2.fr, w2.off, w2.ev.set j r, by rw [List.getElem?_set_ne hij]; exact w2.at', w2.no, w2.ls, w2.on⟩ D (G.on t.ex)⟩
theorem ow_app {x : Str} (nd : X.N.Nodup) (h : EJ X Γ B e (.da y) B1) (hl : acc.length < 1000) (k : OwJ X i Γ B1 (acc ++ [y]) rest E) (hi : X.N[i]? = some x := by rfl)
    (hv : Vis X.env.scope x := by first | exact Or.inl rfl | exact Or.inr (Or.inl rfl) | exact Or.inr (Or.inr rfl))
    (h1 : (x == ("__debug__" : Str)) = false := by decide) (h2 : (x == ("__classdict__" : Str)) = false := by decide)
    (hbase : attributeBase (.Name x p1) "append" X.env (eval (.Name x p1) X.env) = eval (.Name x p1) X.env := by rfl)
    (hfew : ((backTo p3 (starEach [e] X.env)).all (fun x => !x.1) && (backToKw p3 (keywordEach [] X.env)).all (fun x => x.1.isSome)
      && decide ([e].length + ([] : List Keyword).length + (if ([] : List Keyword).isEmpty then 0 else 1) < 30)) = true := by rfl)
    (hline : (p2.endLine == p3.line) = true := by rfl) (hst : starEach [e] X.env = [(false, eval e X.env)] := by rfl)
    (hs : swapsWith (.Call (.Attribute (.Name x p1) "append" p2) [e] [] p3) none pos.line X.env = pure false := by rfl) :
    OwJ X i Γ B acc (.Expr (.Call (.Attribute (.Name x p1) "append" p2) [e] [] p3) pos :: rest) E := fun g σ A0 A1 a H0 H w D G =>
  ⟨_, pss_cons (ps_expr (pe_bm PySem.F.plainAttrs_list PySem.F.slot_list_append PySem.F.type_list_append mt_append (pe_var hi hv h1 h2) (wa [e]) hbase hfew hline hst rfl) hs) (ws rest), by
    obtain ⟨zs, hz, rz⟩ := w.ls
    refine ⟨_, w.at', .inl ⟨rfl, _, SqL.of hz⟩, ?_⟩
    refine (aj_cons (ds := []) h aj_nil hst) g σ H0 H w.ev w.on _ fun vs H1 H' t o rs => ?_
    obtain ⟨v, rfl, rv⟩ := rv1 rs
    have w2 := w.step t o
    obtain ⟨zs2, hz2, rz2⟩ := w2.ls
    refine ⟨a, zs2, v, rfl, rfl, hz2, by rw [rz2.length]; exact small1000 (Nat.le_of_lt hl), ?_⟩
    refine k g σ A0 A1 a H1 _ ⟨⟨w2.to.ex, fun b u f q1 q2 => ?_⟩, w2.fr, w2.off, w2.ev, w2.at', w2.no, ⟨zs2 ++ [v], upd_same, rz2.app (.cons rv .nil)⟩, ⟨fun b u q => ?_, fun b l q => ?_⟩⟩ D (G.on t.ex)
    · obtain ⟨p, q⟩ := w2.to.un b u f q1 q2
      exact ⟨p, by rw [upd_ne (ne_of_none q2 w2.fr)]; exact q⟩
    · rw [upd_ne (ne_of_none q w2.no)]; exact w2.on.ex b u q
    · obtain ⟨p1, p2, p3⟩ := w2.on.bag b l q
      exact ⟨p1, by rw [upd_ne fun z : b = a => w2.off l (z ▸ q)]; exact p2, p3⟩⟩
theorem ow_while (P : List VD → Bag → List PyData → Prop) (μ : List VD → Bag → List PyData → Nat) (h0 : P Γ B acc)
    (hs : ∀ Γ B acc, P Γ B acc → ∃ x, TJ X Γ B c x B ∧
      (x = true → OwJ X i Γ B acc s1 { nx := fun Γ' B' acc' => P Γ' B' acc' ∧ μ Γ' B' acc' < μ Γ B acc, fx := fun _ _ => False, ct := fun Γ' B' acc' => P Γ' B' acc' ∧ μ Γ' B' acc' < μ Γ B acc, rt := E.rt }) ∧
      (x = false → OwJ X i Γ B acc rest E))
    (hp : PassesOwn (model X.prog X.w) X.A X.env X.xe := by exact PassesOwn.never) : OwJ X i Γ B acc (.While c s1 [] pos :: rest) E := fun g σ A0 A1 a H0 H w D G =>
  ⟨_, pss_cons (ps_while hp (wt c) (ws s1)) (ws rest), by
    refine ⟨fun m σ' H' => ∃ Γ' B' acc' H1, P Γ' B' acc' ∧ μ Γ' B' acc' = m ∧ Own X.K i g A0 A1 a B' Γ' acc' σ' H1 H' ∧ Same H0 H1, ⟨_, Γ, B, acc, H0, h0, rfl, w, Same.refl _⟩, ?_⟩
    rintro m σ' H' ⟨Γ', B', acc', H1, hP, rfl, w1, sm⟩
    obtain ⟨x, ht, hb, hd⟩ := hs Γ' B' acc' hP
    refine ht g σ' H1 H' w1.ev w1.on _ fun H2 H'' t2 o2 => ?_
    have w2 := w1.step t2 o2
    cases x with
    | true =>
      refine iteT ⟨fun σ2 H3' => ∃ m', m' < μ Γ' B' acc' ∧ ∃ Γ2 B2 acc2 H3, P Γ2 B2 acc2 ∧ μ Γ2 B2 acc2 = m' ∧ Own X.K i g A0 A1 a B2 Γ2 acc2 σ2 H3 H3' ∧ Same H0 H3, fun _ _ z => z, ?_⟩
      refine hb rfl g σ' A0 A1 a H2 H'' w2 _ ⟨?_, ?_, ?_, ?_, ?_, ?_, ?_⟩
      · rintro Γ3 B3 acc3 σ3 H3 H3' ⟨q1, q2⟩ w3 m3
        exact ⟨_, q2, Γ3, B3, acc3, H3, q1, rfl, w3, (sm.trans t2.ex).trans m3⟩
      · intro _ _ _ _ _ q; exact q.elim
      · intro r B3 v H3 H3' q t3 o3 rv
        exact G.rt r B3 v H3 H3' q t3 o3 rv
      · intro _ _ _ _ _ _ q; exact q.elim
      · rintro Γ3 B3 acc3 σ3 H3 H3' ⟨q1, q2⟩ w3 m3
        exact ⟨_, q2, Γ3, B3, acc3, H3, q1, rfl, w3, (sm.trans t2.ex).trans m3⟩
      · intro _ _ _ _ _ _ q; exact q.elim
      · intro _ _ _ _ _ q; exact q.elim
    | false => exact iteF (hd rfl g σ' A0 A1 a H2 H'' w2 D (G.on (sm.trans t2.ex)))⟩
end
end Gd
namespace Gd
open PySem PySem.Spec PyProof.Rows L2
section
variable {X : Cx} {Γ : List VD} {B B1 B2 B' : Bag} {e a b c : Expr} {es : List Expr} {d da db dc : VD} {pos p p' pos' : Pos} {rest ss s1 s2 : List Stmt} {E : En}
theorem aj_one {y : PyData} (h : EJ X Γ B e (.da y) B1) (hs : starEach [e] X.env = [(false, eval e X.env)] := by rfl) : AJ X Γ B [e] [.da y] B1 := aj_cons h aj_nil hs
theorem ej_max {i j : Int} (hc : X.calm = true) (hm : X.mg "max" = none) (ha : EJ X Γ B a (.da (.int i)) B1) (hb : EJ X Γ B1 b (.da (.int j)) B2) (hg : Gl X "max" := by rfl)
    (h1 : starEach [a, b] X.env = (false, eval a X.env) :: starEach [b] X.env := by rfl) (h2 : starEach [b] X.env = (false, eval b X.env) :: starEach [] X.env := by rfl)
    (hpl : (backTo pos (starEach [b] X.env)).any (·.1) = false := by rfl) : EJ X Γ B (.Call (.Name "max" p) [a, b] [] pos) (.da (.int (max i j))) B2 :=
  ej_callB (call_max2 hc) hm (aj_cons ha (aj_cons hb aj_nil h2) h1) (fun g vs H0 H O r Q q => by
    obtain ⟨v, w, rfl, h, h'⟩ := rv2 r
    refine ⟨i, j, by rw [rvI h, rvI h'], ?_⟩
    have e : (if j > i then j else i) = max i j := by split <;> omega
    rw [e]; exact q _ _ _ To.refl O (Rp.int _)) (hg := hg) (hpl := hpl) (he := h1)
theorem ej_min {i j : Int} (hc : X.calm = true) (hm : X.mg "min" = none) (ha : EJ X Γ B a (.da (.int i)) B1) (hb : EJ X Γ B1 b (.da (.int j)) B2) (hg : Gl X "min" := by rfl)
    (h1 : starEach [a, b] X.env = (false, eval a X.env) :: starEach [b] X.env := by rfl) (h2 : starEach [b] X.env = (false, eval b X.env) :: starEach [] X.env := by rfl)
    (hpl : (backTo pos (starEach [b] X.env)).any (·.1) = false := by rfl) : EJ X Γ B (.Call (.Name "min" p) [a, b] [] pos) (.da (.int (min i j))) B2 :=
  ej_callB (call_min2 hc) hm (aj_cons ha (aj_cons hb aj_nil h2) h1) (fun g vs H0 H O r Q q => by
    obtain ⟨v, w, rfl, h, h'⟩ := rv2 r
    refine ⟨i, j, by rw [rvI h, rvI h'], ?_⟩
    have e : (if j < i then j else i) = min i j := by split <;> omega
    rw [e]; exact q _ _ _ To.refl O (Rp.int _)) (hg := hg) (hpl := hpl) (he := h1)
theorem sj_forRev (j : Nat) {x : Str} {ds : List PyData} {px pr pc : Pos} (nd : X.N.Nodup) (hc : X.calm = true) (hm : X.mg "reversed" = none) (P : Nat → List VD → Bag → Prop) (hi : EJ X Γ B e (.da (.list ds)) B1) (h0 : P 0 Γ B1)
    (hs : ∀ i y Γ' B', i < ds.length → ds[ds.length - 1 - i]? = some y → P i Γ' B' → SJ X (Γ'.set j (.da y)) B' s1 { nx := P (i + 1), ct := P (i + 1), bk := fun Γ' B' => SJ X Γ' B' rest E, rt := E.rt })
    (hd : ∀ Γ' B', P ds.length Γ' B' → SJ X Γ' B' rest E) (hN : X.N[j]? = some x := by rfl) (hx : Loc X.env.scope x := by first | exact Or.inl rfl | exact Or.inr rfl)
    (hf : X.fn x = true ∨ X.env.scope.names.lookup x = some .local := by first | exact Or.inl rfl | exact Or.inr rfl)
    (hp : PassesOwn (model X.prog X.w) X.A X.env X.xe := by exact PassesOwn.never) (hq : ∀ x, foldedSetIterable (.Call (.Name "reversed" pr) [e] [] pc) X.env x = pure x := by intro _; rfl)
    (hst : starEach [e] X.env = [(false, eval e X.env)] := by rfl) (hg : Gl X "reversed" := by rfl) :
    SJ X Γ B (.For (.Name x px) (.Call (.Name "reversed" pr) [e] [] pc) s1 [] pos :: rest) E := fun g σ H0 H Ev O D G =>
  ⟨_, pss_cons (ps_for hp hc (pi_reversed hg hm (wa [e]) hst) (pg_name nd hN hx hf) (ws s1) hq) (ws rest), (aj_cons (ds := []) hi aj_nil hst) g σ H0 H Ev O _ fun vs H1 H' t o r => by
    obtain ⟨v, rfl, h⟩ := rv1 r
    obtain ⟨l, xs, rfl, hxs, rs⟩ := rvL h
    refine ⟨l, xs, rfl, SqL.of (o.ex _ _ hxs), ?_⟩
    refine RT.for_Itv (xs := xs) (fun i σ' H'' => ∃ Γ' B' H2, P i Γ' B' ∧ To g H1 H' H2 H'' ∧ EnvD X.K g H2 σ' Γ' ∧ On X.K g B' H2 H'') ⟨Γ, B1, H1, h0, To.refl, Ev.mono t.ex, o⟩ ?_ ?_ ?_
    · rintro i σ' H'' ⟨Γ', B', H2, _, t2, _, o2⟩
      exact SqL.of (o2.ex _ _ (t2.ex _ _ hxs))
    · rintro i y σ' H'' hlt hy ⟨Γ', B', H2, hP, t2, e2, o2⟩
      rw [rs.length] at hlt hy
      obtain ⟨d, hdi, rd⟩ := rs.get hy
      refine hs i d Γ' B' hlt hdi hP g _ H2 H'' (e2.set j (Rp.mono t2.ex rd)) o2 _ ⟨?_, ?_, ?_, ?_⟩
      · exact fun Γ3 B3 σ3 H3 H3' q t3 e3 o3 => ⟨Γ3, B3, H3, q, t2.trans t3, e3, o3⟩
      · exact fun r B3 v H3 H3' q t3 o3 rv => (G.on (t.trans t2)).rt r B3 v H3 H3' q t3 o3 rv
      · exact fun Γ3 B3 σ3 H3 H3' q t3 e3 o3 => q g σ3 H3 H3' e3 o3 D (G.on ((t.trans t2).trans t3))
      · exact fun Γ3 B3 σ3 H3 H3' q t3 e3 o3 => ⟨Γ3, B3, H3, q, t2.trans t3, e3, o3⟩
    · rintro σ' H'' ⟨Γ', B', H2, hP, t2, e2, o2⟩
      rw [rs.length] at hP
      exact hd Γ' B' hP g σ' H2 H'' e2 o2 D (G.on (t.trans t2))⟩
theorem sj_forR (j : Nat) {x : Str} {n : Nat} {px pr pc : Pos} (nd : X.N.Nodup) (hc : X.calm = true) (hm : X.mg "range" = none) (P : Nat → List VD → Bag → Prop) (hi : EJ X Γ B e (.da (.int n)) B1) (hn : n ≤ 100000) (h0 : P 0 Γ B1)
    (hs : ∀ i Γ' B', i < n → P i Γ' B' → SJ X (Γ'.set j (.da (.int (i : Nat)))) B' s1 { nx := P (i + 1), ct := P (i + 1), bk := fun Γ' B' => SJ X Γ' B' rest E, rt := E.rt })
    (hd : ∀ Γ' B', P n Γ' B' → SJ X Γ' B' rest E) (hN : X.N[j]? = some x := by rfl) (hx : Loc X.env.scope x := by first | exact Or.inl rfl | exact Or.inr rfl)
    (hf : X.fn x = true ∨ X.env.scope.names.lookup x = some .local := by first | exact Or.inl rfl | exact Or.inr rfl)
    (hp : PassesOwn (model X.prog X.w) X.A X.env X.xe := by exact PassesOwn.never) (hq : ∀ x, foldedSetIterable (.Call (.Name "range" pr) [e] [] pc) X.env x = pure x := by intro _; rfl)
    (hst : starEach [e] X.env = [(false, eval e X.env)] := by rfl) (hg : Gl X "range" := by rfl) :
    SJ X Γ B (.For (.Name x px) (.Call (.Name "range" pr) [e] [] pc) s1 [] pos :: rest) E := fun g σ H0 H Ev O D G =>
  ⟨_, pss_cons (ps_for hp hc (pi_range1 hg hm (wa [e]) hst) (pg_name nd hN hx hf) (ws s1) hq) (ws rest), (aj_cons (ds := []) hi aj_nil hst) g σ H0 H Ev O _ fun vs H1 H' t o r => by
    obtain ⟨v, rfl, h⟩ := rv1 r
    refine ⟨(n : Int), by rw [rvI h], by omega, by omega, ?_⟩
    rw [Int.toNat_natCast]
    refine for_range (lo := 0) (n := n) (fun i σ' H'' => ∃ Γ' B' H2, P i Γ' B' ∧ To g H1 H' H2 H'' ∧ EnvD X.K g H2 σ' Γ' ∧ On X.K g B' H2 H'') ⟨Γ, B1, H1, h0, To.refl, Ev.mono t.ex, o⟩ ?_ ?_
    · rintro i σ' H'' hlt ⟨Γ', B', H2, hP, t2, e2, o2⟩
      rw [Int.zero_add]
      refine hs i Γ' B' hlt hP g _ H2 H'' (e2.set (d := .da (.int (i : Nat))) j (Rp.int _)) o2 _ ⟨?_, ?_, ?_, ?_⟩
      · exact fun Γ3 B3 σ3 H3 H3' q t3 e3 o3 => ⟨Γ3, B3, H3, q, t2.trans t3, e3, o3⟩
      · exact fun r B3 v H3 H3' q t3 o3 rv => (G.on (t.trans t2)).rt r B3 v H3 H3' q t3 o3 rv
      · exact fun Γ3 B3 σ3 H3 H3' q t3 e3 o3 => q g σ3 H3 H3' e3 o3 D (G.on ((t.trans t2).trans t3))
      · exact fun Γ3 B3 σ3 H3 H3' q t3 e3 o3 => ⟨Γ3, B3, H3, q, t2.trans t3, e3, o3⟩
    · rintro σ' H'' ⟨Γ', B', H2, hP, t2, e2, o2⟩
      exact hd Γ' B' hP g σ' H2 H'' e2 o2 D (G.on (t.trans t2))⟩
end
end Gd
namespace Gd
open PySem PySem.Spec PyProof.Rows L2
section
variable {X : Cx} {Γ : List VD} {B B1 B2 B' : Bag} {e a b c : Expr} {es : List Expr} {d da db dc : VD} {pos p p' pos' : Pos} {rest ss s1 s2 : List Stmt} {E : En}
theorem rv3 {K : PySem.W.Frag} {g : Gh} {H0 : Hp} {vs : List V} {d d' d'' : VD} (h : RvAll K g H0 vs [d, d', d'']) : ∃ v v' v'', vs = [v, v', v''] ∧ Rv K g H0 v d ∧ Rv K g H0 v' d' ∧ Rv K g H0 v'' d'' := by
  match vs, h with
  | [v, v', v''], h => exact ⟨v, v', v'', rfl, h.1, h.2.1, h.2.2.1⟩
theorem sj_par3 (i j l : Nat) {x y z : Str} {px py pz pt : Pos} {kt k2 pt2} {d1 d2 d3 : VD} (nd : X.N.Nodup) (hc : X.calm = true) (h : AJ X Γ B [a, b, c] [d1, d2, d3] B1) (k : SJ X (((Γ.set i d1).set j d2).set l d3) B1 rest E)
    (hij : i ≠ j) (hil : i ≠ l) (hjl : j ≠ l) (hw : swappedStores [.Tuple [.Name x px, .Name y py, .Name z pz] kt pt] (.Tuple [a, b, c] k2 pt2) X.env = pure (some [x, y, z])) (hi : X.N[i]? = some x := by rfl) (hj : X.N[j]? = some y := by rfl) (hl : X.N[l]? = some z := by rfl)
    (hx : X.env.scope.names.lookup x = some .local := by rfl) (hy : X.env.scope.names.lookup y = some .local := by rfl) (hz : X.env.scope.names.lookup z = some .local := by rfl)
    (hsw : swapsWithSole [.Tuple [.Name x px, .Name y py, .Name z pz] kt pt] (.Tuple [a, b, c] k2 pt2) pos.line X.env = pure false := by rfl) :
    SJ X Γ B (.Assign [.Tuple [.Name x px, .Name y py, .Name z pz] kt pt] (.Tuple [a, b, c] k2 pt2) pos :: rest) E := fun g σ H0 H Ev O D G =>
  ⟨_, pss_cons (ps_par3 hc nd hi hj hl hij hil hjl hx hy hz (wa [a, b, c]) hw hsw) (ws rest), h g σ H0 H Ev O _ fun vs H1 H' t o r => by
    obtain ⟨u, v, w, rfl, r1, r2, r3⟩ := rv3 r
    exact ⟨u, v, w, rfl, k g _ H1 H' ((((Ev.mono t.ex).set i r1).set j r2).set l r3) o D (G.on t)⟩⟩
theorem shaped_ii (a b : Int) : SeqAt.shaped (.tuple [.int a, .int b]) = true := by
  unfold SeqAt.shaped
  have h1 : (PyData.tuple [.int a, .int b]).canLay0 = true := by simp only [PyData.canLay0, PyData.canLayAll0, Bool.and_self]
  rw [h1]; rfl
theorem eqv_ii (a b c d : Int) : PyData.eqv (.tuple [.int a, .int b]) (.tuple [.int c, .int d]) = (decide (a = c) && decide (b = d)) := by
  simp only [PyData.eqv, PyData.eqvAll, Bool.and_true]
  rw [← eqv_int, ← eqv_int]
  simp only [PyData.eqv]
end
end Gd
namespace Gd
open PySem PySem.Spec PyProof.Rows L2
section
variable {X : Cx} {Γ : List VD} {B B1 B2 B' : Bag} {a b : Expr} {pos : Pos}
end
end Gd
namespace Gd
open PySem PySem.Spec PyProof.Rows L2
theorem Cal.name {P : Program} {w : World} {K : PySem.W.Frag} {mg : Str → Option Value} {base : Heap} {x y : Str} {k : Nat} {R : Rel} {mg' : Str → Option Value} (e : mg x = mg y) (c : Cal P w K mg base x k R) : Cal P w K mg base y k R := by
  obtain ⟨f, fd, ps, F, hm, h⟩ := c
  exact ⟨f, fd, ps, F, e ▸ hm, h⟩
end Gd
namespace Lw
open PySem PySem.Spec PyProof.Rows L2 Gd Fr
open scoped Rat
structure Qz (n d : Nat) (q : Rat) : Prop where
  nu : Bd n q.num
  de : Bd d (q.den : Int)
theorem Qz.le {n d n' d' : Nat} {q : Rat} (h : Qz n d q) (e : n ≤ n') (f : d ≤ d') : Qz n' d' q := ⟨h.nu.le e, h.de.le f⟩
theorem bd_sum {a n : Nat} {i j : Int} (h : Bd a i) (k : Bd n j) (N : Nat) (h1 : a < N) (h2 : n < N) : Bd N (i + j) := by
  have := Int.natAbs_add_le i j
  have e1 : 2 ^ a ≤ 2 ^ (N - 1) := Nat.pow_le_pow_right (by decide) (by omega)
  have e2 : 2 ^ n ≤ 2 ^ (N - 1) := Nat.pow_le_pow_right (by decide) (by omega)
  have e3 : 2 ^ N = 2 ^ (N - 1) * 2 := by rw [← Nat.pow_succ]; congr 1; omega
  unfold Bd at *
  omega
theorem Qz.add {n d m c : Nat} {x y : Rat} (h : Qz n d x) (k : Qz m c y) (N : Nat) (h1 : n + c < N) (h2 : m + d < N) : Qz N (d + c) (x + y) := by
  rw [← add_div]
  have hne : (x.den : Int) * (y.den : Int) ≠ 0 := Int.mul_ne_zero (den_ne x) (den_ne y)
  have hb := bd_sum (h.nu.mul k.de) (k.nu.mul h.de) N h1 h2
  exact ⟨(divInt_bd hne hb (h.de.mul k.de)).1, (divInt_bd hne hb (h.de.mul k.de)).2⟩
theorem Qz.neg {n d : Nat} {x : Rat} (h : Qz n d x) : Qz n d (-x) := ⟨by rw [Rat.neg_num]; exact h.nu.neg, by rw [Rat.neg_den]; exact h.de⟩
theorem Qz.mul {n d m c : Nat} {x y : Rat} (h : Qz n d x) (k : Qz m c y) : Qz (n + m) (d + c) (x * y) := by
  rw [← mul_div]
  have hne : (x.den : Int) * (y.den : Int) ≠ 0 := Int.mul_ne_zero (den_ne x) (den_ne y)
  exact ⟨(divInt_bd hne (h.nu.mul k.nu) (h.de.mul k.de)).1, (divInt_bd hne (h.nu.mul k.nu) (h.de.mul k.de)).2⟩
theorem cmz {n m : Nat} {i j : Int} (h : Bd n i) (k : Bd m j) (e : n ≤ 100000 := by omega) (e' : m ≤ 100000 := by omega) : CMulW i j := cm h k (by omega)
theorem Qz.nat {a n : Nat} (h : a < 2 ^ n) : Qz n 1 (a : Rat) := ⟨by rw [Rat.num_natCast]; exact Bd.nat h, by rw [Rat.den_natCast]; unfold Bd; decide⟩
inductive R_reduced : Rel
  | mk (n d : Int) (B : Bag) (h : d ≠ 0) (hn : Bd 8900 d) : R_reduced [.da (.int n), .da (.int d)] B (fq (n /. d)) B
inductive R_two (f : Rat → Rat → Rat) : Rel
  | mk (n d m c : Nat) (x y : Rat) (B : Bag) (hx : Qz n d x) (hy : Qz m c y) (h1 : n ≤ 90000) (h2 : m ≤ 90000) (h3 : d + c ≤ 8900) : R_two f [.da (fq x), .da (fq y)] B (fq (f x y)) B
inductive R_below : Rel
  | mk (n d m c : Nat) (x y : Rat) (B : Bag) (hx : Qz n d x) (hy : Qz m c y) (h1 : n + d ≤ 90000) (h2 : m + c ≤ 90000) : R_below [.da (fq x), .da (fq y)] B (.bool (decide (x < y))) B
def absQ (x : Rat) : Rat := if x < 0 then -x else x
theorem num_neg_iff (x : Rat) : x.num < 0 ↔ x < 0 := by
  rw [Rat.lt_iff]
  show x.num < 0 ↔ x.num * 1 < 0 * _
  rw [Int.mul_one, Int.zero_mul]
theorem absQ_num (x : Rat) : (absQ x).num = (if x.num < 0 then -x.num else x.num) ∧ (absQ x).den = x.den := by
  unfold absQ
  by_cases h : x < 0
  · rw [if_pos h, if_pos ((num_neg_iff x).mpr h), Rat.neg_num, Rat.neg_den]; exact ⟨rfl, rfl⟩
  · rw [if_neg h, if_neg (fun z => h ((num_neg_iff x).mp z))]; exact ⟨rfl, rfl⟩
theorem Qz.abs {n d : Nat} {x : Rat} (h : Qz n d x) : Qz n d (absQ x) := by
  unfold absQ; split
  · exact h.neg
  · exact h
theorem absQ_nonneg (x : Rat) : 0 ≤ absQ x := by unfold absQ; split <;> grind
inductive R_one (v : Rat → PyData) : Rel
  | mk (x : Rat) (B : Bag) : R_one v [.da (fq x)] B (v x) B
def sgn (x : Rat) : Int := if x.num < 0 then 1 else 0
def pt (l m : Int) : Int := if l = 0 then 0 else if 2 * l < m then 1 else if 2 * l = m then 2 else 3
def absI (i : Int) : Int := if i < 0 then -i else i
theorem bd_pow {b : Nat} (k : Nat) (h : b < 2 ^ 6) : Bd (6 * k + 1) (((b ^ k : Nat) : Int)) := by
  unfold Bd
  rw [Int.natAbs_natCast, Nat.pow_succ, Nat.pow_mul]
  have := Nat.pow_le_pow_left (Nat.le_of_lt h) k
  have p : 0 < (2 ^ 6) ^ k := Nat.pow_pos (by decide)
  omega
def intAt (Γ : List VD) (i : Nat) : Int := match Γ[i]? with
  | some (.da (.int m)) => m
  | _ => 0
theorem pow_sq (b k : Nat) : ((b ^ k : Nat) : Int) * ((b ^ k : Nat) : Int) = ((b ^ (k + k) : Nat) : Int) := by rw [← Int.natCast_mul, ← Nat.pow_add]
theorem pow_up (b j k : Nat) : ((b ^ j : Nat) : Int) * ((b ^ k : Nat) : Int) = ((b ^ (j + k) : Nat) : Int) := by rw [← Int.natCast_mul, ← Nat.pow_add]
theorem half (m : Nat) : (m : Int) / 2 = ((m / 2 : Nat) : Int) := by omega
theorem turn_odd {j k m e : Nat} (h : j + k * m = e) (h1 : m % 2 = 1) : (j + k) + (k + k) * (m / 2) = e := by
  have : m = 2 * (m / 2) + 1 := by omega
  rw [this] at h
  generalize m / 2 = t at *
  grind
theorem turn_even {j k m e : Nat} (h : j + k * m = e) (h1 : ¬ m % 2 = 1) : j + (k + k) * (m / 2) = e := by
  have : m = 2 * (m / 2) := by omega
  rw [this] at h
  generalize m / 2 = t at *
  grind
theorem k_le {j k m e : Nat} (h : j + k * m = e) (h1 : 0 < m) : k ≤ e ∧ j ≤ e := by
  have : k * 1 ≤ k * m := Nat.mul_le_mul_left k h1
  omega
theorem j_end {j k m e : Nat} (h : j + k * m = e) (h1 : ¬ 0 < m) : j = e := by
  have : m = 0 := by omega
  subst this; omega
inductive R_pow : Rel
  | mk (b e : Nat) (B : Bag) (hb : b < 2 ^ 6) (he : e ≤ 20000) : R_pow [.da (.int b), .da (.int e)] B (.int ((b ^ e : Nat) : Int)) B
def pw (b : Nat) (e : Int) : Rat := if e < 0 then ((b ^ (-e).toNat : Nat) : Rat)⁻¹ else ((b ^ e.toNat : Nat) : Rat)
theorem fq_nat (n : Nat) : fq (n : Rat) = .tuple [.int n, .int 1] := by unfold fq; rw [Rat.num_natCast, Rat.den_natCast]; rfl
theorem fq_inv {n : Nat} (h : 0 < n) : fq ((n : Rat)⁻¹) = .tuple [.int 1, .int n] := by
  unfold fq
  rw [Rat.num_inv, Rat.den_inv, Rat.num_natCast, Rat.den_natCast, if_neg (by omega), Int.sign_eq_one_of_pos (by omega)]
  rfl
inductive R_power_of : Rel
  | mk (b : Nat) (e : Int) (B : Bag) (h0 : 0 < b) (hb : b < 2 ^ 6) (h1 : -20000 ≤ e) (h2 : e ≤ 20000) : R_power_of [.da (.int b), .da (.int e)] B (fq (pw b e)) B
inductive R_bag : Rel
  | mk (ns : List Int) (B : Bag) (hl : ns.length ≤ 63) : R_bag [.scr ns] B (.list [.int 0, .int 1234567891, .int 0, .list (((ns.take 63).map absI).map .int)]) B
theorem cut_head (ns : List Int) (n : Nat) : cutP (ns.map PyData.int) none (some (n : Int)) = (ns.take n).map PyData.int := by
  unfold cutP
  rw [HT.sIx_none, HT.sIx_nat, List.drop_zero, List.length_map, Nat.sub_zero, ← List.map_take]
  congr 1
  by_cases h : n ≤ ns.length
  · rw [Nat.min_eq_left h]
  · rw [Nat.min_eq_right (by omega), List.take_length, List.take_of_length_le (by omega)]
def cell (B : Bag) : Int := ((B.cs.drop (HT.sIx B.cs.length 0 (some B.z))) ++ [0]).headD 0
def stir (B : Bag) : Bag :=
  if B.x = 0 then ⟨if 10 ^ 18 ≤ cell B then cell B else B.x, (B.y * 48271 + cell B % 2147483647 + 7919 * (B.z + 1)) % 2147483647, B.z + 1, B.cs⟩ else B
def low (B : Bag) : Int := (((B.y + 1) * 39373) % 1000000007 * (((B.y + 1) * 39373) % 1000000007) % 998244353 * 30011) % 998244353 / 7
def tkV (B : Bag) (m : Int) : Int := if 0 < (stir B).x then (stir B).x % m else low (stir B) % m
def tkB (B : Bag) (m : Int) : Bag := if 0 < (stir B).x then { stir B with x := (stir B).x / m } else stir B
theorem tkV_ge (B : Bag) {m : Int} (h : 0 < m) : 0 ≤ tkV B m := by
  unfold tkV; split <;> exact Int.emod_nonneg _ (Int.ne_of_gt h)
theorem tkV_lt (B : Bag) {m : Int} (h : 0 < m) : tkV B m < m := by
  unfold tkV; split <;> exact Int.emod_lt_of_pos _ h
def Bok (B : Bag) : Prop := B.cs.length ≤ 63
theorem stir_ok {B : Bag} (h : Bok B) : Bok (stir B) := by
  unfold stir; split <;> exact h
theorem tkB_ok {B : Bag} (h : Bok B) (m : Int) : Bok (tkB B m) := by
  unfold tkB; split <;> exact stir_ok h
inductive R_take : Rel
  | mk (B : Bag) (m : Int) (h : 0 < m) (hb : Bd 8000 m) (hc : Bok B) : R_take [.bag, .da (.int m)] B (.int (tkV B m)) (tkB B m)
theorem drop_cell (B : Bag) : atI (cutP (B.cs.map PyData.int) (some B.z) none ++ [PyData.int 0]) 0 = some (.int (cell B)) := by
  have e : cutP (B.cs.map PyData.int) (some B.z) none = (B.cs.drop (HT.sIx B.cs.length 0 (some B.z))).map PyData.int := by
    unfold cutP
    rw [HT.sIx_none, List.length_map, ← List.map_drop, List.take_of_length_le]
    rw [List.length_map, List.length_drop]; omega
  rw [e]
  unfold cell
  cases B.cs.drop (HT.sIx B.cs.length 0 (some B.z)) with
  | nil => rfl
  | cons c cs =>
    show atI (PyData.int c :: _) ((0 : Nat) : Int) = some (.int c)
    exact atI_nat rfl
def pick (ds : List PyData) (B : Bag) : PyData := ds.getD (tkV B ds.length).toNat .none
inductive R_some : Rel
  | mk (B : Bag) (ds : List PyData) (h : 0 < ds.length) (hl : ds.length ≤ 1000) (hc : Bok B) : R_some [.bag, .da (.list ds)] B (pick ds B) (tkB B ds.length)
theorem pick_at (ds : List PyData) (B : Bag) (h : 0 < ds.length) : atI ds (tkV B ds.length) = some (pick ds B) := by
  have h0 := tkV_ge B (m := ds.length) (by omega)
  have h1 := tkV_lt B (m := ds.length) (by omega)
  have e : tkV B ds.length = ((tkV B ds.length).toNat : Int) := by omega
  have hlt : (tkV B ds.length).toNat < ds.length := by omega
  conv => lhs; rw [e]
  refine atI_nat ?_
  unfold pick
  rw [List.getD_eq_getElem?_getD, List.getElem?_eq_getElem hlt]; rfl
inductive R_common : Rel
  | mk (n d : Int) (B : Bag) : R_common [.da (.int n), .da (.int d)] B (.int (Nat.gcd n.natAbs d.natAbs : Nat)) B
theorem absI_nat (n : Int) : (if n < 0 then -n else n) = (n.natAbs : Int) := by split <;> omega
theorem com_if {n d : Int} (h : d ≠ 0) : (bif decide (0 < d) then ((Nat.gcd n.natAbs d.natAbs : Nat) : Int) else -((Nat.gcd n.natAbs d.natAbs : Nat) : Int)) = com n d := by
  unfold com
  by_cases h1 : 0 < d
  · rw [decide_eq_true h1, if_neg (by omega)]; rfl
  · rw [decide_eq_false h1, if_pos (by omega)]; rfl
end Lw
namespace Lw
open PySem PySem.Spec PyProof.Rows L2 Gd Fr
open scoped Rat
theorem ltle {a b c : Rat} (h : a < b) (k : b ≤ c) : a < c := by grind
theorem lelt {a b c : Rat} (h : a ≤ b) (k : b < c) : a < c := by grind
theorem pw_eq (b : Nat) (e : Int) : pw b e = (b : Rat) ^ e := by
  unfold pw
  by_cases h : e < 0
  · rw [if_pos h]
    have e1 : e = -((-e).toNat : Int) := by omega
    conv => rhs; rw [e1]
    rw [Rat.zpow_neg, Rat.zpow_natCast, Rat.natCast_pow]
  · rw [if_neg h]
    have e1 : e = (e.toNat : Int) := by omega
    conv => rhs; rw [e1]
    rw [Rat.zpow_natCast, Rat.natCast_pow]
section
variable {b p : Nat} (h2 : 2 ≤ b)
include h2
theorem b_pos : (0 : Rat) < (b : Rat) := Rat.natCast_pos.mpr (by omega)
theorem pw_pos (e : Int) : 0 < pw b e := by rw [pw_eq]; exact Rat.zpow_pos (b_pos h2)
theorem pw_ne (e : Int) : pw b e ≠ 0 := fun z => by have := pw_pos h2 e; rw [z] at this; exact absurd this (by decide)
theorem pw_add (x y : Int) : pw b (x + y) = pw b x * pw b y := by
  rw [pw_eq, pw_eq, pw_eq]
  exact Rat.zpow_add (fun z => by have := b_pos h2; rw [z] at this; exact absurd this (by decide)) x y
omit h2 in
theorem pw_nat (n : Nat) : pw b (n : Int) = ((b ^ n : Nat) : Rat) := by
  unfold pw; rw [if_neg (by omega), Int.toNat_natCast]
omit h2 in
theorem pw_zero : pw b 0 = 1 := by
  have := pw_nat (b := b) 0
  rw [Nat.pow_zero] at this; exact this
omit h2 in
theorem pw_of {e : Int} (h : 0 ≤ e) : pw b e = ((b ^ e.toNat : Nat) : Rat) := by
  unfold pw; rw [if_neg (by omega)]
theorem pw_ge1 {e : Int} (h : 0 ≤ e) : 1 ≤ pw b e := by
  rw [pw_of h]
  have : 1 ≤ b ^ e.toNat := Nat.pow_pos (by omega)
  exact Rat.natCast_le_natCast.mpr this
theorem pw_mono {x y : Int} (h : x ≤ y) : pw b x ≤ pw b y := by
  have e : y = (y - x) + x := by omega
  rw [e, pw_add h2]
  have h1 := pw_ge1 h2 (e := y - x) (by omega)
  have := Rat.mul_le_mul_of_nonneg_right h1 (Rat.le_of_lt (pw_pos h2 x))
  rw [Rat.one_mul] at this; exact this
def IsE (b p : Nat) (low : Int) (q : Rat) (e : Int) : Prop := low ≤ e ∧ q < pw b (p + e) ∧ (e = low ∨ pw b (p + e - 1) ≤ q)
theorem isE_uniq {low e e' : Int} {q : Rat} (h : IsE b p low q e) (h' : IsE b p low q e') : e = e' := by
  have key : ∀ {e e' : Int}, IsE b p low q e → IsE b p low q e' → ¬ e < e' := by
    rintro e e' ⟨a1, a2, a3⟩ ⟨b1, b2, b3⟩ hlt
    rcases b3 with b3 | b3
    · omega
    · have := pw_mono h2 (x := p + e) (y := p + e' - 1) (by omega)
      exact absurd (ltle a2 (Rat.le_trans this b3)) (Rat.lt_irrefl)
  have k1 := key h h'
  have k2 := key h' h
  omega
end
def Nq (b : Nat) (e : Int) (q : Rat) : Int := q.num * ((b ^ (-e).toNat : Nat) : Int)
def Dq (b : Nat) (e : Int) (q : Rat) : Int := (q.den : Int) * ((b ^ e.toNat : Nat) : Int)
def cQ (b : Nat) (e : Int) (q : Rat) : Int := Nq b e q / Dq b e q
def rQ (b : Nat) (e : Int) (q : Rat) : Int := Nq b e q % Dq b e q
def tQ (b : Nat) (e : Int) (q : Rat) : Rat := (rQ b e q : Rat) / (Dq b e q : Rat)
section
variable {b p : Nat} (h2 : 2 ≤ b)
include h2
theorem Dq_pos (e : Int) (q : Rat) : 0 < Dq b e q := Int.mul_pos (den_pos q) (Int.natCast_pos.mpr (Nat.pow_pos (by omega)))
theorem Dq_ne (e : Int) (q : Rat) : ((Dq b e q : Int) : Rat) ≠ 0 := fun z => by
  have := Dq_pos h2 e q
  have e0 : Dq b e q = 0 := Rat.intCast_inj.mp (z.trans (by rfl))
  omega
theorem unit_ND (e : Int) : pw b e * ((b ^ (-e).toNat : Nat) : Rat) = ((b ^ e.toNat : Nat) : Rat) := by
  by_cases h : e < 0
  · have h1 : e.toNat = 0 := by omega
    rw [h1, Nat.pow_zero]
    unfold pw; rw [if_pos h]
    have : ((b ^ (-e).toNat : Nat) : Rat) ≠ 0 := fun z => by
      have h3 : 0 < b ^ (-e).toNat := Nat.pow_pos (by omega)
      have := Rat.natCast_pos.mpr h3
      rw [z] at this; exact absurd this (by decide)
    rw [Rat.mul_comm, Rat.mul_inv_cancel _ this]; rfl
  · have h1 : (-e).toNat = 0 := by omega
    rw [h1, Nat.pow_zero, pw_of (by omega)]
    exact Rat.mul_one _
omit h2 in
theorem num_den (q : Rat) : q * ((q.den : Int) : Rat) = (q.num : Rat) := by
  have h := Rat.num_divInt_den q
  rw [Rat.divInt_eq_div] at h
  have hd : ((q.den : Int) : Rat) ≠ 0 := fun z => by
    have e0 : (q.den : Int) = 0 := Rat.intCast_inj.mp (z.trans (by rfl))
    exact den_ne q e0
  conv => lhs; lhs; rw [← h]
  exact Rat.div_mul_cancel hd
theorem ND (e : Int) (q : Rat) : q * (Dq b e q : Rat) = (Nq b e q : Rat) * pw b e := by
  unfold Dq Nq
  rw [Rat.intCast_mul, Rat.intCast_mul, ← num_den q, Rat.intCast_natCast, Rat.intCast_natCast, Rat.intCast_natCast, ← unit_ND h2 e]
  grind
theorem q_val (e : Int) (q : Rat) : q = ((cQ b e q : Rat) + tQ b e q) * pw b e := by
  have hne := Dq_ne h2 e q
  have h := ND h2 e q
  have hd := Int.emod_add_mul_ediv (Nq b e q) (Dq b e q)
  have hd' : (Nq b e q : Rat) = (rQ b e q : Rat) + (Dq b e q : Rat) * (cQ b e q : Rat) := by
    rw [← Rat.intCast_mul, ← Rat.intCast_add]
    exact congrArg _ hd.symm
  have ht : tQ b e q * (Dq b e q : Rat) = (rQ b e q : Rat) := Rat.div_mul_cancel hne
  have : q * (Dq b e q : Rat) = (((cQ b e q : Rat) + tQ b e q) * pw b e) * (Dq b e q : Rat) := by
    rw [h, hd', ← ht]; grind
  have h3 := congrArg (· / (Dq b e q : Rat)) this
  simp only [Rat.mul_div_cancel hne] at h3
  exact h3
theorem r_ge (e : Int) (q : Rat) : 0 ≤ rQ b e q := Int.emod_nonneg _ (Int.ne_of_gt (Dq_pos h2 e q))
theorem r_lt (e : Int) (q : Rat) : rQ b e q < Dq b e q := Int.emod_lt_of_pos _ (Dq_pos h2 e q)
theorem Dq_posQ (e : Int) (q : Rat) : (0 : Rat) < (Dq b e q : Rat) := Rat.intCast_lt_intCast.mpr (Dq_pos h2 e q)
theorem t_mul (e : Int) (q : Rat) : tQ b e q * (Dq b e q : Rat) = (rQ b e q : Rat) := Rat.div_mul_cancel (Dq_ne h2 e q)
theorem t_lt_iff (e : Int) (q : Rat) (m : Int) (k : Nat) (hk : 0 < k) : (k : Rat) * tQ b e q < (m : Rat) ↔ k * rQ b e q < m * Dq b e q := by
  rw [← Rat.mul_lt_mul_right (Dq_posQ h2 e q), Rat.mul_assoc, t_mul h2, ← Rat.intCast_natCast, ← Rat.intCast_mul, ← Rat.intCast_mul, Rat.intCast_lt_intCast]
theorem t_eq_iff (e : Int) (q : Rat) (m : Int) (k : Nat) : (k : Rat) * tQ b e q = (m : Rat) ↔ k * rQ b e q = m * Dq b e q := by
  rw [← Rat.intCast_inj, Rat.intCast_mul, Rat.intCast_mul, ← t_mul h2, Rat.intCast_natCast, ← Rat.mul_assoc]
  constructor
  · intro h; rw [h]
  · intro h
    have h3 := congrArg (· / (Dq b e q : Rat)) h
    simp only [Rat.mul_div_cancel (Dq_ne h2 e q)] at h3
    exact h3
theorem t_ge (e : Int) (q : Rat) : 0 ≤ tQ b e q := by
  rw [← Rat.not_lt]
  intro h
  have := (t_lt_iff h2 e q 0 1 (by decide)).mp (by rw [show ((1 : Nat) : Rat) = 1 from rfl, Rat.one_mul]; exact h)
  have := r_ge h2 e q
  omega
theorem t_lt1 (e : Int) (q : Rat) : tQ b e q < 1 := by
  have := (t_lt_iff h2 e q 1 1 (by decide)).mpr (by have := r_lt h2 e q; omega)
  rw [show ((1 : Nat) : Rat) = 1 from rfl, Rat.one_mul] at this; exact this
theorem t_zero (e : Int) (q : Rat) : tQ b e q = 0 ↔ rQ b e q = 0 := by
  have := t_eq_iff h2 e q 0 1
  rw [show ((1 : Nat) : Rat) = 1 from rfl, Rat.one_mul] at this
  rw [show ((0 : Int) : Rat) = 0 from rfl] at this
  rw [this]; constructor <;> intro <;> omega
end
end Lw
namespace Lw
open PySem PySem.Spec PyProof.Rows L2 Gd Fr
open scoped Rat
theorem cast_lt {a c : Int} : (a : Rat) < (c : Rat) ↔ a < c := Rat.intCast_lt_intCast
theorem cast_le {a c : Int} : (a : Rat) ≤ (c : Rat) ↔ a ≤ c := Rat.intCast_le_intCast
theorem cast_s (a : Int) : ((a + 1 : Int) : Rat) = (a : Rat) + 1 := by rw [Rat.intCast_add]; rfl
section
variable {b p : Nat} (h2 : 2 ≤ b)
include h2
theorem c_uniq {e : Int} {q s : Rat} {C : Int} (h : q = ((C : Rat) + s) * pw b e) (h0 : 0 ≤ s) (h1 : s < 1) : cQ b e q = C ∧ tQ b e q = s := by
  have hv := q_val h2 e q
  have hu := pw_ne h2 e
  have t0 := t_ge h2 e q
  have t1 := t_lt1 h2 e q
  rw [h] at hv
  have e1 : (C : Rat) + s = (cQ b e q : Rat) + tQ b e q := by
    have := congrArg (· / pw b e) hv
    simp only [Rat.mul_div_cancel hu] at this
    rw [h]; exact this
  have a1 : (C : Rat) < ((cQ b e q + 1 : Int) : Rat) := by rw [cast_s]; grind
  have a2 : (cQ b e q : Rat) < ((C + 1 : Int) : Rat) := by rw [cast_s]; grind
  have a1 := cast_lt.mp a1
  have a2 := cast_lt.mp a2
  have e2 : cQ b e q = C := by omega
  rw [e2] at e1
  exact ⟨e2, by grind⟩
theorem c_ge {q : Rat} (h : 0 ≤ q) (e : Int) : 0 ≤ cQ b e q :=
  Int.ediv_nonneg (Int.mul_nonneg (Rat.num_nonneg.mpr h) (Int.natCast_nonneg _)) (Int.le_of_lt (Dq_pos h2 e q))
theorem c_le (e : Int) (q : Rat) : (cQ b e q : Rat) * pw b e ≤ q := by
  have hv := q_val h2 e q
  have := Rat.mul_le_mul_of_nonneg_right (show (cQ b e q : Rat) ≤ (cQ b e q : Rat) + tQ b e q by have := t_ge h2 e q; grind) (Rat.le_of_lt (pw_pos h2 e))
  rw [← hv] at this; exact this
theorem c_up (e : Int) (q : Rat) : q < ((cQ b e q : Rat) + 1) * pw b e := by
  have hv := q_val h2 e q
  have := Rat.mul_lt_mul_of_pos_right (show (cQ b e q : Rat) + tQ b e q < (cQ b e q : Rat) + 1 by have := t_lt1 h2 e q; grind) (pw_pos h2 e)
  rw [← hv] at this; exact this
theorem pw_p (n : Nat) (e : Int) : pw b (n + e) = (((b ^ n : Nat) : Int) : Rat) * pw b e := by rw [pw_add h2, pw_nat, Rat.intCast_natCast]
theorem c_lt {low e : Int} {q : Rat} (h : IsE b p low q e) : cQ b e q < ((b ^ p : Nat) : Int) := by
  have h1 := lelt (c_le h2 e q) h.2.1
  rw [pw_p h2, Rat.mul_lt_mul_right (pw_pos h2 e)] at h1
  exact cast_lt.mp h1
theorem c_big {low e : Int} {q : Rat} (hp : 1 ≤ p) (h : IsE b p low q e) : e = low ∨ ((b ^ (p - 1) : Nat) : Int) ≤ cQ b e q := by
  rcases h.2.2 with h | h
  · exact .inl h
  · refine .inr ?_
    have e1 : (p : Int) + e - 1 = ((p - 1 : Nat) : Int) + e := by omega
    rw [e1, pw_p h2] at h
    have h1 := lelt h (c_up h2 e q)
    rw [Rat.mul_lt_mul_right (pw_pos h2 e), ← cast_s] at h1
    have := cast_lt.mp h1
    omega
def Can (b p : Nat) (low C e : Int) : Prop := 0 ≤ C ∧ C < ((b ^ p : Nat) : Int) ∧ low ≤ e ∧ (e = low ∨ ((b ^ (p - 1) : Nat) : Int) ≤ C)
theorem can_isE {low C e : Int} (hp : 1 ≤ p) (h : Can b p low C e) : IsE b p low ((C : Rat) * pw b e) e := by
  obtain ⟨a1, a2, a3, a4⟩ := h
  refine ⟨a3, ?_, a4.imp id fun z => ?_⟩
  · rw [pw_p h2, Rat.mul_lt_mul_right (pw_pos h2 e)]; exact cast_lt.mpr a2
  · have e1 : (p : Int) + e - 1 = ((p - 1 : Nat) : Int) + e := by omega
    rw [e1, pw_p h2]
    exact Rat.mul_le_mul_of_nonneg_right (cast_le.mpr z) (Rat.le_of_lt (pw_pos h2 e))
theorem can_c (C e : Int) : cQ b e ((C : Rat) * pw b e) = C := (c_uniq h2 (s := 0) (by grind) (by grind) (by grind)).1
theorem spot_can {low e : Int} {q : Rat} (hp : 1 ≤ p) (h0 : 0 ≤ q) (h : IsE b p low q e) : Can b p low (cQ b e q) e := ⟨c_ge h2 h0 e, c_lt h2 h, h.1, c_big h2 hp h⟩
theorem isE_ex (low : Int) (q : Rat) : ∃ e, IsE b p low q e := by
  have step : ∀ n : Nat, q < pw b (p + (low + n)) → ∃ e, IsE b p low q e := by
    intro n
    induction n with
    | zero => intro h; exact ⟨low, Int.le_refl _, by rw [show (low + (0 : Nat) : Int) = low by omega] at h; exact h, .inl rfl⟩
    | succ n ih =>
      intro h
      by_cases h1 : q < pw b (p + (low + n))
      · exact ih h1
      · refine ⟨low + (n + 1 : Nat), by omega, h, .inr ?_⟩
        rw [show (p : Int) + (low + (n + 1 : Nat)) - 1 = p + (low + n) by omega]
        exact Rat.not_lt.mp h1
  refine step (q.num.natAbs + (-(p + low)).toNat) ?_
  have h1 : pw b (q.num.natAbs : Int) ≤ pw b (p + (low + (q.num.natAbs + (-(p + low)).toNat : Nat))) := pw_mono h2 (by omega)
  refine ltle ?_ h1
  rw [pw_nat]
  have h3 : q.num.natAbs < b ^ q.num.natAbs := Nat.lt_pow_self (by omega)
  by_cases hq : 0 ≤ q
  · have h4 : q ≤ (q.num : Rat) := by
      have hd := num_den q
      have h5 : (1 : Rat) ≤ ((q.den : Int) : Rat) := cast_le.mpr (show 1 ≤ (q.den : Int) by have := den_pos q; omega)
      have := Rat.mul_le_mul_of_nonneg_left h5 hq
      rw [hd, Rat.mul_one] at this; exact this
    refine lelt h4 ?_
    rw [← Rat.intCast_natCast]
    exact cast_lt.mpr (by omega)
  · rw [Rat.not_le] at hq
    have := Rat.natCast_pos.mpr (show 0 < b ^ q.num.natAbs by omega)
    exact ltle hq (Rat.le_of_lt this)
end
open Classical in
noncomputable def eQ (b p : Nat) (low : Int) (q : Rat) : Int := if h : ∃ e, IsE b p low q e then h.choose else low
theorem eQ_is {b p : Nat} (h2 : 2 ≤ b) (low : Int) (q : Rat) : IsE b p low q (eQ b p low q) := by
  have h := isE_ex (p := p) h2 low q
  unfold eQ; rw [dif_pos h]; exact h.choose_spec
theorem eQ_of {b p : Nat} (h2 : 2 ≤ b) {low e : Int} {q : Rat} (h : IsE b p low q e) : eQ b p low q = e := isE_uniq h2 (eQ_is h2 low q) h
def words (l : List Str) : PyData := .tuple (l.map .str)
def nm (s c e : Int) : PyData := .tuple [.str "num", .int s, .int c, .int e]
end Lw
set_option exponentiation.threshold 4000
namespace Lw
open PySem PySem.Spec PyProof.Rows L2 Gd Fr
open scoped Rat
structure Fm (b p : Nat) (low high : Int) : Prop where
  b2 : 2 ≤ b
  b6 : b < 2 ^ 6
  p2 : 2 ≤ p
  p7 : p ≤ 120
  lo : -1200 ≤ low
  lh : low ≤ high
  hi : high ≤ 1200
  bp : b ^ p < 2 ^ 700
  bl : b ^ (-low).toNat < 2 ^ 2340
  bh : b ^ high.toNat < 2 ^ 2340
def fmP (b p : Nat) (low high : Int) : PyData := .tuple [.int b, .int p, .int low, .int high]
theorem pw_bd {b : Nat} (h2 : 2 ≤ b) {e : Int} {n d : Nat} (hn : b ^ e.toNat < 2 ^ n) (hd : b ^ (-e).toNat < 2 ^ d) (h1 : 1 ≤ n) (h1' : 1 ≤ d) : Qz n d (pw b e) := by
  unfold pw
  by_cases h : e < 0
  · rw [if_pos h]
    have hp : 0 < b ^ (-e).toNat := Nat.pow_pos (by omega)
    refine ⟨?_, ?_⟩
    · rw [Rat.num_inv, Rat.num_natCast, Rat.den_natCast]
      have : (((b ^ (-e).toNat : Nat) : Int)).sign = 1 := Int.sign_eq_one_of_pos (by omega)
      rw [this]
      exact (show Bd 1 (1 * ((1 : Nat) : Int)) by unfold Bd; decide).le h1
    · rw [Rat.den_inv, Rat.num_natCast, if_neg (by omega), Int.natAbs_natCast]
      exact Bd.nat hd
  · rw [if_neg h]
    exact ⟨by rw [Rat.num_natCast]; exact Bd.nat hn, by rw [Rat.den_natCast]; exact (show Bd 1 ((1 : Nat) : Int) by unfold Bd; decide).le h1'⟩
section
variable {b p : Nat} {low high : Int} (F : Fm b p low high)
include F
theorem Fm.pow_lo {e : Int} (h : low ≤ e) : b ^ (-e).toNat < 2 ^ 2340 := Nat.lt_of_le_of_lt (Nat.pow_le_pow_right (by have := F.b2; omega) (by omega)) F.bl
theorem Fm.pow_hi {e : Int} (h : e ≤ high) : b ^ e.toNat < 2 ^ 2340 := Nat.lt_of_le_of_lt (Nat.pow_le_pow_right (by have := F.b2; omega) (by omega)) F.bh
theorem Fm.qz {e : Int} (h : low ≤ e) (h' : e ≤ high) : Qz 2340 2340 (pw b e) := pw_bd F.b2 (F.pow_hi h') (F.pow_lo h) (by decide) (by decide)
theorem Fm.e_bd {q : Rat} {e : Int} {n d : Nat} (hq : Qz n d q) (h0 : 0 ≤ q) (hE : IsE b p low q e) : (q.den * b ^ e.toNat < 2 ^ n ∧ 0 < e ∧ low < e) ∨ (e ≤ 0 ∨ e = low) := by
  by_cases h : 0 < e ∧ low < e
  · refine .inl ⟨?_, h⟩
    have h3 := hE.2.2
    have h4 : pw b (p + e - 1) ≤ q := by
      rcases h3 with z | z
      · omega
      · exact z
    have h5 : pw b (e : Int) ≤ q := Rat.le_trans (pw_mono F.b2 (by have := F.p2; omega)) h4
    have hd0 : (0 : Rat) ≤ ((q.den : Int) : Rat) := cast_le.mpr (Int.le_of_lt (den_pos q))
    have h6 := Rat.mul_le_mul_of_nonneg_right h5 hd0
    rw [num_den, pw_of (by omega), ← Rat.intCast_natCast, ← Rat.intCast_mul] at h6
    have h7 := cast_le.mp h6
    have h8 := hq.nu
    unfold Bd at h8
    have h9 : (q.den : Int) * ((b ^ e.toNat : Nat) : Int) ≤ q.num := by rw [Int.mul_comm]; exact h7
    have h10 : ((q.den * b ^ e.toNat : Nat) : Int) ≤ q.num := by rw [Int.natCast_mul]; exact h9
    omega
  · exact .inr (by have := hE.1; omega)
theorem Fm.D_bd {q : Rat} {e : Int} {n d : Nat} (hq : Qz n d q) (h0 : 0 ≤ q) (hE : IsE b p low q e) (hn : n ≤ 8900) (hd : d ≤ 6500) : Bd 8900 (Dq b e q) := by
  unfold Dq
  rw [← Int.natCast_mul]
  rcases F.e_bd hq h0 hE with ⟨h, _, _⟩ | h
  · exact (Bd.nat h).le hn
  · have h1 : b ^ e.toNat < 2 ^ 2340 := by
      rcases h with h | h
      · have : e.toNat = 0 := by omega
        rw [this, Nat.pow_zero]; exact Nat.one_lt_two_pow (by decide)
      · rw [h]; exact F.pow_hi F.lh
    rw [Int.natCast_mul]
    exact (hq.de.mul (Bd.nat h1)).le (by omega)
theorem Fm.e_hi {q : Rat} {e : Int} {n d : Nat} (hq : Qz n d q) (h0 : 0 ≤ q) (hE : IsE b p low q e) (hn : n ≤ 8900) : e ≤ 9000 := by
  rcases F.e_bd hq h0 hE with ⟨h, _, _⟩ | h
  · have hd1 : 1 ≤ q.den := q.den_pos
    have h1 : b ^ e.toNat < 2 ^ n := Nat.lt_of_le_of_lt (Nat.le_mul_of_pos_left _ hd1) h
    have h2 : 2 ^ e.toNat ≤ b ^ e.toNat := Nat.pow_le_pow_left F.b2 _
    have h3 : e.toNat < n := (Nat.pow_lt_pow_iff_right (by decide)).mp (Nat.lt_of_le_of_lt h2 h1)
    omega
  · have := F.hi; have := F.lh
    rcases h with h | h <;> omega
end
section
variable {b p : Nat} (h2 : 2 ≤ b)
include h2
theorem mul_eq_u {x y : Rat} (e : Int) : x * pw b e = y * pw b e ↔ x = y := by
  constructor
  · intro h
    have := congrArg (· / pw b e) h
    simp only [Rat.mul_div_cancel (pw_ne h2 e)] at this
    exact this
  · intro h; rw [h]
def loQ (b : Nat) (e : Int) (q : Rat) : Rat := (cQ b e q : Rat) * pw b e
theorem lo_eq (e : Int) (q : Rat) : loQ b e q = q ↔ rQ b e q = 0 := by
  rw [← t_zero h2 e q]
  conv => lhs; rhs; rw [q_val h2 e q]
  unfold loQ
  rw [mul_eq_u h2]
  constructor <;> intro h <;> grind
end
end Lw
set_option exponentiation.threshold 4000
namespace Lw
open PySem PySem.Spec PyProof.Rows L2 Gd Fr
open scoped Rat
section
variable {b p : Nat} {low e : Int} {q : Rat} (h2 : 2 ≤ b) (hp : 2 ≤ p)
include h2
include hp
theorem over_iff {high C E : Int} (hl : low ≤ high) (hC : Can b p low C E) : (((((b ^ p : Nat) : Int) - 1 : Int) : Rat) * pw b high < (C : Rat) * pw b E) ↔ high < E := by
  obtain ⟨a1, a2, a3, a4⟩ := hC
  have e1 : b ^ p = b ^ (p - 1) * b := by rw [← Nat.pow_succ]; congr 1; omega
  constructor
  · intro h
    refine Decidable.byContradiction fun hn => ?_
    have hn : E ≤ high := by omega
    have h1 : (C : Rat) * pw b E ≤ ((((b ^ p : Nat) : Int) - 1 : Int) : Rat) * pw b E := Rat.mul_le_mul_of_nonneg_right (cast_le.mpr (by omega)) (Rat.le_of_lt (pw_pos h2 E))
    have e0 : 0 < b ^ p := Nat.pow_pos (by omega)
    have h3 : (0 : Rat) ≤ ((((b ^ p : Nat) : Int) - 1 : Int) : Rat) := cast_le.mpr (show (0 : Int) ≤ ((b ^ p : Nat) : Int) - 1 by omega)
    have h4 := Rat.mul_le_mul_of_nonneg_left (pw_mono h2 hn) h3
    exact absurd (ltle h (Rat.le_trans h1 h4)) Rat.lt_irrefl
  · intro h
    have z : ((b ^ (p - 1) : Nat) : Int) ≤ C := by rcases a4 with z | z <;> omega
    have h1 : pw b (p + high) ≤ (C : Rat) * pw b E := by
      have h3 := Rat.mul_le_mul_of_nonneg_right (cast_le.mpr z) (Rat.le_of_lt (pw_pos h2 E))
      rw [← pw_p h2] at h3
      exact Rat.le_trans (pw_mono h2 (by omega)) h3
    refine ltle ?_ h1
    rw [pw_p h2, Rat.mul_lt_mul_right (pw_pos h2 high)]
    exact cast_lt.mpr (by omega)
end
end Lw
set_option exponentiation.threshold 20000
namespace Lw
open PySem PySem.Spec PyProof.Rows L2 Gd Fr
open scoped Rat
theorem pow_uniq {b k j w : Nat} (h2 : 2 ≤ b) (h1 : b ^ k ≤ w) (h3 : w < b ^ (k + 1)) (h1' : b ^ j ≤ w) (h3' : w < b ^ (j + 1)) : k = j := by
  have a := (Nat.pow_lt_pow_iff_right (by omega : 1 < b)).mp (Nat.lt_of_le_of_lt h1 h3')
  have c := (Nat.pow_lt_pow_iff_right (by omega : 1 < b)).mp (Nat.lt_of_le_of_lt h1' h3)
  omega
inductive R_within : Rel
  | mk (b w k : Nat) (B : Bag) (h2 : 2 ≤ b) (hw : w < 2 ^ 8900) (h1 : b ^ k ≤ w) (h3 : w < b ^ (k + 1)) : R_within [.da (.int b), .da (.int w)] B (.int k) B
def sqs (b j : Nat) : List PyData := (List.range j).map fun i => .int ((b ^ 2 ^ i : Nat) : Int)
theorem sqs_len (b j : Nat) : (sqs b j).length = j := by unfold sqs; rw [List.length_map, List.length_range]
theorem sqs_succ (b j : Nat) : sqs b j ++ [.int ((b ^ 2 ^ j : Nat) : Int)] = sqs b (j + 1) := by
  unfold sqs; rw [List.range_succ, List.map_append]; rfl
theorem sqs_at {b j i : Nat} {y : PyData} (h : (sqs b j)[i]? = some y) : y = .int ((b ^ 2 ^ i : Nat) : Int) := by
  unfold sqs at h
  rw [List.getElem?_map] at h
  obtain ⟨k, hk, rfl⟩ := Option.map_eq_some_iff.mp h
  have := (List.getElem?_range (by
    have := (List.getElem?_eq_some_iff.mp hk).1
    rwa [List.length_range] at this) : (List.range j)[i]? = some i)
  rw [this] at hk; cases hk; rfl
theorem sq_next (b j : Nat) : ((b ^ 2 ^ j : Nat) : Int) * ((b ^ 2 ^ j : Nat) : Int) = ((b ^ 2 ^ (j + 1) : Nat) : Int) := by
  rw [← Int.natCast_mul, ← Nat.pow_add, Nat.pow_succ, Nat.mul_two]
theorem few_sq {b j w : Nat} (h2 : 2 ≤ b) (hw : w < 2 ^ 8900) (h : ∀ i, i < j → b ^ 2 ^ i ≤ w) : j ≤ 14 := by
  refine Decidable.byContradiction fun hn => ?_
  have h1 := h 14 (by omega)
  have h3 : 2 ^ 2 ^ 14 ≤ b ^ 2 ^ 14 := Nat.pow_le_pow_left h2 _
  have h4 := (Nat.pow_lt_pow_iff_right (by decide : 1 < 2)).mp (Nat.lt_of_le_of_lt (Nat.le_trans h3 h1) hw)
  exact absurd h4 (by decide)
theorem step_yes {b w k m l : Nat} (h2 : 2 ≤ b) (hl : l = w / b ^ (k * 2 ^ (m + 1))) (hlt : l < b ^ 2 ^ (m + 1)) (h1 : 1 ≤ l) (hs : b ^ 2 ^ m ≤ l) :
    l / b ^ 2 ^ m = w / b ^ ((2 * k + 1) * 2 ^ m) ∧ l / b ^ 2 ^ m < b ^ 2 ^ m ∧ 1 ≤ l / b ^ 2 ^ m := by
  have hp : 0 < b ^ 2 ^ m := Nat.pow_pos (by omega)
  refine ⟨?_, ?_, (Nat.one_le_div_iff hp).mpr hs⟩
  · rw [hl, Nat.div_div_eq_div_mul, ← Nat.pow_add]
    congr 2
    rw [Nat.pow_succ]; grind
  · rw [Nat.div_lt_iff_lt_mul hp, ← Nat.pow_add, ← Nat.mul_two, ← Nat.pow_succ]; exact hlt
theorem step_no {b w k m l : Nat} (hl : l = w / b ^ (k * 2 ^ (m + 1))) (hs : ¬ b ^ 2 ^ m ≤ l) : l = w / b ^ ((2 * k) * 2 ^ m) ∧ l < b ^ 2 ^ m := by
  refine ⟨?_, by omega⟩
  rw [hl]; congr 2
  rw [Nat.pow_succ]; grind
theorem log_end {b w k l : Nat} (h2 : 2 ≤ b) (hl : l = w / b ^ (k * 2 ^ 0)) (hlt : l < b ^ 2 ^ 0) (h1 : 1 ≤ l) : b ^ k ≤ w ∧ w < b ^ (k + 1) := by
  rw [Nat.pow_zero, Nat.mul_one] at hl
  rw [Nat.pow_zero, Nat.pow_one] at hlt
  have hp : 0 < b ^ k := Nat.pow_pos (by omega)
  rw [hl] at hlt h1
  refine ⟨(Nat.one_le_div_iff hp).mp h1, ?_⟩
  rw [Nat.div_lt_iff_lt_mul hp] at hlt
  rw [Nat.pow_succ, Nat.mul_comm]; exact hlt
section
variable {b : Nat} (h2 : 2 ≤ b)
include h2
theorem pw_sub (i j : Nat) : pw b ((j : Int) - i) * ((b ^ i : Nat) : Rat) = ((b ^ j : Nat) : Rat) := by
  rw [← pw_nat, ← pw_add h2, ← pw_nat]; congr 1; omega
theorem lt_pw_iff (q : Rat) (i j : Nat) : q < pw b ((j : Int) - i) ↔ q.num * ((b ^ i : Nat) : Int) < (q.den : Int) * ((b ^ j : Nat) : Int) := by
  have hd : (0 : Rat) < ((q.den : Int) : Rat) := cast_lt.mpr (den_pos q)
  have hi : (0 : Rat) < ((b ^ i : Nat) : Rat) := Rat.natCast_pos.mpr (Nat.pow_pos (by omega))
  rw [← Rat.mul_lt_mul_right hi, ← Rat.mul_lt_mul_right hd, pw_sub h2, ← cast_lt, Rat.intCast_mul, Rat.intCast_mul, ← num_den q, Rat.intCast_natCast, Rat.intCast_natCast, Rat.intCast_natCast]
  constructor <;> intro h <;> grind
theorem pw_le_iff (q : Rat) (i j : Nat) : pw b ((j : Int) - i) ≤ q ↔ (q.den : Int) * ((b ^ j : Nat) : Int) ≤ q.num * ((b ^ i : Nat) : Int) := by
  rw [← Rat.not_lt, lt_pw_iff h2, Int.not_lt]
end
inductive R_pbelow : Rel
  | mk (b : Nat) (q : Rat) (k : Int) (n d : Nat) (B : Bag) (h2 : 2 ≤ b) (h0 : 0 < q) (hq : Qz n d q) (hn : n ≤ 8900) (hd : d ≤ 8900) (h1 : pw b k ≤ q) (h3 : q < pw b (k + 1)) : R_pbelow [.da (.int b), .da (fq q)] B (.int k) B
theorem pw_num (b : Nat) (h2 : 2 ≤ b) (e : Int) : (pw b e).num = ((b ^ e.toNat : Nat) : Int) ∧ ((pw b e).den : Int) = ((b ^ (-e).toNat : Nat) : Int) := by
  unfold pw
  by_cases h : e < 0
  · rw [if_pos h, Rat.num_inv, Rat.den_inv, Rat.num_natCast, Rat.den_natCast]
    have hp : 0 < b ^ (-e).toNat := Nat.pow_pos (by omega)
    have e1 : e.toNat = 0 := by omega
    rw [if_neg (by omega), Int.sign_eq_one_of_pos (by omega), e1, Nat.pow_zero, Int.natAbs_natCast]
    exact ⟨rfl, rfl⟩
  · rw [if_neg h, Rat.num_natCast, Rat.den_natCast]
    have e1 : (-e).toNat = 0 := by omega
    rw [e1, Nat.pow_zero]
    exact ⟨rfl, rfl⟩
theorem fq_int (n : Int) : fq (n : Rat) = .tuple [.int n, .int 1] := by unfold fq; rw [Rat.num_intCast, Rat.den_intCast]; rfl
inductive Va where
  | nan
  | inf (s : Int)
  | num (s c e : Int)
def Va.l : Va → List PyData
  | .nan => [.str "nan"]
  | .inf s => [.str "inf", .int s]
  | .num s c e => [.str "num", .int s, .int c, .int e]
def Va.d (v : Va) : PyData := .tuple v.l
def Va.isNan : Va → Bool
  | .nan => true
  | _ => false
def Va.sg : Va → Int
  | .nan => 0
  | .inf s => s
  | .num s _ _ => s
def Va.wQ (b : Nat) : Va → Rat
  | .num s c e => ((if s = 1 then -c else c : Int) : Rat) * pw b e
  | _ => 0
def Vok (b p : Nat) (low high : Int) : Va → Prop
  | .nan => True
  | .inf s => s = 0 ∨ s = 1
  | .num s c e => (s = 0 ∨ s = 1) ∧ 0 ≤ c ∧ c < ((b ^ p : Nat) : Int) ∧ low ≤ e ∧ e ≤ high
theorem Fm.wz {b p : Nat} {low high : Int} (F : Fm b p low high) {v : Va} (h : Vok b p low high v) : Qz 3040 2341 (v.wQ b) := by
  have z : Qz 3040 2341 0 := ⟨by unfold Bd; exact Nat.pow_pos (by decide), (show Bd 1 (((0 : Rat).den : Nat) : Int) by unfold Bd; decide).le (by decide)⟩
  cases v with
  | nan => exact z
  | inf s => exact z
  | num s c e =>
    obtain ⟨h1, h3, h4, h5, h6⟩ := h
    have hc : Qz 700 1 (((if s = 1 then -c else c : Int)) : Rat) := by
      refine ⟨?_, by rw [Rat.den_intCast]; unfold Bd; decide⟩
      rw [Rat.num_intCast]
      have := F.bp
      unfold Bd
      split <;> omega
    exact hc.mul (F.qz h5 h6)
inductive R_worth : Rel
  | mk (b p : Nat) (low high : Int) (s c e : Int) (B : Bag) (F : Fm b p low high) (h : Vok b p low high (.num s c e)) : R_worth [.da (fmP b p low high), .da (Va.d (.num s c e))] B (fq (Va.wQ b (.num s c e))) B
end Lw
set_option exponentiation.threshold 20000
namespace Lw
open PySem PySem.Spec PyProof.Rows L2 Gd Fr
open scoped Rat
theorem isE_zero {b p : Nat} (h2 : 2 ≤ b) (low : Int) : IsE b p low 0 low := ⟨Int.le_refl _, pw_pos h2 _, .inl rfl⟩
theorem cQ_zero (b : Nat) (e : Int) : cQ b e 0 = 0 ∧ rQ b e 0 = 0 := by
  unfold cQ rQ Nq
  rw [show ((0 : Rat).num) = 0 from rfl, Int.zero_mul, Int.zero_ediv, Int.zero_emod]
  exact ⟨rfl, rfl⟩
theorem absQ_pos {x : Rat} (h : x ≠ 0) : 0 < absQ x := by unfold absQ; split <;> grind
theorem absQ_zero {x : Rat} : absQ x = 0 ↔ x = 0 := by unfold absQ; split <;> grind
inductive R_zero : Rel
  | mk (b p : Nat) (low high : Int) (s : Int) (B : Bag) : R_zero [.da (fmP b p low high), .da (.int s)] B (nm s 0 low) B
theorem at1 {v : Va} (h : v.isNan = false) : atI v.l 1 = some (.int v.sg) := by cases v <;> first | rfl | cases h
theorem e_of_log {b p : Nat} (h2 : 2 ≤ b) {low k : Int} {q : Rat} (h1 : pw b k ≤ q) (h3 : q < pw b (k + 1)) : max low (k - p + 1) = eQ b p low q := by
  refine (eQ_of h2 ⟨by omega, ltle h3 (pw_mono h2 (by omega)), ?_⟩).symm
  by_cases h : k - p + 1 ≤ low
  · exact .inl (by omega)
  · refine .inr ?_
    have e : (p : Int) + max low (k - p + 1) - 1 = k := by omega
    rw [e]; exact h1
theorem log_ex {b : Nat} (h2 : 2 ≤ b) {q : Rat} (h0 : 0 < q) : ∃ k, pw b k ≤ q ∧ q < pw b (k + 1) := by
  -- one digit, from an e far below on
  obtain ⟨m, hm⟩ : ∃ m : Nat, pw b (-(m : Int)) ≤ q := by
    refine ⟨q.den, ?_⟩
    have := (pw_le_iff h2 q q.den 0).mpr (by
      rw [Nat.pow_zero]
      have h1 : q.den < b ^ q.den := Nat.lt_pow_self (by omega)
      have hn : 1 ≤ q.num := by
        have : ¬ q.num ≤ 0 := fun z => by
          have h3 : ¬ 0 < q := fun z2 => by
            have := (Rat.lt_iff 0 q).mp z2
            rw [show (0 : Rat).num = 0 from rfl, Int.zero_mul, show ((0 : Rat).den : Int) = 1 from rfl] at this
            omega
          exact h3 h0
        omega
      have h4 : ((b ^ q.den : Nat) : Int) * 1 ≤ ((b ^ q.den : Nat) : Int) * q.num := Int.mul_le_mul_of_nonneg_left hn (Int.natCast_nonneg _)
      rw [Int.mul_comm q.num]
      show (q.den : Int) * 1 ≤ _
      omega)
    rw [show ((0 : Nat) : Int) - (q.den : Nat) = -(q.den : Int) by omega] at this
    exact this
  obtain ⟨e, h1, h3, h4⟩ := isE_ex (p := 1) h2 (-(m : Int) - 1) q
  refine ⟨(1 : Nat) + e - 1, ?_, ?_⟩
  · rcases h4 with z | z
    · refine Rat.le_trans (pw_mono h2 (by omega)) hm
    · exact z
  · rw [show ((1 : Nat) : Int) + e - 1 + 1 = (1 : Nat) + e by omega]; exact h3
end Lw
namespace Lw
open PySem PySem.Spec PyProof.Rows L2 Gd Fr
end Lw
namespace Lw
open PySem PySem.Spec PyProof.Rows L2 Gd Fr
end Lw
namespace Lw
open PySem PySem.Spec PyProof.Rows L2 Gd Fr
theorem nice_word {x : Str} (h : (x.cps.all fun c => c < 0x110000) = true) : nice (.str x) = true := by
  simp only [nice]; exact h
end Lw
set_option exponentiation.threshold 20000
namespace Lw
open PySem PySem.Spec PyProof.Rows L2 Gd Fr
open scoped Rat
theorem shaped_fq (x : Rat) : SeqAt.shaped (fq x) = true := shaped_ii _ _
theorem eqv_fq (x y : Rat) : PyData.eqv (fq x) (fq y) = decide (x = y) := by
  unfold fq
  rw [eqv_ii]
  by_cases h : x = y
  · subst h; simp
  · rw [decide_eq_false h, Bool.and_eq_false_iff]
    by_cases h1 : x.num = y.num
    · refine .inr (decide_eq_false fun h3 => h ?_)
      exact Rat.ext h1 (by omega)
    · exact .inl (decide_eq_false h1)
abbrev F4 := Nat × Nat × Int × Int
def F4.d (t : F4) : PyData := fmP t.1 t.2.1 t.2.2.1 t.2.2.2
def F4.ok (t : F4) : Prop := Fm t.1 t.2.1 t.2.2.1 t.2.2.2
def fmB (t : F4) : Bool :=
  decide (2 ≤ t.1) && decide (t.1 < 2 ^ 6) && decide (2 ≤ t.2.1) && decide (t.2.1 ≤ 120) && decide (-1200 ≤ t.2.2.1) && decide (t.2.2.1 ≤ t.2.2.2) && decide (t.2.2.2 ≤ 1200) &&
    decide (t.1 ^ t.2.1 < 2 ^ 700) && decide (t.1 ^ (-t.2.2.1).toNat < 2 ^ 2340) && decide (t.1 ^ t.2.2.2.toNat < 2 ^ 2340)
theorem fm_of {t : F4} (h : fmB t = true) : t.ok := by
  unfold fmB at h
  simp only [Bool.and_eq_true, decide_eq_true_eq] at h
  obtain ⟨⟨⟨⟨⟨⟨⟨⟨⟨a1, a2⟩, a3⟩, a4⟩, a5⟩, a6⟩, a7⟩, a8⟩, a9⟩, a10⟩ := h
  exact ⟨a1, a2, a3, a4, a5, a6, a7, a8, a9, a10⟩
def pickF (ts : List F4) (B : Bag) : F4 := ts.getD (tkV B ts.length).toNat (2, 2, 0, 0)
theorem pick_fm (ts : List F4) (B : Bag) (h : 0 < ts.length) : pick (ts.map F4.d) B = (pickF ts B).d := by
  have h0 := tkV_ge B (m := ts.length) (by omega)
  have h1 := tkV_lt B (m := ts.length) (by omega)
  have hlt : (tkV B ts.length).toNat < ts.length := by omega
  unfold pick pickF
  rw [List.length_map, List.getD_eq_getElem?_getD, List.getD_eq_getElem?_getD, List.getElem?_map, List.getElem?_eq_getElem hlt]; rfl
def smallF : List F4 := [(2, 2, 0, 0), (2, 2, -3, 2), (2, 3, -4, 3), (4, 2, -2, 1), (10, 2, -2, 1), (6, 2, -1, 2), (2, 4, -2, 2)] ++ [(4, 2, 1, 3), (2, 3, 2, 5), (10, 2, -6, -5)]
def worldF : List F4 := ([(2, 24, -149, 104), (2, 11, -24, 5), (10, 7, -101, 90), (36, 3, -5, 4), (16, 6, -70, 57), (10, 34, -60, 40)] ++ [(2, 8, -133, 120), (20, 2, 0, 3), (10, 16, -98, 69), (2, 53, -120, 60), (10, 20, 5, 60)]) ++ [(2, 30, -90, -40), (14, 5, -9, 9), (22, 4, 1, 8)]
def farF : List F4 := [(2, 53, -1074, 971), (10, 16, -398, 369), (36, 120, -200, 200), (2, 120, -1200, 1080), (10, 100, -700, 700)] ++ [(2, 24, -1200, 1200), (2, 40, -300, 300), (10, 16, -300, 300)]
theorem small_ok : smallF.all fmB = true := by decide +kernel
inductive R_fmt (f : Bag → F4) (g : Bag → Bag) : Rel
  | mk (B : Bag) (hc : Bok B) : R_fmt f g [.bag] B (f B).d (g B)
def wideV (B : Bag) : F4 := if 0 < tkV B 4 then pickF worldF (tkB B 4) else pickF farF (tkB B 4)
def wideB (B : Bag) : Bag := if 0 < tkV B 4 then tkB (tkB B 4) 14 else tkB (tkB B 4) 8
def smallV (B : Bag) : F4 := pickF smallF B
def smallB (B : Bag) : Bag := tkB B 10
theorem wideB_ok {B : Bag} (h : Bok B) : Bok (wideB B) := by unfold wideB; split <;> exact tkB_ok (tkB_ok h _) _
theorem smallB_ok {B : Bag} (h : Bok B) : Bok (smallB B) := tkB_ok h _
structure Pows (b p : Nat) : Prop where
  l2 : 2 ≤ b ^ (p - 1)
  eq : b ^ p = b ^ (p - 1) * b
  ge : b ^ (p - 1) * 2 ≤ b ^ p
theorem Fm.pows {b p : Nat} {low high : Int} (F : Fm b p low high) : Pows b p := by
  have h2 := F.b2; have hp := F.p2
  have e1 : b ^ p = b ^ (p - 1) * b := by rw [← Nat.pow_succ]; congr 1; omega
  refine ⟨?_, e1, by rw [e1]; exact Nat.mul_le_mul_left _ h2⟩
  have h1 : b ^ 1 ≤ b ^ (p - 1) := Nat.pow_le_pow_right (by omega) (by omega)
  rw [Nat.pow_one] at h1; omega
def Va.c : Va → Int
  | .num _ c _ => c
  | _ => 0
def Va.e : Va → Int
  | .num _ _ e => e
  | _ => 0
section
variable (b p : Nat) (low high : Int)
end
section
variable {b p : Nat} {low high : Int} (F : Fm b p low high)
include F
end
end Lw
set_option exponentiation.threshold 20000
namespace Lw
open PySem PySem.Spec PyProof.Rows L2 Gd Fr
open scoped Rat
inductive R_grid : Rel
  | mk (b p : Nat) (low high : Int) (q : Rat) (n d : Nat) (B : Bag) (F : Fm b p low high) (h0 : 0 ≤ q) (hq : Qz n d q) (hn : n ≤ 8900) (hd : d ≤ 6500) :
      R_grid [.da (fmP b p low high), .da (fq q)] B (.tuple [.int (cQ b (eQ b p low q) q), .int (eQ b p low q)]) B
end Lw
namespace Lw
open PySem PySem.Spec PyProof.Rows L2 Gd Fr
open scoped Rat
noncomputable def grQ (b p : Nat) (high : Int) : Rat := ((((b ^ p : Nat) : Int) - 1 : Int) : Rat) * pw b high
inductive R_great : Rel
  | mk (b p : Nat) (low high : Int) (B : Bag) (F : Fm b p low high) : R_great [.da (fmP b p low high)] B (fq (grQ b p high)) B
theorem can_e {b p : Nat} (h2 : 2 ≤ b) (hp : 1 ≤ p) {low C E : Int} (h : Can b p low C E) : eQ b p low ((C : Rat) * pw b E) = E ∧ cQ b E ((C : Rat) * pw b E) = C := ⟨eQ_of h2 (can_isE h2 hp h), can_c h2 C E⟩
theorem can_qz {b p : Nat} {low high C E : Int} (F : Fm b p low high) (h : Can b p low C E) (hE : E ≤ high) : Qz 3040 2341 ((C : Rat) * pw b E) ∧ 0 ≤ (C : Rat) * pw b E := by
  obtain ⟨a1, a2, a3, _⟩ := h
  have := F.bp
  have hc : Qz 700 1 (C : Rat) := ⟨by rw [Rat.num_intCast]; unfold Bd; omega, by rw [Rat.den_intCast]; unfold Bd; decide⟩
  refine ⟨hc.mul (F.qz a3 hE), ?_⟩
  have h1 : (0 : Rat) ≤ (C : Rat) := cast_le.mpr a1
  have := Rat.mul_le_mul_of_nonneg_right h1 (Rat.le_of_lt (pw_pos F.b2 E))
  rw [Rat.zero_mul] at this; exact this
theorem great_can {b p : Nat} {low high : Int} (F : Fm b p low high) : Can b p low (((b ^ p : Nat) : Int) - 1) high := by
  have P := F.pows; have l2 := P.l2; have ge := P.ge; have lh := F.lh
  exact ⟨by omega, by omega, lh, .inr (by omega)⟩
end Lw
namespace Lw
open PySem PySem.Spec PyProof.Rows L2 Gd Fr
open scoped Rat
end Lw
namespace Lw
open PySem PySem.Spec PyProof.Rows L2 Gd Fr
open scoped Rat
section
variable {b p : Nat} {low high : Int} (F : Fm b p low high)
include F
end
end Lw
set_option exponentiation.threshold 20000
namespace Lw
open PySem PySem.Spec PyProof.Rows L2 Gd Fr
open scoped Rat
structure Nd (D W : Nat) (d : PyData) : Prop where
  ni : nice d = true
  dp : d.depth ≤ D
  bk : d.bulk ≤ W
structure NdA (D W : Nat) (ds : List PyData) : Prop where
  ni : niceAll ds = true
  dp : PyData.depthAll ds ≤ D
  bk : PyData.bulkAll ds ≤ W
theorem NdA.nil {D W : Nat} : NdA D W [] := ⟨niceAll_nil, by simp only [PyData.depthAll]; omega, by simp only [PyData.bulkAll]; omega⟩
theorem NdA.cons {D W W' : Nat} {d : PyData} {ds : List PyData} (h : Nd D W d) (r : NdA D W' ds) : NdA D (W + 1 + W') (d :: ds) :=
  ⟨niceAll_cons h.ni r.ni, by have := h.dp; have := r.dp; simp only [PyData.depthAll]; omega, by have := h.bk; have := r.bk; simp only [PyData.bulkAll]; omega⟩
theorem NdA.le {D W D' W' : Nat} {ds : List PyData} (h : NdA D W ds) (e : D ≤ D') (f : W ≤ W') : NdA D' W' ds := ⟨h.ni, Nat.le_trans h.dp e, Nat.le_trans h.bk f⟩
theorem Nd.le {D W D' W' : Nat} {d : PyData} (h : Nd D W d) (e : D ≤ D') (f : W ≤ W') : Nd D' W' d := ⟨h.ni, Nat.le_trans h.dp e, Nat.le_trans h.bk f⟩
theorem Nd.list {D W : Nat} {ds : List PyData} (h : NdA D W ds) : Nd (D + 1) W (.list ds) := ⟨nice_list h.ni, by have := h.dp; simp only [PyData.depth]; omega, by have := h.bk; simp only [PyData.bulk]; omega⟩
theorem Nd.tuple {D W : Nat} {ds : List PyData} (h : NdA D W ds) : Nd (D + 1) W (.tuple ds) := ⟨nice_tuple h.ni, by have := h.dp; simp only [PyData.depth]; omega, by have := h.bk; simp only [PyData.bulk]; omega⟩
theorem Nd.int {n : Nat} {i : Int} (h : Bd n i) (e : n ≤ 1920 := by decide) : Nd 1 0 (.int i) := ⟨nice_int h e, by simp only [PyData.depth]; omega, by simp only [PyData.bulk]; omega⟩
theorem Nd.str {x : Str} (h : (x.cps.all fun c => c < 0x110000) = true) (h2 : x.cps.size ≤ 20) : Nd 1 20 (.str x) := ⟨nice_word h, by simp only [PyData.depth]; omega, by simp only [PyData.bulk]; exact h2⟩
theorem Nd.bool {x : Bool} : Nd 1 0 (.bool x) := ⟨by simp only [nice], by simp only [PyData.depth]; omega, by simp only [PyData.bulk]; omega⟩
theorem Nd.none : Nd 1 0 .none := ⟨by simp only [nice], by simp only [PyData.depth]; omega, by simp only [PyData.bulk]; omega⟩
section
variable {b p : Nat} {low high : Int} (F : Fm b p low high)
include F
end
def Va.isNum : Va → Bool
  | .num _ _ _ => true
  | _ => false
section
variable (b p : Nat) (low high : Int)
end
end Lw
set_option exponentiation.threshold 20000
namespace Lw
open PySem PySem.Spec PyProof.Rows L2 Gd Fr
open scoped Rat
def Va.isZ : Va → Bool
  | .num _ c _ => decide (c = 0)
  | _ => false
section
variable {b p : Nat} {low high : Int} (F : Fm b p low high)
include F
end
section
variable (b p : Nat) (low high : Int)
end
section
variable {b p : Nat} {low high : Int} (F : Fm b p low high)
include F
end
end Lw
namespace Lw
open PySem PySem.Spec PyProof.Rows L2 Gd Fr
end Lw
set_option exponentiation.threshold 20000
namespace Lw
open PySem PySem.Spec PyProof.Rows L2 Gd Fr
open scoped Rat
theorem den_le {q : Rat} {m : Int} {N : Nat} (hN : 0 < N) (h : q * (N : Rat) = (m : Rat)) : q.den ≤ N := by
  have hne : ((N : Int) : Rat) ≠ 0 := fun z => by
    have e0 : (N : Int) = 0 := Rat.intCast_inj.mp (z.trans (by rfl))
    omega
  have e : q = m /. (N : Int) := by
    rw [Rat.divInt_eq_div, ← h, ← Rat.intCast_natCast]
    exact (Rat.mul_div_cancel hne).symm
  rw [e, Rat.den_divInt, if_neg (by omega), Int.natAbs_natCast]
  exact Nat.div_le_self _ _
section
variable (b p : Nat) (low high : Int)
end
end Lw
namespace Gd
open PySem PySem.Spec PyProof.Rows L2
section
variable {X : Cx} {i : Nat} {Γ : List VD} {B B1 B2 B' : Bag} {acc ds : List PyData} {e a b c : Expr} {es : List Expr} {d da db : VD} {y : PyData} {pos p p1 p2 p3 pos' : Pos} {rest ss s1 s2 : List Stmt} {E : EnO} {Es : En}
theorem Own.set {K : PySem.W.Frag} {g : Gh} {A0 A1 : Hp} {a : Addr} {σ : L2.St} {H0 H : Hp} (w : Own K i g A0 A1 a B Γ acc σ H0 H) (j : Nat) (hij : j ≠ i) {v : V} (r : Rv K g H0 v d) : Own K i g A0 A1 a B (Γ.set j d) acc (σ.set j (some v)) H0 H :=
  ⟨w.to, w.fr, w.off, w.ev.set j r, by rw [List.getElem?_set_ne hij]; exact w.at', w.no, w.ls, w.on⟩
end
end Gd
namespace Gd
open PySem PySem.Spec PyProof.Rows L2
section
variable {X : Cx} {i : Nat} {Γ : List VD} {B B1 B2 B3 : Bag} {e0 e2 e3 : Expr} {d0 d2 d3 : PyData} {pos pl pt2 : Pos} {rest : List Stmt} {Es : En}
end
end Gd
set_option exponentiation.threshold 20000
namespace Lw
open PySem PySem.Spec PyProof.Rows L2 Gd Fr
open scoped Rat
theorem NdA.all {D W : Nat} : ∀ {ds : List PyData}, (∀ d ∈ ds, Nd D W d) → NdA D ((W + 1) * ds.length) ds
  | [], _ => NdA.nil
  | d :: ds, h => by
    have := NdA.cons (h d List.mem_cons_self) (NdA.all fun e he => h e (List.mem_cons_of_mem _ he))
    exact this.le (Nat.le_refl _) (by rw [List.length_cons, Nat.mul_succ]; omega)
theorem _root_.Gd.pgN {X : Cx} {x : Str} {pos : Pos} (i : Nat) (nd : X.N.Nodup) (hi : X.N[i]? = some x := by rfl) (hx : Loc X.env.scope x := by first | exact Or.inl rfl | exact Or.inr rfl)
    (hf : X.fn x = true ∨ X.env.scope.names.lookup x = some .local := by first | exact .inl rfl | exact .inr rfl) : PG X (.Name x pos) (gName i) := pg_name nd hi hx hf
end Lw
namespace Gd
open PySem PySem.Spec PyProof.Rows L2
section
variable {X : Cx} {i : Nat} {Γ : List VD} {B B1 B2 B' : Bag} {acc ds ys : List PyData} {e a b c : Expr} {es : List Expr} {d da db : VD} {y : PyData} {pos p p1 p2 p3 pos' : Pos} {rest ss s1 s2 : List Stmt} {E : EnO} {Es : En}
theorem ow_ext {x : Str} (nd : X.N.Nodup) (h : EJ X Γ B e (.da (.list ys)) B1) (hl : acc.length + ys.length ≤ 1000) (k : OwJ X i Γ B1 (acc ++ ys) rest E) (hi : X.N[i]? = some x := by rfl)
    (hv : Vis X.env.scope x := by first | exact Or.inl rfl | exact Or.inr (Or.inl rfl) | exact Or.inr (Or.inr rfl))
    (h1 : (x == ("__debug__" : Str)) = false := by decide) (h2 : (x == ("__classdict__" : Str)) = false := by decide) (hst : starEach [e] X.env = [(false, eval e X.env)] := by rfl)
    (hbase : attributeBase (.Name x p1) "extend" X.env (eval (.Name x p1) X.env) = eval (.Name x p1) X.env := by rfl)
    (hfew : ((backTo p3 (starEach [e] X.env)).all (fun x => !x.1) && (backToKw p3 (keywordEach [] X.env)).all (fun x => x.1.isSome)
      && decide ([e].length + ([] : List Keyword).length + (if ([] : List Keyword).isEmpty then 0 else 1) < 30)) = true := by rfl)
    (hline : (p2.endLine == p3.line) = true := by rfl)
    (hs : swapsWith (.Call (.Attribute (.Name x p1) "extend" p2) [e] [] p3) none pos.line X.env = pure false := by rfl) :
    OwJ X i Γ B acc (.Expr (.Call (.Attribute (.Name x p1) "extend" p2) [e] [] p3) pos :: rest) E := fun g σ A0 A1 a H0 H w D G =>
  ⟨_, pss_cons (ps_expr (pe_bm PySem.F.plainAttrs_list PySem.F.slot_list_extend PySem.F.type_list_extend mt_extend (pe_var hi hv h1 h2) (wa [e]) hbase hfew hline hst rfl) hs) (ws rest), by
    obtain ⟨zs, hz, rz⟩ := w.ls
    refine ⟨_, w.at', .inl ⟨rfl, _, SqL.of hz⟩, ?_⟩
    refine (aj_cons (ds := []) h aj_nil hst) g σ H0 H w.ev w.on _ fun vs H1 H' t o rs => ?_
    obtain ⟨v, rfl, rv⟩ := rv1 rs
    have w2 := w.step t o
    obtain ⟨zs2, hz2, rz2⟩ := w2.ls
    obtain ⟨q0, us, rfl, hus, rus⟩ := rvL rv
    refine ⟨a, q0, zs2, us, rfl, rfl, hz2, o.ex _ _ hus, by rw [rz2.length, rus.length]; exact Nat.le_of_lt (small1000 hl), ?_⟩
    refine k g σ A0 A1 a H1 _ ⟨⟨w2.to.ex, fun b u f q1 q2 => ?_⟩, w2.fr, w2.off, w2.ev, w2.at', w2.no, ⟨zs2 ++ us, upd_same, rz2.app rus⟩, ⟨fun b u q => ?_, fun b l q => ?_⟩⟩ D (G.on t.ex)
    · obtain ⟨p, q⟩ := w2.to.un b u f q1 q2
      exact ⟨p, by rw [upd_ne (ne_of_none q2 w2.fr)]; exact q⟩
    · rw [upd_ne (ne_of_none q w2.no)]; exact w2.on.ex b u q
    · obtain ⟨p1, p2, p3⟩ := w2.on.bag b l q
      exact ⟨p1, by rw [upd_ne fun z : b = a => w2.off l (z ▸ q)]; exact p2, p3⟩⟩
def FRJ (X : Cx) (Γ : List VD) (B : Bag) (t : TE) (ds : List PyData) (B' : Bag) : Prop :=
  ∀ g σ H0 H, EnvD X.K g H0 σ Γ → On X.K g B H0 H → ∀ Q : VK,
    (∀ a zs H1 H', To g H0 H H1 H' → On X.K g B' H1 H' → RpAll X.K H1 zs ds → H' a = none → Q (.ref a) (upd H' a (.lst zs))) → t σ H Q
theorem rj_of_frj {t : TE} (h : FRJ X Γ B t ds B1) : RJ X Γ B t (.da (.list ds)) B1 := fun g σ H0 H Ev O Q q =>
  h g σ H0 H Ev O Q fun a zs H1 H' t o r n => by
    obtain ⟨t2, o2⟩ := laid (o := .lst zs) o n
    exact q _ _ _ (t.trans t2) o2 (Rp.lst upd_same (r.mono t2.ex))
theorem lcI_fresh {K : PySem.W.Frag} {g : Gh} {H0 H H1 H' : Hp} {A : Addr} {H2 H'' : Hp} (off : Off g A) (t : To g H0 H H1 H') (I : LcI K g H1 H' A acc B H2 H'') :
    ∃ zs Hx, H'' = upd Hx A (.lst zs) ∧ To g H0 H H2 Hx ∧ On K g B H2 Hx ∧ RpAll K H2 zs acc ∧ Hx A = none := by
  obtain ⟨zs, h1, h2⟩ := I.at'
  have tt := t.trans I.to
  refine ⟨zs, fun b => if b = A then none else H'' b, ?_, ⟨tt.ex, fun q u f e1 e2 => ?_⟩, ⟨fun q u e => ?_, fun q l e => ?_⟩, h2, if_pos rfl⟩
  · funext b
    by_cases hb : b = A
    · subst hb; rw [upd_same]; exact h1
    · rw [upd_ne hb, if_neg hb]
  · obtain ⟨q1, q2⟩ := tt.un q u f e1 e2
    have hq : q ≠ A := fun z => by
      subst z
      obtain ⟨_, q3⟩ := t.un q u f e1 e2
      rw [I.new] at q3; cases q3
    exact ⟨q1, by rw [if_neg hq]; exact q2⟩
  · have hq : q ≠ A := fun z => by rw [z, I.no] at e; cases e
    rw [if_neg hq]; exact I.on.ex _ _ e
  · obtain ⟨q1, q2, q3⟩ := I.on.bag q l e
    have hq : q ≠ A := fun z => off l (by rw [← z]; exact e)
    exact ⟨q1, by rw [if_neg hq]; exact q2, q3⟩
section
variable {elt : Expr} {scope : Scope} {j : Nat} {x : Str} {px : Pos}
theorem frj_R1 {n : Nat} (Bs : Nat → Bag) (hi : AJ X Γ B [e] [.da (.int n)] (Bs 0)) (hn : n ≤ 1000) (hl : ys.length = n)
    (hs : ∀ (i : Nat) z, i < n → ys[i]? = some z → Blk X scope fun Y => EJ Y (Γ.set j (.da (.int i))) (Bs i) elt (.da z) (Bs (i + 1))) :
    FRJ X Γ B (tLc (iRng1 (WA X [e])) (gName j) tYes (WB X scope elt) [j]) ys (Bs n) := fun g σ H0 H Ev O Q q =>
  hi g σ H0 H Ev O _ fun vs H1 H' t o r => by
    obtain ⟨v, rfl, h⟩ := rv1 r
    refine ⟨(n : Int), by rw [rvI h], by omega, by omega, fun A hA => ?_⟩
    obtain ⟨off, I0⟩ := lcI_start o hA
    refine lc_range (lo := 0) (n := n) (fun i H'' => ∃ H2, LcI X.K g H1 H' A (ys.take i) (Bs i) H2 H'') ⟨_, I0⟩ ?_ ?_
    · rintro i H'' hi ⟨H2, I⟩
      have hi2 : i < ys.length := by omega
      have hyz : ys[i]? = some ys[i] := List.getElem?_eq_getElem hi2
      rw [Int.zero_add]
      refine lc_turn off (Ev.mono t.ex) I (Rp.int _) (by rw [List.length_take]; omega) (hs i _ hi hyz) fun H3 H3' J => ⟨H3, ?_⟩
      rw [List.take_add_one, hyz]; exact J
    · rintro H'' ⟨H2, I⟩
      have I' : LcI X.K g H1 H' A (ys.take n) (Bs n) H2 H'' := I
      rw [← hl, List.take_length, hl] at I'
      obtain ⟨zs, Hx, rfl, t3, o3, r3, n3⟩ := lcI_fresh off t I'
      exact q _ _ _ _ t3 o3 r3 n3
theorem frj_R2 {lo hi' : Int} {n : Nat} (Bs : Nat → Bag) (hi : AJ X Γ B [a, b] [.da (.int lo), .da (.int hi')] (Bs 0)) (hn : n ≤ 1000) (he : (hi' - lo).toNat = n) (hlo : Bd 60 lo) (hhi : Bd 60 hi') (hl : ys.length = n)
    (hs : ∀ (i : Nat) z, i < n → ys[i]? = some z → Blk X scope fun Y => EJ Y (Γ.set j (.da (.int (lo + i)))) (Bs i) elt (.da z) (Bs (i + 1))) :
    FRJ X Γ B (tLc (iRng2 (WA X [a, b])) (gName j) tYes (WB X scope elt) [j]) ys (Bs n) := fun g σ H0 H Ev O Q q =>
  hi g σ H0 H Ev O _ fun vs H1 H' t o r => by
    obtain ⟨v, v', rfl, h, h'⟩ := rv2 r
    unfold Bd at hlo hhi
    refine ⟨lo, hi', by rw [rvI h, rvI h'], ⟨by omega, by omega, by omega, by omega⟩, fun A hA => ?_⟩
    obtain ⟨off, I0⟩ := lcI_start o hA
    rw [he]
    refine lc_range (lo := lo) (n := n) (fun i H'' => ∃ H2, LcI X.K g H1 H' A (ys.take i) (Bs i) H2 H'') ⟨_, I0⟩ ?_ ?_
    · rintro i H'' hi ⟨H2, I⟩
      have hi2 : i < ys.length := by omega
      have hyz : ys[i]? = some ys[i] := List.getElem?_eq_getElem hi2
      refine lc_turn off (Ev.mono t.ex) I (Rp.int _) (by rw [List.length_take]; omega) (hs i _ hi hyz) fun H3 H3' J => ⟨H3, ?_⟩
      rw [List.take_add_one, hyz]; exact J
    · rintro H'' ⟨H2, I⟩
      have I' : LcI X.K g H1 H' A (ys.take n) (Bs n) H2 H'' := I
      rw [← hl, List.take_length, hl] at I'
      obtain ⟨zs, Hx, rfl, t3, o3, r3, n3⟩ := lcI_fresh off t I'
      exact q _ _ _ _ t3 o3 r3 n3
theorem ej_lcR2 {pr pe : Pos} (nd : X.N.Nodup) (hc : X.calm = true) (hm : X.mg "range" = none) (ok : BlkOk X.N X.env.scope scope [(x, j)])
    (hg : ∀ (s : Shared) (H : Hp) (C : Addr) (cl : List (Str × Addr)) (fp : List Addr), PG (X.blk s H scope (compEnvC scope cl C X.env) fp) (.Name x px) (gName j))
    (r : RJ X Γ B (tLc (iRng2 (WA X [a, b])) (gName j) tYes (WB X scope elt) [j]) d B1) (hgl : Gl X "range" := by rfl)
    (hq : ∀ x, foldedSetIterable (.Call (.Name "range" pr) [a, b] [] pe) X.env x = pure x := by intro _; rfl) (hst : starEach [a, b] X.env = [(false, eval a X.env), (false, eval b X.env)] := by rfl) (hst2 : starEach [b] X.env = [(false, eval b X.env)] := by rfl) :
    EJ X Γ B (.ListComp elt [⟨.Name x px, .Call (.Name "range" pr) [a, b] [] pe, [], 0⟩] scope pos) d B1 :=
  ej_of (pe_lc (own := [(x, j)]) hc nd (pi_range2 hgl hm (wa [a, b]) hst hst2) ok hg (fun _ _ _ _ _ => pts_nil) (wb scope elt) hq) r
theorem sj_ownLcR1 (i : Nat) {y : Str} {py pr pe : Pos} (nd : X.N.Nodup) (hc : X.calm = true) (hm : X.mg "range" = none) (ok : BlkOk X.N X.env.scope scope [(x, j)])
    (hg : ∀ (s : Shared) (H : Hp) (C : Addr) (cl : List (Str × Addr)) (fp : List Addr), PG (X.blk s H scope (compEnvC scope cl C X.env) fp) (.Name x px) (gName j))
    (h : FRJ X Γ B (tLc (iRng1 (WA X [e])) (gName j) tYes (WB X scope elt) [j]) ds B1) (hΓ : i < Γ.length)
    (k : OwJ X i (Γ.set i .no) B1 ds rest { nx := fun Γ' B' acc => Es.nx (Γ'.set i (.da (.list acc))) B', fx := Es.nx, rt := Es.rt, bk := fun Γ' B' acc => Es.bk (Γ'.set i (.da (.list acc))) B', ct := fun Γ' B' acc => Es.ct (Γ'.set i (.da (.list acc))) B' })
    (hsw : swapsWith (.ListComp elt [⟨.Name x px, .Call (.Name "range" pr) [e] [] pe, [], 0⟩] scope pos) (some (.Name y py)) pos'.line X.env = pure true) (hy : X.N[i]? = some y := by rfl) (hyl : X.env.scope.names.lookup y = some .local := by rfl)
    (hgl : Gl X "range" := by rfl) (hq : ∀ x, foldedSetIterable (.Call (.Name "range" pr) [e] [] pe) X.env x = pure x := by intro _; rfl) (hst : starEach [e] X.env = [(false, eval e X.env)] := by rfl) :
    SJ X Γ B (.Assign [.Name y py] (.ListComp elt [⟨.Name x px, .Call (.Name "range" pr) [e] [] pe, [], 0⟩] scope pos) pos' :: rest) Es := fun g σ H0 H Ev O D G =>
  ⟨_, pss_cons (ps_setLc (i := i) (own := [(x, j)]) hc nd hy hyl hsw (pi_range1 hgl hm (wa [e]) hst) ok hg (fun _ _ _ _ _ => pts_nil) (wb scope elt) hq) (ws rest), h g σ H0 H Ev O (fun v H' => WS X rest D (σ.set i (some v)) H') fun a zs H1 H' t o r n => by
    have n1 : H1 a = none := o.ex.free n
    have off : Off g a := fun l z => by
      obtain ⟨_, q, _⟩ := o.bag a l z
      rw [n] at q; cases q
    have on : On X.K g B1 H1 (upd H' a (.lst zs)) := ⟨fun b u q => by
      rw [upd_ne (ne_of_none q n1)]; exact o.ex b u q, fun b l q => by
      obtain ⟨p1, p2, p3⟩ := o.bag b l q
      exact ⟨p1, by rw [upd_ne (ne_of_none p2 n)]; exact p2, p3⟩⟩
    have hi' : i < σ.length := by rw [Ev.len]; exact hΓ
    have ev : EnvD X.K g H1 (σ.set i (some (.ref a))) (Γ.set i .no) := (Ev.mono t.ex).set i (show Rv X.K g H1 (.ref a) .no from trivial)
    refine k g _ H1 H' a H1 _ ⟨⟨Same.refl _, fun b u f h1 h2 => ⟨h1, by rw [upd_ne (ne_of_none h2 n)]; exact h2⟩⟩, n, off, ev, List.getElem?_set_self hi', n1, ⟨zs, upd_same, r⟩, on⟩ D ⟨?_, ?_, ?_, ?_, ?_, ?_, ?_⟩
    · intro Γ' B' acc σ' H2 H2' q w _
      obtain ⟨H3, t3, e3, o3⟩ := w.freeze
      exact G.nx _ _ _ _ _ q (t.trans t3) e3 o3
    · intro Γ' B' σ' H2 H2' q t2 e2 o2
      exact G.nx _ _ _ _ _ q (t.trans t2) e2 o2
    · intro r B' v H2 H2' q t2 o2 rv
      exact G.rt _ _ _ _ _ q (t.trans t2) o2 rv
    · intro Γ' B' acc σ' H2 H2' q w _
      obtain ⟨H3, t3, e3, o3⟩ := w.freeze
      exact G.bk _ _ _ _ _ q (t.trans t3) e3 o3
    · intro Γ' B' acc σ' H2 H2' q w _
      obtain ⟨H3, t3, e3, o3⟩ := w.freeze
      exact G.ct _ _ _ _ _ q (t.trans t3) e3 o3
    · intro _ _ _ _ _ _ q; exact q.elim
    · intro _ _ _ _ _ q; exact q.elim⟩
end
theorem ow_forR2 (j : Nat) {x : Str} {lo hi' : Int} {n : Nat} {px pr pc : Pos} (nd : X.N.Nodup) (hc : X.calm = true) (hm : X.mg "range" = none) (hij : j ≠ i) (P : Nat → List VD → Bag → List PyData → Prop) (ha : AJ X Γ B [a, b] [.da (.int lo), .da (.int hi')] B1)
    (he : (hi' - lo).toNat = n) (hlo : Bd 60 lo) (hhi : Bd 60 hi') (h0 : P 0 Γ B1 acc)
    (hs : ∀ k Γ' B' acc', k < n → P k Γ' B' acc' → OwJ X i (Γ'.set j (.da (.int (lo + (k : Nat))))) B' acc' s1 { nx := P (k + 1), fx := fun _ _ => False, ct := P (k + 1), rt := E.rt })
    (hd : ∀ Γ' B' acc', P n Γ' B' acc' → OwJ X i Γ' B' acc' rest E) (hN : X.N[j]? = some x := by rfl) (hx : Loc X.env.scope x := by first | exact Or.inl rfl | exact Or.inr rfl)
    (hf : X.fn x = true ∨ X.env.scope.names.lookup x = some .local := by first | exact Or.inl rfl | exact Or.inr rfl)
    (hp : PassesOwn (model X.prog X.w) X.A X.env X.xe := by exact PassesOwn.never) (hq : ∀ x, foldedSetIterable (.Call (.Name "range" pr) [a, b] [] pc) X.env x = pure x := by intro _; rfl)
    (hst : starEach [a, b] X.env = [(false, eval a X.env), (false, eval b X.env)] := by rfl) (hst2 : starEach [b] X.env = [(false, eval b X.env)] := by rfl) (hg : Gl X "range" := by rfl) :
    OwJ X i Γ B acc (.For (.Name x px) (.Call (.Name "range" pr) [a, b] [] pc) s1 [] pos :: rest) E := fun g σ A0 A1 aa H0 H w D G =>
  ⟨_, pss_cons (ps_for hp hc (pi_range2 hg hm (wa [a, b]) hst hst2) (pg_name nd hN hx hf) (ws s1) hq) (ws rest), ha g σ H0 H w.ev w.on _ fun vs H1 H' t o r => by
    obtain ⟨v, v', rfl, h, h'⟩ := rv2 r
    have w1 := w.step t o
    unfold Bd at hlo hhi
    refine ⟨lo, hi', by rw [rvI h, rvI h'], ⟨by omega, by omega, by omega, by omega⟩, ?_⟩
    rw [he]
    refine for_range (lo := lo) (n := n) (fun k σ' H'' => ∃ Γ' B' acc' H2, P k Γ' B' acc' ∧ Same H1 H2 ∧ Own X.K i g A0 A1 aa B' Γ' acc' σ' H2 H'') ⟨Γ, B1, acc, H1, h0, Same.refl _, w1⟩ ?_ ?_
    · rintro k σ' H'' hlt ⟨Γ', B', acc', H2, hP, sm, w2⟩
      exact hs k Γ' B' acc' hlt hP g _ A0 A1 aa H2 H'' (w2.set (d := .da (.int _)) j hij (Rp.int _)) _ ⟨fun Γ3 B3 acc3 σ3 H3 H3' q w3 m => ⟨Γ3, B3, acc3, H3, q, sm.trans m, w3⟩, fun _ _ _ _ _ q => q.elim, fun r B3 v H3 H3' q t3 o3 rv => G.rt r B3 v H3 H3' q t3 o3 rv,
        fun _ _ _ _ _ _ q => q.elim, fun Γ3 B3 acc3 σ3 H3 H3' q w3 m => ⟨Γ3, B3, acc3, H3, q, sm.trans m, w3⟩, fun _ _ _ _ _ _ q => q.elim, fun _ _ _ _ _ q => q.elim⟩
    · rintro σ' H'' ⟨Γ', B', acc', H2, hP, sm, w2⟩
      exact hd Γ' B' acc' hP g σ' A0 A1 aa H2 H'' w2 D (G.on (t.ex.trans sm))⟩
end
end Gd
set_option exponentiation.threshold 20000
namespace Lw
open PySem PySem.Spec PyProof.Rows L2 Gd Fr
open scoped Rat
def numsK (b p : Nat) (low : Int) : Nat → List Va
  | 0 => (List.range (b ^ p)).map fun c => .num 0 (c : Nat) low
  | k + 1 => numsK b p low k ++ (List.range (b ^ p - b ^ (p - 1))).map fun c => .num 0 ((b ^ (p - 1) : Nat) + (c : Nat)) (low + 1 + (k : Nat))
theorem numsK_len (b p : Nat) (low : Int) : ∀ k, (numsK b p low k).length = b ^ p + k * (b ^ p - b ^ (p - 1))
  | 0 => by simp [numsK]
  | k + 1 => by rw [numsK, List.length_append, numsK_len b p low k, List.length_map, List.length_range, Nat.succ_mul]; omega
theorem numsK_ok {b p : Nat} {low high : Int} (F : Fm b p low high) : ∀ k : Nat, low + (k : Nat) ≤ high → ∀ v ∈ numsK b p low k, ∃ c e, v = .num 0 c e ∧ Vok b p low high (.num 0 c e) ∧ Can b p low c e
  | 0, hk, v, hv => by
    have lh := F.lh
    simp only [numsK, List.mem_map, List.mem_range] at hv
    obtain ⟨c, hc, rfl⟩ := hv
    exact ⟨_, _, rfl, ⟨.inl rfl, Int.natCast_nonneg _, by omega, Int.le_refl _, lh⟩, ⟨Int.natCast_nonneg _, by omega, Int.le_refl _, .inl rfl⟩⟩
  | k + 1, hk, v, hv => by
    have P := F.pows; have l2 := P.l2; have ge := P.ge
    simp only [numsK] at hv
    rcases List.mem_append.mp hv with h | h
    · exact numsK_ok F k (by omega) v h
    · obtain ⟨c, hc, rfl⟩ := List.mem_map.mp h
      have hc := List.mem_range.mp hc
      exact ⟨_, _, rfl, ⟨.inl rfl, by omega, by omega, by omega, by omega⟩, ⟨by omega, by omega, by omega, .inr (by omega)⟩⟩
theorem numsK_all {b p : Nat} {low : Int} {c e : Int} (h : Can b p low c e) : ∀ k : Nat, e ≤ low + k → Va.num 0 c e ∈ numsK b p low k
  | 0, hk => by
    obtain ⟨h1, h2, h3, _⟩ := h
    have he : e = low := by omega
    simp only [numsK, List.mem_map, List.mem_range]
    exact ⟨c.toNat, by omega, by rw [he]; congr 1; omega⟩
  | k + 1, hk => by
    simp only [numsK]
    by_cases he : e ≤ low + k
    · exact List.mem_append_left _ (numsK_all h k he)
    · obtain ⟨h1, h2, h3, h4⟩ := h
      refine List.mem_append_right _ (List.mem_map.mpr ⟨(c - (b ^ (p - 1) : Nat)).toNat, List.mem_range.mpr ?_, ?_⟩)
      · rcases h4 with h4 | h4 <;> omega
      · have e1 : low + 1 + (k : Nat) = e := by omega
        rw [e1]; congr 1
        rcases h4 with h4 | h4 <;> omega
inductive R_numbers : Rel
  | mk (b p : Nat) (low high : Int) (B : Bag) (F : Fm b p low high) (hN : b ^ p + (high - low).toNat * (b ^ p - b ^ (p - 1)) ≤ 1000) : R_numbers [.da (fmP b p low high)] B (.list ((numsK b p low (high - low).toNat).map Va.d)) B
end Lw
set_option exponentiation.threshold 20000
namespace Lw
open PySem PySem.Spec PyProof.Rows L2 Gd Fr
open scoped Rat
theorem gap_mul (x : Rat) (f : Int) : (x - (f : Rat)) * ((x.den : Int) : Rat) = ((x.num - f * (x.den : Int) : Int) : Rat) := by
  have h := num_den x
  rw [Rat.intCast_sub, Rat.intCast_mul, ← h]; grind
theorem denQ_pos (x : Rat) : (0 : Rat) < ((x.den : Int) : Rat) := Rat.intCast_pos.mpr (den_pos x)
theorem fl (x : Rat) : ∃ g : Rat, x = ((x.num / (x.den : Int) : Int) : Rat) + g ∧ 0 ≤ g ∧ g < 1 ∧ x - ((x.num / (x.den : Int) : Int) : Rat) = g := by
  refine ⟨x - ((x.num / (x.den : Int) : Int) : Rat), by grind, ?_, ?_, rfl⟩
  · have h := gap_mul x (x.num / (x.den : Int))
    have h1 := Int.emod_add_mul_ediv x.num (x.den : Int)
    have h2 := Int.emod_nonneg x.num (Int.ne_of_gt (den_pos x))
    have h3 : (0 : Rat) ≤ (x - ((x.num / (x.den : Int) : Int) : Rat)) * ((x.den : Int) : Rat) := by
      rw [h]; exact Rat.intCast_nonneg.mpr (by rw [Int.mul_comm]; omega)
    refine Rat.not_lt.mp fun z => ?_
    have := (Rat.mul_lt_mul_right (denQ_pos x)).mpr z
    rw [Rat.zero_mul] at this
    exact absurd (ltle this h3) Rat.lt_irrefl
  · have h := gap_mul x (x.num / (x.den : Int))
    have h1 := Int.emod_add_mul_ediv x.num (x.den : Int)
    have h2 := Int.emod_lt_of_pos x.num (den_pos x)
    refine (Rat.mul_lt_mul_right (denQ_pos x)).mp ?_
    rw [h, Rat.one_mul]
    exact cast_lt.mpr (by rw [Int.mul_comm]; omega)
end Lw
set_option exponentiation.threshold 20000
namespace Lw
open PySem PySem.Spec PyProof.Rows L2 Gd Fr
open scoped Rat
theorem absQ_mul_pos (x : Rat) {y : Rat} (h : 0 < y) : absQ (x * y) = absQ x * y := by
  have k := Rat.mul_lt_mul_right (a := x) (b := 0) h
  rw [Rat.zero_mul] at k
  unfold absQ
  by_cases hx : x < 0
  · rw [if_pos hx, if_pos (k.mpr hx)]; grind
  · rw [if_neg hx, if_neg (fun z => hx (k.mp z))]
theorem absQ_cast (k : Int) : absQ (k : Rat) = ((k.natAbs : Int) : Rat) := by
  unfold absQ
  by_cases h : (k : Rat) < 0
  · have : k < 0 := cast_lt.mp (show (k : Rat) < ((0 : Int) : Rat) from h)
    rw [if_pos h, ← Rat.intCast_neg]; congr 1; omega
  · have : ¬ k < 0 := fun z => h (show (k : Rat) < ((0 : Int) : Rat) from cast_lt.mpr z)
    rw [if_neg h]; congr 1; omega
theorem norm {b p : Nat} {low : Int} (h2 : 2 ≤ b) (hp : 2 ≤ p) : ∀ (j : Nat) (k : Int), 0 ≤ k → k < ((b ^ p : Nat) : Int) → ∃ C E, Can b p low C E ∧ E ≤ low + j ∧ (C : Rat) * pw b E = (k : Rat) * pw b (low + j)
  | 0, k, h0, h1 => ⟨k, low, ⟨h0, h1, Int.le_refl _, .inl rfl⟩, by omega, by rw [show low + ((0 : Nat) : Int) = low by omega]⟩
  | j + 1, k, h0, h1 => by
    by_cases hk : ((b ^ (p - 1) : Nat) : Int) ≤ k
    · exact ⟨k, low + (j + 1 : Nat), ⟨h0, h1, by omega, .inr hk⟩, Int.le_refl _, rfl⟩
    · have e1 : b ^ p = b ^ (p - 1) * b := by rw [← Nat.pow_succ]; congr 1; omega
      have hb : k * b < ((b ^ p : Nat) : Int) := by
        rw [e1, Int.natCast_mul]
        exact Int.mul_lt_mul_of_pos_right (by omega) (by omega)
      obtain ⟨C, E, c1, c2, c3⟩ := norm h2 hp j (k * b) (Int.mul_nonneg h0 (by omega)) hb
      refine ⟨C, E, c1, by omega, ?_⟩
      have e2 : pw b (low + ((j + 1 : Nat) : Int)) = ((b : Nat) : Rat) * pw b (low + j) := by
        rw [show low + ((j + 1 : Nat) : Int) = ((1 : Nat) : Int) + (low + j) by omega, pw_add h2 _ (low + j), pw_nat, Nat.pow_one]
      rw [c3, e2, Rat.intCast_mul, Rat.intCast_natCast, Rat.mul_assoc]
theorem norm' {b p : Nat} {low m k : Int} (h2 : 2 ≤ b) (hp : 2 ≤ p) (hm : low ≤ m) (h0 : 0 ≤ k) (h1 : k < ((b ^ p : Nat) : Int)) : ∃ C E, Can b p low C E ∧ E ≤ m ∧ (C : Rat) * pw b E = (k : Rat) * pw b m := by
  obtain ⟨C, E, c1, c2, c3⟩ := norm (low := low) h2 hp (m - low).toNat k h0 h1
  have e : low + ((m - low).toNat : Int) = m := by omega
  rw [e] at c2 c3
  exact ⟨C, E, c1, c2, c3⟩
end Lw
set_option exponentiation.threshold 20000
namespace Lw
open PySem PySem.Spec PyProof.Rows L2 Gd Fr
open scoped Rat
theorem absQ_w {b : Nat} (h2 : 2 ≤ b) {s c e : Int} (h0 : 0 ≤ c) : absQ ((Va.num s c e).wQ b) = (c : Rat) * pw b e := by
  show absQ (((if s = 1 then -c else c : Int) : Rat) * pw b e) = _
  rw [absQ_mul_pos _ (pw_pos h2 e), absQ_cast]
  congr 2
  split <;> omega
theorem sgn_eq (x : Rat) : sgn x = if x < 0 then 1 else 0 := by
  unfold sgn
  by_cases h : x < 0
  · rw [if_pos h, if_pos ((num_neg_iff x).mpr h)]
  · rw [if_neg h, if_neg (fun z => h ((num_neg_iff x).mp z))]
section
variable (b p : Nat) (low high : Int)
end
end Lw
set_option exponentiation.threshold 20000
namespace Lw
open PySem PySem.Spec PyProof.Rows L2 Gd Fr
open scoped Rat
section
variable (b p : Nat) (low high : Int)
end
section
variable {b p : Nat} {low high : Int} (F : Fm b p low high)
include F
theorem gr_qz : Qz 3040 2341 (grQ b p high) := (can_qz F (great_can F) (Int.le_refl _)).1
end
end Lw
namespace Gd
open PySem PySem.Spec PyProof.Rows L2
section
variable {X : Cx} {i : Nat} {Γ : List VD} {B B1 B2 B' : Bag} {acc ds ys : List PyData} {e a b c : Expr} {es : List Expr} {d da db : VD} {y : PyData} {pos p p1 p2 p3 pos' : Pos} {rest ss s1 s2 : List Stmt} {E : EnO} {Es : En}
def isNone : PyData → Bool
  | .none => true
  | _ => false
theorem rv_non {K : PySem.W.Frag} {H : Hp} {v : V} {y : PyData} (h : Rp K H v y) : decide (v = V.non) = isNone y := by
  cases h with
  | non => rfl
  | bl b => rfl
  | int i => rfl
  | str x => rfl
  | lst _ _ => rfl
  | tup _ _ => rfl
  | dct _ => rfl
  | dctT _ _ => rfl
theorem tj_isN {j} (ha : EJ X Γ B a (.da y) B1) : TJ X Γ B (.Compare a [.Is] [.Constant .none j pos'] pos) (isNone y) B1 :=
  tj_cmp ha ej_non op_isN (nomark _) fun g v w H0 H O r1 r2 Q q => by
    have r2 : Rp X.K H0 w .none := r2
    cases r2
    refine ⟨rfl, ?_⟩
    rw [rv_non (show Rp X.K H0 v y from r1)]; exact q _ _ To.refl O
theorem call_reprN : CallR X (.builtin "repr") (fun xs H Q => xs = [.non] ∧ Q (.str "None") H) := by
  intro pins s σ H xs us Q I r h
  obtain ⟨rfl, q⟩ := h
  obtain ⟨u, rfl, rfl⟩ := vals1 r
  exact PySem.P.repr_of_none ⟨.str _, H, I.tok _, ⟨_, rfl⟩, q⟩
theorem ej_reprN (hm : X.mg "repr" = none) (ha : EJ X Γ B a (.da .none) B1) (hs : starEach [a] X.env = [(false, eval a X.env)] := by rfl) (hg : Gl X "repr" := by rfl) :
    EJ X Γ B (.Call (.Name "repr" p) [a] [] pos) (.da (.str "None")) B1 :=
  ej_callB call_reprN hm (aj_cons ha aj_nil hs) (fun gh vs H0 H O r Q q => by
    obtain ⟨v, rfl, h⟩ := rv1 r
    have h : Rp X.K H0 v .none := h
    cases h
    exact ⟨rfl, q _ _ _ To.refl O (Rp.str _)⟩) (hg := hg) (he := hs)
end
end Gd
namespace Gd
open PySem PySem.Spec PyProof.Rows L2
mutual
def niceB : PyData → Bool
  | .none => true
  | .bool _ => true
  | .int i => decide (Nat.log2 i.natAbs < 12900)
  | .str x => x.cps.all fun c => c < 0x110000
  | .list xs => niceBAll xs
  | .tuple xs => niceBAll xs
  | .dict _ => false
def niceBAll : List PyData → Bool
  | [] => true
  | x :: xs => niceB x && niceBAll xs
end
theorem big_lt {i : Int} (h : Nat.log2 i.natAbs < 12900) : i.natAbs < 10 ^ 4300 := Nat.lt_of_lt_of_le (lt_of_log2 h) pow_lo
section
variable {prog : Program} {w : World} {A : Around} {E : Value → Shared → Prop} {s : Shared} {h₀ : Heap}
end
mutual
theorem niceB_lay : ∀ d : PyData, niceB d = true → d.canLay0 = true ∧ d.leavesShort 4301 = true
  | .none, _ => ⟨by simp only [PyData.canLay0], by simp only [PyData.leavesShort]⟩
  | .bool _, _ => ⟨by simp only [PyData.canLay0], by simp only [PyData.leavesShort]⟩
  | .int i, h => ⟨by simp only [PyData.canLay0], by
    simp only [niceB, decide_eq_true_eq] at h
    simp only [PyData.leavesShort, decide_eq_true_eq, PyData.shown_int]; rw [PySem.ofString_length]
    exact int_text_length_le10 (k := 4300) (by decide) (big_lt h)⟩
  | .str x, h => by
    simp only [niceB] at h
    refine ⟨by simp only [PyData.canLay0]; exact h, ?_⟩
    simp only [PyData.leavesShort, List.all_eq_true, decide_eq_true_eq]; intro c hc
    have h3 : c < 0x110000 := of_decide_eq_true (Array.all_eq_true'.mp h c (by simpa using hc))
    omega
  | .list xs, h => by simp only [niceB] at h; simp only [PyData.canLay0, PyData.leavesShort]; exact niceB_layA xs h
  | .tuple xs, h => by simp only [niceB] at h; simp only [PyData.canLay0, PyData.leavesShort]; exact niceB_layA xs h
  | .dict _, h => by simp only [niceB] at h; cases h
theorem niceB_layA : ∀ ds : List PyData, niceBAll ds = true → PyData.canLayAll0 ds = true ∧ PyData.leavesShortAll 4301 ds = true
  | [], _ => ⟨by simp only [PyData.canLayAll0], by simp only [PyData.leavesShortAll]⟩
  | x :: xs, h => by
    simp only [niceBAll, Bool.and_eq_true] at h
    have a := niceB_lay x h.1
    have c := niceB_layA xs h.2
    simp only [PyData.canLayAll0, PyData.leavesShortAll, Bool.and_eq_true]; exact ⟨⟨a.1, c.1⟩, a.2, c.2⟩
end
structure OkB (d : PyData) : Prop where
  nice : niceB d = true
  dp : d.depth ≤ 60
  bulk : d.bulk ≤ 2000
theorem OkB.shaped {d : PyData} (h : OkB d) : SeqAt.shaped d = true := by
  unfold SeqAt.shaped
  rw [(niceB_lay d h.nice).1, Bool.true_and, decide_eq_true_eq]; have := h.dp; omega
theorem OkB.len {d : PyData} (h : OkB d) : d.shown.length ≤ sizeLine := by
  have h1 := PyData.shown_le_bulk 4301 (by decide) d (niceB_lay d h.nice).2
  have h2 := h.bulk
  rw [show sizeLine = 16777216 from by decide]; omega
section
variable {X : Cx} {i : Nat} {Γ : List VD} {B B1 B2 B' : Bag} {e a b c : Expr} {es : List Expr} {y : PyData} {pos p : Pos}
end
end Gd
set_option exponentiation.threshold 20000
namespace Lw
open PySem PySem.Spec PyProof.Rows L2 Gd Fr
open scoped Rat
mutual
theorem niceB_of : ∀ d : PyData, nice d = true → niceB d = true
  | .none, _ => by simp only [niceB]
  | .bool _, _ => by simp only [niceB]
  | .int i, h => by
    simp only [nice, decide_eq_true_eq] at h
    simp only [niceB, decide_eq_true_eq]
    omega
  | .str _, h => by simp only [nice] at h; simp only [niceB]; exact h
  | .list xs, h => by simp only [nice] at h; simp only [niceB]; exact niceB_ofA xs h
  | .tuple xs, h => by simp only [nice] at h; simp only [niceB]; exact niceB_ofA xs h
  | .dict _, h => by simp only [nice] at h; cases h
theorem niceB_ofA : ∀ ds : List PyData, niceAll ds = true → niceBAll ds = true
  | [], _ => by simp only [niceBAll]
  | x :: xs, h => by
    simp only [niceAll, Bool.and_eq_true] at h
    simp only [niceBAll, Bool.and_eq_true]
    exact ⟨niceB_of x h.1, niceB_ofA xs h.2⟩
end
structure NdB (D W : Nat) (d : PyData) : Prop where
  ni : niceB d = true
  dp : d.depth ≤ D
  bk : d.bulk ≤ W
structure NdBA (D W : Nat) (ds : List PyData) : Prop where
  ni : niceBAll ds = true
  dp : PyData.depthAll ds ≤ D
  bk : PyData.bulkAll ds ≤ W
theorem Nd.b {D W : Nat} {d : PyData} (h : Nd D W d) : NdB D W d := ⟨niceB_of d h.ni, h.dp, h.bk⟩
theorem NdBA.nil {D W : Nat} : NdBA D W [] := ⟨by simp only [niceBAll], by simp only [PyData.depthAll]; omega, by simp only [PyData.bulkAll]; omega⟩
theorem NdBA.cons {D W W' : Nat} {d : PyData} {ds : List PyData} (h : NdB D W d) (r : NdBA D W' ds) : NdBA D (W + 1 + W') (d :: ds) :=
  ⟨by simp only [niceBAll, h.ni, r.ni, Bool.and_self], by have := h.dp; have := r.dp; simp only [PyData.depthAll]; omega, by have := h.bk; have := r.bk; simp only [PyData.bulkAll]; omega⟩
theorem NdB.le {D W D' W' : Nat} {d : PyData} (h : NdB D W d) (e : D ≤ D') (f : W ≤ W') : NdB D' W' d := ⟨h.ni, Nat.le_trans h.dp e, Nat.le_trans h.bk f⟩
theorem NdB.list {D W : Nat} {ds : List PyData} (h : NdBA D W ds) : NdB (D + 1) W (.list ds) := ⟨by simp only [niceB]; exact h.ni, by have := h.dp; simp only [PyData.depth]; omega, by have := h.bk; simp only [PyData.bulk]; omega⟩
theorem NdB.tuple {D W : Nat} {ds : List PyData} (h : NdBA D W ds) : NdB (D + 1) W (.tuple ds) := ⟨by simp only [niceB]; exact h.ni, by have := h.dp; simp only [PyData.depth]; omega, by have := h.bk; simp only [PyData.bulk]; omega⟩
theorem NdB.int {n : Nat} {i : Int} (h : Bd n i) (e : n ≤ 12900 := by decide) : NdB 1 0 (.int i) := ⟨by
  simp only [niceB, decide_eq_true_eq]
  by_cases h0 : 0 < n
  · exact Nat.lt_of_lt_of_le (PySem.Flt.log2_lt_of h0 h) e
  · have : n = 0 := by omega
    subst this
    have : i.natAbs = 0 := by unfold Bd at h; omega
    rw [this]; decide, by simp only [PyData.depth]; omega, by simp only [PyData.bulk]; omega⟩
noncomputable def numofP (b p : Nat) (low high : Int) (q : Rat) : PyData :=
  if q = 0 then nm 0 0 low
  else if high < eQ b p low (absQ q) ∨ rQ b (eQ b p low (absQ q)) (absQ q) ≠ 0 then .none
  else nm (sgn q) (cQ b (eQ b p low (absQ q)) (absQ q)) (eQ b p low (absQ q))
inductive R_numof : Rel
  | mk (b p : Nat) (low high : Int) (q : Rat) (n d : Nat) (B : Bag) (F : Fm b p low high) (hq : Qz n d q) (hn : n ≤ 6000) (hd : d ≤ 6000) : R_numof [.da (fmP b p low high), .da (fq q)] B (numofP b p low high q) B
theorem unit_split {b : Nat} (h2 : 2 ≤ b) (e : Int) (q : Rat) : q * pw b (-e) = (cQ b e q : Rat) + tQ b e q := by
  conv => lhs; lhs; rw [q_val h2 e q]
  rw [Rat.mul_assoc, ← pw_add h2, show e + -e = 0 by omega, pw_zero, Rat.mul_one]
theorem unit_den {b : Nat} (h2 : 2 ≤ b) (e : Int) (q : Rat) : ((q * pw b (-e)).den : Int) = 1 ↔ rQ b e q = 0 := by
  rw [unit_split h2]
  constructor
  · intro h
    have hd : ((cQ b e q : Rat) + tQ b e q).den = 1 := by omega
    have hi : (cQ b e q : Rat) + tQ b e q = ((((cQ b e q : Rat) + tQ b e q).num : Int) : Rat) := by
      have := num_den ((cQ b e q : Rat) + tQ b e q)
      rw [hd] at this
      rw [← this, show (((1 : Nat) : Int) : Rat) = 1 from rfl, Rat.mul_one]
    generalize ((cQ b e q : Rat) + tQ b e q).num = m at hi
    have t0 := t_ge h2 e q
    have t1 := t_lt1 h2 e q
    have a1 : cQ b e q ≤ m := cast_le.mp (by grind)
    have a2 : m < cQ b e q + 1 := cast_lt.mp (by rw [cast_s]; grind)
    have a3 : m = cQ b e q := by omega
    rw [a3] at hi
    exact (t_zero h2 e q).mp (by grind)
  · intro h
    rw [(t_zero h2 e q).mpr h, Rat.add_zero, Rat.den_intCast]; rfl
theorem unit_num {b : Nat} (h2 : 2 ≤ b) {e : Int} {q : Rat} (h : rQ b e q = 0) : q * pw b (-e) = (cQ b e q : Rat) := by
  rw [unit_split h2, (t_zero h2 e q).mpr h, Rat.add_zero]
theorem num_le_great {b p : Nat} {low high : Int} (F : Fm b p low high) {q : Rat} (h0 : 0 ≤ q) (he : eQ b p low q ≤ high) (hr : rQ b (eQ b p low q) q = 0) : q ≤ grQ b p high := by
  have h2 := F.b2
  have hC := spot_can h2 (by have := F.p2; omega) h0 (eQ_is (p := p) h2 low q)
  have ho := over_iff (high := high) h2 F.p2 F.lh hC
  have e1 : (cQ b (eQ b p low q) q : Rat) * pw b (eQ b p low q) = q := (lo_eq h2 _ q).mpr hr
  rw [e1] at ho
  exact Rat.not_lt.mp fun z => absurd (ho.mp z) (by omega)
theorem gr_pos {b p : Nat} {low high : Int} (F : Fm b p low high) : 0 < grQ b p high := by
  have P := F.pows; have l2 := P.l2; have ge := P.ge
  unfold grQ
  exact Rat.mul_pos (Rat.intCast_pos.mpr (by omega)) (pw_pos F.b2 high)
theorem numofP_all {b p : Nat} {low high : Int} (F : Fm b p low high) (q : Rat) : numofP b p low high q = if high < eQ b p low (absQ q) ∨ rQ b (eQ b p low (absQ q)) (absQ q) ≠ 0 then .none
  else nm (sgn q) (cQ b (eQ b p low (absQ q)) (absQ q)) (eQ b p low (absQ q)) := by
  unfold numofP
  by_cases h : q = 0
  · subst h
    have a0 : absQ (0 : Rat) = 0 := absQ_zero.mpr rfl
    have e2 : eQ b p low 0 = low := eQ_of F.b2 (isE_zero F.b2 low)
    have lh := F.lh
    rw [if_pos rfl, a0, e2, (cQ_zero b low).1, (cQ_zero b low).2, if_neg (fun z => z.elim (by omega) fun z => z rfl), sgn_eq, if_neg (by decide)]
  · rw [if_neg h]
def Vcan (b p : Nat) (low high : Int) : Va → Prop
  | .num s c e => (s = 0 ∨ s = 1) ∧ Can b p low c e ∧ e ≤ high
  | .inf s => s = 0 ∨ s = 1
  | .nan => True
theorem Vcan.ok {b p : Nat} {low high : Int} {v : Va} (h : Vcan b p low high v) : Vok b p low high v := by
  cases v with
  | nan => trivial
  | inf s => exact h
  | num s c e => exact ⟨h.1, h.2.1.1, h.2.1.2.1, h.2.1.2.2.1, h.2.2⟩
theorem smallV_mem (B : Bag) : smallV B ∈ smallF := by
  have h0 := tkV_ge B (m := smallF.length) (by decide)
  have h1 := tkV_lt B (m := smallF.length) (by decide)
  have hlt : (tkV B smallF.length).toNat < smallF.length := by omega
  unfold smallV pickF
  rw [List.getD_eq_getElem?_getD, List.getElem?_eq_getElem hlt]
  exact List.getElem_mem hlt
end Lw
set_option exponentiation.threshold 20000
namespace Lw
open PySem PySem.Spec PyProof.Rows L2 Gd Fr
open scoped Rat
section
variable {b p : Nat} {low high : Int} (F : Fm b p low high)
include F
theorem eQ_mono {q u : Rat} (h : q ≤ u) : eQ b p low q ≤ eQ b p low u := by
  have h2 := F.b2
  have a := eQ_is (p := p) h2 low q
  have c := eQ_is (p := p) h2 low u
  refine Decidable.byContradiction fun z => ?_
  have h1 : pw b (p + eQ b p low q - 1) ≤ q := by
    rcases a.2.2 with y | y
    · have := c.1; omega
    · exact y
  have h3 : pw b (p + eQ b p low u) ≤ pw b (p + eQ b p low q - 1) := pw_mono h2 (by omega)
  exact absurd (ltle c.2.1 (Rat.le_trans h3 (Rat.le_trans h1 h))) Rat.lt_irrefl
end
end Lw
namespace Gd
open PySem PySem.Spec PyProof.Rows L2
section
variable {X : Cx} {Γ : List VD} {B B1 B2 : Bag} {e c elt : Expr} {scope : Scope} {acc : List PyData} {pos pos' : Pos} {rest : List Stmt} {E : En} {d : VD}
theorem lcI_step {K : PySem.W.Frag} {g : Gh} {H1 H' : Hp} {A : Addr} {H2 H'' H3 H3' : Hp} (off : Off g A) (I : LcI K g H1 H' A acc B1 H2 H'') (t : To g H2 H'' H3 H3') (o : On K g B2 H3 H3') : LcI K g H1 H' A acc B2 H3 H3' := by
  obtain ⟨zs, h1, h2⟩ := I.at'
  obtain ⟨h3, h4⟩ := t.un A _ off I.no h1
  exact ⟨I.to.trans t, I.new, h3, ⟨zs, h4, h2.mono t.ex⟩, o⟩
end
end Gd
set_option exponentiation.threshold 20000
namespace Lw
open PySem PySem.Spec PyProof.Rows L2 Gd Fr
open scoped Rat
section
variable {b p : Nat} {low high : Int} (F : Fm b p low high)
include F
end
end Lw
namespace Gd
open PySem PySem.Spec PyProof.Rows L2
section
variable {X : Cx} {Γ : List VD} {B B1 B2 : Bag} {e c elt a b : Expr} {scope : Scope} {acc : List PyData} {pos pos' : Pos} {rest : List Stmt} {E : En} {d : VD}
theorem lc_turnF {j : Nat} {g : Gh} {H1 H' : Hp} {A : Addr} {H'' H2 : Hp} {σ : L2.St} {v : V} {y z : PyData} {f : Bool} {Nx : Hp → Prop} (off : Off g A) (Ev : EnvD X.K g H1 σ Γ) (I : LcI X.K g H1 H' A acc B H2 H'') (r : Rp X.K H2 v y)
    (hz : acc.length < 1000) (ht : Blk X scope fun Y => TJ Y (Γ.set j (.da y)) B c f B) (he : f = true → Blk X scope fun Y => EJ Y (Γ.set j (.da y)) B elt (.da z) B)
    (k : ∀ H3 H3', LcI X.K g H1 H' A (if f = true then acc ++ [z] else acc) B H3 H3' → Nx H3') :
    gName j v (wipe σ [j]) H'' fun σ2 H2 => wipe σ2 [j] = wipe σ [j] ∧ WTB X scope c σ2 H2 fun b H3 => if b = true then WB X scope elt σ2 H3 fun y H4 => ∃ acc, H4 A = some (.lst acc) ∧ acc.length < sizeLine ∧ Nx (upd H4 A (.lst (acc ++ [y]))) else Nx H3 := by
  refine ⟨wipe1, ?_⟩
  intro s hH C cl fp
  have ev := wipe_env (Ev.mono I.to.ex) r (j := j)
  refine ht s hH C cl fp g _ H2 H'' ev I.on _ fun H3 H3' t o => ?_
  have J := lcI_step off I t o
  cases f with
  | false => exact k _ _ J
  | true =>
    refine iteT ?_
    intro s hH C cl fp
    refine he rfl s hH C cl fp g _ H3 H3' (ev.mono t.ex) J.on _ fun w H4 H4' t2 o2 rw' => ?_
    obtain ⟨zs, h1, h2, J2⟩ := lcI_app off J t2 o2 rw'
    exact ⟨zs, h1, by rw [h2]; exact small1000 (Nat.le_of_lt hz), k _ _ J2⟩
theorem rj_lcF1 {α : Type} {j : Nat} (L : List α) (D z : α → PyData) (f : α → Bool) (hi : EJ X Γ B e (.da (.list (L.map D))) B1) (hz : L.length ≤ 1000)
    (ht : ∀ a ∈ L, Blk X scope fun Y => TJ Y (Γ.set j (.da (D a))) B1 c (f a) B1) (he : ∀ a ∈ L, f a = true → Blk X scope fun Y => EJ Y (Γ.set j (.da (D a))) B1 elt (.da (z a)) B1) :
    RJ X Γ B (tLc (iList X.K (WE X e)) (gName j) (WTB X scope c) (WB X scope elt) [j]) (.da (.list ((L.filter f).map z))) B1 := fun g σ H0 H Ev O Q' q =>
  hi g σ H0 H Ev O _ fun v H1 H' t o r => by
    obtain ⟨p, xs, rfl, hxs, rs⟩ := rvL r
    refine ⟨p, rfl, ⟨xs, SqL.of (o.ex _ _ hxs)⟩, fun A hA => ?_⟩
    obtain ⟨off, I0⟩ := lcI_start o hA
    refine lc_list (xs := xs) (fun i H'' => ∃ H2, LcI X.K g H1 H' A (((L.take i).filter f).map z) B1 H2 H'') ⟨_, I0⟩ ?_ ?_ ?_
    · rintro i H'' _ ⟨H2, I⟩
      exact SqL.of (I.on.ex _ _ (I.to.ex _ _ hxs))
    · rintro i w H'' hw ⟨H2, I⟩
      obtain ⟨y, hy, ry⟩ := rs.get hw
      rw [List.getElem?_map] at hy
      obtain ⟨a, ha, rfl⟩ := Option.map_eq_some_iff.mp hy
      have hm := List.mem_of_getElem? ha
      have hlt : i < L.length := (List.getElem?_eq_some_iff.mp ha).1
      have hle : ((((L.take i).filter f).map z).length) < 1000 := by
        rw [List.length_map]
        have h1 := List.length_filter_le f (L.take i)
        rw [List.length_take] at h1
        omega
      refine lc_turnF off (Ev.mono t.ex) I (ry.mono I.to.ex) hle (ht a hm) (he a hm) fun H3 H3' J => ⟨H3, ?_⟩
      rw [List.take_add_one, ha, List.filter_append, List.map_append]
      cases hf : f a with
      | true =>
        rw [hf] at J
        simpa [hf] using J
      | false =>
        rw [hf] at J
        simpa [hf] using J
    · rintro H'' ⟨H2, I⟩
      rw [rs.length, List.length_map, List.take_length] at I
      obtain ⟨H3, t3, o3, r3⟩ := lcI_end off t I
      exact q _ H3 H'' t3 o3 r3
theorem ej_lcF1 {j : Nat} {x : Str} {px : Pos} (nd : X.N.Nodup) (hc : X.calm = true) (ok : BlkOk X.N X.env.scope scope [(x, j)])
    (hg : ∀ (s : Shared) (H : Hp) (C : Addr) (cl : List (Str × Addr)) (fp : List Addr), PG (X.blk s H scope (compEnvC scope cl C X.env) fp) (.Name x px) (gName j))
    (r : RJ X Γ B (tLc (iList X.K (WE X e)) (gName j) (WTB X scope c) (WB X scope elt) [j]) d B1) (hq : ∀ x, foldedSetIterable e X.env x = pure x := by intro _; rfl) :
    EJ X Γ B (.ListComp elt [⟨.Name x px, e, [c], 0⟩] scope pos) d B1 :=
  ej_of (pe_lc (own := [(x, j)]) hc nd (pi_list (we e)) ok hg (fun s H C cl fp => pts_one (wtb scope c s H C cl fp)) (wb scope elt) hq) r
end
end Gd
set_option exponentiation.threshold 20000
namespace Lw
open PySem PySem.Spec PyProof.Rows L2 Gd Fr
open scoped Rat
section
variable {b p : Nat} {low high : Int} (F : Fm b p low high)
include F
end
end Lw
namespace Gd
open PySem PySem.Spec PyProof.Rows L2
section
variable {P : Program} {w : World} {A : Around} {s : Shared} {E : Value → Shared → Prop}
end
section
variable {X : Cx}
end
end Gd
namespace Gd
open PySem PySem.Spec PyProof.Rows L2
section
variable {X : Cx} {Γ : List VD} {B B1 B2 : Bag} {e c elt a b : Expr} {scope : Scope} {acc : List PyData} {pos pos' p p' : Pos} {rest : List Stmt} {E : En} {d : VD}
theorem rj_lcF1T {α : Type} {j : Nat} (L : List α) (D z : α → PyData) (f : α → Bool) (hi : EJ X Γ B e (.da (.tuple (L.map D))) B1) (hz : L.length ≤ 1000)
    (ht : ∀ a ∈ L, Blk X scope fun Y => TJ Y (Γ.set j (.da (D a))) B1 c (f a) B1) (he : ∀ a ∈ L, f a = true → Blk X scope fun Y => EJ Y (Γ.set j (.da (D a))) B1 elt (.da (z a)) B1) :
    RJ X Γ B (tLc (iTup X.K (WE X e)) (gName j) (WTB X scope c) (WB X scope elt) [j]) (.da (.list ((L.filter f).map z))) B1 := fun g σ H0 H Ev O Q' q =>
  hi g σ H0 H Ev O _ fun v H1 H' t o r => by
    obtain ⟨p, xs, rfl, hxs, rs⟩ := rvT r
    refine ⟨p, rfl, ⟨xs, seqT o.ex hxs⟩, fun A hA => ?_⟩
    obtain ⟨off, I0⟩ := lcI_start o hA
    refine lc_tup (xs := xs) (fun i H'' => ∃ H2, LcI X.K g H1 H' A (((L.take i).filter f).map z) B1 H2 H'') ⟨_, I0⟩ ?_ ?_ ?_
    · rintro i H'' _ ⟨H2, I⟩
      exact seqT I.on.ex (seqT I.to.ex hxs)
    · rintro i w H'' hw ⟨H2, I⟩
      obtain ⟨y, hy, ry⟩ := rs.get hw
      rw [List.getElem?_map] at hy
      obtain ⟨a, ha, rfl⟩ := Option.map_eq_some_iff.mp hy
      have hm := List.mem_of_getElem? ha
      have hlt : i < L.length := (List.getElem?_eq_some_iff.mp ha).1
      have hle : ((((L.take i).filter f).map z).length) < 1000 := by
        rw [List.length_map]
        have h1 := List.length_filter_le f (L.take i)
        rw [List.length_take] at h1
        omega
      refine lc_turnF off (Ev.mono t.ex) I (ry.mono I.to.ex) hle (ht a hm) (he a hm) fun H3 H3' J => ⟨H3, ?_⟩
      rw [List.take_add_one, ha, List.filter_append, List.map_append]
      cases hf : f a with
      | true =>
        rw [hf] at J
        simpa [hf] using J
      | false =>
        rw [hf] at J
        simpa [hf] using J
    · rintro H'' ⟨H2, I⟩
      rw [rs.length, List.length_map, List.take_length] at I
      obtain ⟨H3, t3, o3, r3⟩ := lcI_end off t I
      exact q _ H3 H'' t3 o3 r3
theorem ej_lcF1T {j : Nat} {x : Str} {px : Pos} (nd : X.N.Nodup) (hc : X.calm = true) (ok : BlkOk X.N X.env.scope scope [(x, j)])
    (hg : ∀ (s : Shared) (H : Hp) (C : Addr) (cl : List (Str × Addr)) (fp : List Addr), PG (X.blk s H scope (compEnvC scope cl C X.env) fp) (.Name x px) (gName j))
    (r : RJ X Γ B (tLc (iTup X.K (WE X e)) (gName j) (WTB X scope c) (WB X scope elt) [j]) d B1) (hq : ∀ x, foldedSetIterable e X.env x = pure x := by intro _; rfl) :
    EJ X Γ B (.ListComp elt [⟨.Name x px, e, [c], 0⟩] scope pos) d B1 :=
  ej_of (pe_lc (own := [(x, j)]) hc nd (pi_tup (we e)) ok hg (fun s H C cl fp => pts_one (wtb scope c s H C cl fp)) (wb scope elt) hq) r
end
end Gd
set_option exponentiation.threshold 20000
namespace Lw
open PySem PySem.Spec PyProof.Rows L2 Gd Fr
open scoped Rat
end Lw
set_option exponentiation.threshold 20000
namespace Lw
open PySem PySem.Spec PyProof.Rows L2 Gd Fr
open scoped Rat
section
variable {b p : Nat} {low high : Int} (F : Fm b p low high)
include F
end
end Lw
set_option exponentiation.threshold 20000
namespace Lw
open PySem PySem.Spec PyProof.Rows L2 Gd Fr
open scoped Rat
section
variable {X : Cx} {Γ : List VD} {B B1 B2 : Bag} {a b : Expr} {pos : Pos}
end
end Lw
namespace Gd
open PySem PySem.Spec PyProof.Rows L2
section
variable {P : Program} {w : World} {K : PySem.W.Frag} {mg : Str → Option Value} {base : Heap} {x : Str}
def CalE (P : Program) (w : World) (K : PySem.W.Frag) (mg : Str → Option Value) (base : Heap) (x : Str) (k : Nat) (Pre : List VD → Bag → Prop) (Post : List VD → Bag → PyData → Bag → Prop) : Prop :=
  ∃ R : Rel, Cal P w K mg base x k R ∧ ∀ Γ B, Pre Γ B → ∃ r B', R Γ B r B' ∧ Post Γ B r B'
theorem cale_at {st : Stmt} {N ps : List Str} {k : Nat} {Pre : List VD → Bag → Prop} {Post : List VD → Bag → PyData → Bag → Prop} (T : At K mg x st ps) (S : FnScope N ps (defScope st))
    (body : ∀ Γ B, Pre Γ B → Γ.length = ps.length ∧ ∃ r B', Post Γ B r B' ∧ ∀ (f : Addr) (cdv : Value) (A : Around) (out : List Env) (s : Shared) (H : Hp) (E : XK),
      Gx k (cxOf CX0 P w K mg base N x (defScope st) f cdv A out s H E).nox →
      SJ (cxOf CX0 P w K mg base N x (defScope st) f cdv A out s H E).nox (Γ ++ List.replicate (N.length - ps.length) .no) B (defBody st)
        { nx := fun _ B2 => r = .none ∧ B2 = B', rt := fun d B2 => d = r ∧ B2 = B' }) :
    CalE P w K mg base x (k + 1) Pre Post := by
  refine ⟨fun Γ B r B' => Γ.length = ps.length ∧ ∀ (f : Addr) (cdv : Value) (A : Around) (out : List Env) (s : Shared) (H : Hp) (E : XK),
      Gx k (cxOf CX0 P w K mg base N x (defScope st) f cdv A out s H E).nox →
      SJ (cxOf CX0 P w K mg base N x (defScope st) f cdv A out s H E).nox (Γ ++ List.replicate (N.length - ps.length) .no) B (defBody st)
        { nx := fun _ B2 => r = .none ∧ B2 = B', rt := fun d B2 => d = r ∧ B2 = B' }, cal_at T S (fun _ _ _ _ h => h.1) (fun f cdv A out s H E G Γ B r B' h => h.2 f cdv A out s H E G), fun Γ B h => ?_⟩
  obtain ⟨hl, r, B', hp, hb⟩ := body Γ B h
  exact ⟨r, B', ⟨hl, hb⟩, hp⟩
theorem Cal.e {k : Nat} {R : Rel} (c : Cal P w K mg base x k R) {Pre : List VD → Bag → Prop} {Post : List VD → Bag → PyData → Bag → Prop} (h : ∀ Γ B, Pre Γ B → ∃ r B', R Γ B r B' ∧ Post Γ B r B') : CalE P w K mg base x k Pre Post := ⟨R, c, h⟩
end
section
variable {X : Cx} {Γ : List VD} {B B1 B2 : Bag} {a b c : Expr} {d : VD} {pos : Pos}
theorem ej_ifT (h : TJ X Γ B c true B1) (h1 : EJ X Γ B1 a d B2) : EJ X Γ B (.IfExp c a b pos) d B2 := ej_if h (fun _ => h1) (fun z => Bool.noConfusion z)
theorem ej_ifF (h : TJ X Γ B c false B1) (h1 : EJ X Γ B1 b d B2) : EJ X Γ B (.IfExp c a b pos) d B2 := ej_if h (fun z => Bool.noConfusion z) (fun _ => h1)
end
end Gd
namespace Gd
open PySem PySem.Spec PyProof.Rows L2
section
variable {X : Cx} {i : Nat} {Γ : List VD} {B B1 B2 B' : Bag} {ds : List PyData} {e a b c : Expr} {es : List Expr} {pos p p1 p2 p3 pos' : Pos} {rest ss s1 s2 : List Stmt} {E : En}
theorem sj_forTU (is : List Nat) {ts : List Expr} {k0} {pt : Pos} (n : Nat) (hc : X.calm = true) (P : Nat → List VD → Bag → Prop) (hi : EJ X Γ B e (.da (.tuple ds)) B1) (h0 : P 0 Γ B1) (hg : PGs X ts (gNames is)) (hln : is.length = n)
    (hs : ∀ k y Γ' B', ds[k]? = some y → P k Γ' B' → ∃ dd, y = .tuple dd ∧ dd.length = n ∧ SJ X (setAll Γ' is dd) B' s1 { nx := P (k + 1), ct := P (k + 1), bk := fun Γ' B' => SJ X Γ' B' rest E, rt := E.rt })
    (hd : ∀ Γ' B', P ds.length Γ' B' → SJ X Γ' B' rest E) (hn : (assignEach ts X.env).length = n := by rfl) (hst : (assignEach ts X.env).findIdx? (·.1) = none := by rfl)
    (hp : PassesOwn (model X.prog X.w) X.A X.env X.xe := by exact PassesOwn.never) (hq : ∀ x, foldedSetIterable e X.env x = pure x := by intro _; rfl) :
    SJ X Γ B (.For (.Tuple ts k0 pt) e s1 [] pos :: rest) E := fun g σ H0 H Ev O D G =>
  ⟨_, pss_cons (ps_for hp hc (pi_tup (we e)) (pg_tup hc hg hn hst) (ws s1) hq) (ws rest), hi g σ H0 H Ev O _ fun v H1 H' t o r => by
    obtain ⟨p, xs, rfl, hxs, rs⟩ := rvT r
    refine ⟨p, rfl, ⟨xs, seqT o.ex hxs⟩, ?_⟩
    refine for_tup (xs := xs) (fun i σ' H'' => ∃ Γ' B' H2, P i Γ' B' ∧ To g H1 H' H2 H'' ∧ EnvD X.K g H2 σ' Γ' ∧ On X.K g B' H2 H'') ⟨Γ, B1, H1, h0, To.refl, Ev.mono t.ex, o⟩ ?_ ?_ ?_
    · rintro i σ' H'' _ ⟨Γ', B', H2, _, t2, _, o2⟩
      exact seqT o2.ex (seqT t2.ex hxs)
    · rintro i y σ' H'' hy ⟨Γ', B', H2, hP, t2, e2, o2⟩
      obtain ⟨d, hdi, rd⟩ := rs.get hy
      obtain ⟨dd, rfl, hdl, hO⟩ := hs i d Γ' B' hdi hP
      obtain ⟨q2, ys, rfl, hys, rs2⟩ := rvT (show Rv X.K g H2 y (.da (.tuple dd)) from Rp.mono t2.ex rd)
      refine ⟨q2, ys, rfl, seqT o2.ex hys, by rw [rs2.length, hdl], gNames_run is ys dd σ' Γ' rs2 (by rw [hln, hdl]) e2 fun σ3 e3 => ?_⟩
      refine hO g σ3 H2 H'' e3 o2 _ ⟨?_, ?_, ?_, ?_⟩
      · intro Γ3 B3 σ3 H3 H3' q t3 e3 o3
        exact ⟨Γ3, B3, H3, q, t2.trans t3, e3, o3⟩
      · intro r B3 v H3 H3' q t3 o3 rv
        exact (G.on (t.trans t2)).rt r B3 v H3 H3' q t3 o3 rv
      · intro Γ3 B3 σ3 H3 H3' q t3 e3 o3
        exact q g σ3 H3 H3' e3 o3 D (G.on ((t.trans t2).trans t3))
      · intro Γ3 B3 σ3 H3 H3' q t3 e3 o3
        exact ⟨Γ3, B3, H3, q, t2.trans t3, e3, o3⟩
    · rintro σ' H'' ⟨Γ', B', H2, hP, t2, e2, o2⟩
      rw [rs.length] at hP
      exact hd Γ' B' hP g σ' H2 H'' e2 o2 D (G.on (t.trans t2))⟩
end
end Gd
set_option exponentiation.threshold 20000
namespace Lw
open PySem PySem.Spec PyProof.Rows L2 Gd Fr
open scoped Rat
theorem pickF_mem (ts : List F4) (B : Bag) (h : 0 < ts.length) : pickF ts B ∈ ts := by
  have h0 := tkV_ge B (m := ts.length) (by omega)
  have h1 := tkV_lt B (m := ts.length) (by omega)
  have hlt : (tkV B ts.length).toNat < ts.length := by omega
  unfold pickF
  rw [List.getD_eq_getElem?_getD, List.getElem?_eq_getElem hlt]
  exact List.getElem_mem hlt
end Lw
namespace Lw
open PySem PySem.Spec PyProof.Rows L2 Gd Fr
end Lw
namespace Gd
open PySem PySem.Spec PyProof.Rows L2
section
variable {X : Cx} {Γ : List VD} {B B1 B2 : Bag} {a b c : Expr} {es : List Expr} {pos p : Pos}
end
end Gd
set_option exponentiation.threshold 20000
namespace Gd
open PySem PySem.Spec PyProof.Rows L2
section
variable {X : Cx} {Γ : List VD} {B B1 B2 : Bag} {c : Expr} {pos : Pos} {rest s1 s2 : List Stmt} {E : En}
end
end Gd
namespace Lw
open PySem PySem.Spec PyProof.Rows L2 Gd Fr
open scoped Rat
end Lw
set_option exponentiation.threshold 20000
namespace Lw
open PySem PySem.Spec PyProof.Rows L2 Gd Fr
open scoped Rat
def fmI (b p : Nat) : Int := ((b : Int) - 1) * ((b ^ (p - 1) : Nat) : Int)
def mostI (b p : Nat) (low high : Int) : Int := ((b ^ p : Nat) : Int) + (high - low) * fmI b p
def rkS (b p : Nat) (low high : Int) : Va → Int
  | .num _ c e => c + (e - low) * fmI b p
  | _ => mostI b p low high
def rkI (b p : Nat) (low high : Int) (v : Va) : Int := if v.sg = 1 then -rkS b p low high v else rkS b p low high v
variable {b p : Nat} {low high : Int} (F : Fm b p low high)
include F
end Lw
namespace Gd
open PySem PySem.Spec PyProof.Rows L2
section
variable {X : Cx} {Γ : List VD} {B B1 B2 : Bag} {a b c e : Expr} {pos p pos' : Pos} {rest : List Stmt} {E : En} {elt : Expr} {scope : Scope} {j : Nat} {x : Str} {px : Pos} {d : VD}
theorem call_reprL : CallR X (.builtin "repr") (fun xs H Q => ∃ b, xs = [.bl b] ∧ Q (.str (if b then "True" else "False")) H) := by
  intro pins s σ H xs us Q I r h
  obtain ⟨b, rfl, q⟩ := h
  obtain ⟨u, rfl, rfl⟩ := vals1 r
  exact PySem.P.repr_of_bool ⟨.str _, H, I.tok _, ⟨_, rfl⟩, q⟩
theorem ej_reprL {b : Bool} (hm : X.mg "repr" = none) (ha : EJ X Γ B a (.da (.bool b)) B1) (hs : starEach [a] X.env = [(false, eval a X.env)] := by rfl) (hg : Gl X "repr" := by rfl) :
    EJ X Γ B (.Call (.Name "repr" p) [a] [] pos) (.da (.str (if b then "True" else "False"))) B1 :=
  ej_callB call_reprL hm (aj_cons ha aj_nil hs) (fun gh vs H0 H O r Q q => by
    obtain ⟨v, rfl, h⟩ := rv1 r
    exact ⟨b, by rw [rvB h], q _ _ _ To.refl O (Rp.str _)⟩) (hg := hg) (he := hs)
theorem ej_reprI {i : Int} (hi : i.natAbs.log2 < 1920) (hm : X.mg "repr" = none) (ha : EJ X Γ B a (.da (.int i)) B1) (hs : starEach [a] X.env = [(false, eval a X.env)] := by rfl) (hg : Gl X "repr" := by rfl) :
    EJ X Γ B (.Call (.Name "repr" p) [a] [] pos) (.da (.str (toString i))) B1 :=
  ej_callB SkE.call_repr_int hm (aj_cons ha aj_nil hs) (fun gh vs H0 H O r Q q => by
    obtain ⟨v, rfl, h⟩ := rv1 r
    exact ⟨i, by rw [rvI h], hi, q _ _ _ To.refl O (Rp.str _)⟩) (hg := hg) (he := hs)
end
end Gd
namespace Gd
open PySem PySem.Spec PyProof.Rows L2
section
variable {X : Cx} {Γ : List VD} {B B1 B2 : Bag} {a b c e : Expr} {pos p pos' : Pos} {rest s1 : List Stmt} {E : En}
theorem sj_forR2 (j : Nat) {x : Str} {lo hi' : Int} {n : Nat} {px pr pc : Pos} (nd : X.N.Nodup) (hc : X.calm = true) (hm : X.mg "range" = none) (P : Nat → List VD → Bag → Prop) (ha : AJ X Γ B [a, b] [.da (.int lo), .da (.int hi')] B1)
    (he : (hi' - lo).toNat = n) (hlo : Bd 60 lo) (hhi : Bd 60 hi') (h0 : P 0 Γ B1)
    (hs : ∀ k Γ' B', k < n → P k Γ' B' → SJ X (Γ'.set j (.da (.int (lo + (k : Nat))))) B' s1 { nx := P (k + 1), ct := P (k + 1), bk := fun Γ' B' => SJ X Γ' B' rest E, rt := E.rt })
    (hd : ∀ Γ' B', P n Γ' B' → SJ X Γ' B' rest E) (hN : X.N[j]? = some x := by rfl) (hx : Loc X.env.scope x := by first | exact Or.inl rfl | exact Or.inr rfl)
    (hf : X.fn x = true ∨ X.env.scope.names.lookup x = some .local := by first | exact Or.inl rfl | exact Or.inr rfl)
    (hp : PassesOwn (model X.prog X.w) X.A X.env X.xe := by exact PassesOwn.never) (hq : ∀ x, foldedSetIterable (.Call (.Name "range" pr) [a, b] [] pc) X.env x = pure x := by intro _; rfl)
    (hst : starEach [a, b] X.env = [(false, eval a X.env), (false, eval b X.env)] := by rfl) (hst2 : starEach [b] X.env = [(false, eval b X.env)] := by rfl) (hg : Gl X "range" := by rfl) :
    SJ X Γ B (.For (.Name x px) (.Call (.Name "range" pr) [a, b] [] pc) s1 [] pos :: rest) E := fun g σ H0 H Ev O D G =>
  ⟨_, pss_cons (ps_for hp hc (pi_range2 hg hm (wa [a, b]) hst hst2) (pg_name nd hN hx hf) (ws s1) hq) (ws rest), ha g σ H0 H Ev O _ fun vs H1 H' t o r => by
    obtain ⟨v, v', rfl, h, h'⟩ := rv2 r
    unfold Bd at hlo hhi
    refine ⟨lo, hi', by rw [rvI h, rvI h'], ⟨by omega, by omega, by omega, by omega⟩, ?_⟩
    rw [he]
    refine for_range (lo := lo) (n := n) (fun i σ' H'' => ∃ Γ' B' H2, P i Γ' B' ∧ To g H1 H' H2 H'' ∧ EnvD X.K g H2 σ' Γ' ∧ On X.K g B' H2 H'') ⟨Γ, B1, H1, h0, To.refl, Ev.mono t.ex, o⟩ ?_ ?_
    · rintro i σ' H'' hlt ⟨Γ', B', H2, hP, t2, e2, o2⟩
      refine hs i Γ' B' hlt hP g _ H2 H'' (e2.set (d := .da (.int _)) j (Rp.int _)) o2 _ ⟨?_, ?_, ?_, ?_⟩
      · exact fun Γ3 B3 σ3 H3 H3' q t3 e3 o3 => ⟨Γ3, B3, H3, q, t2.trans t3, e3, o3⟩
      · exact fun r B3 v H3 H3' q t3 o3 rv => (G.on (t.trans t2)).rt r B3 v H3 H3' q t3 o3 rv
      · exact fun Γ3 B3 σ3 H3 H3' q t3 e3 o3 => q g σ3 H3 H3' e3 o3 D (G.on ((t.trans t2).trans t3))
      · exact fun Γ3 B3 σ3 H3 H3' q t3 e3 o3 => ⟨Γ3, B3, H3, q, t2.trans t3, e3, o3⟩
    · rintro σ' H'' ⟨Γ', B', H2, hP, t2, e2, o2⟩
      exact hd Γ' B' hP g σ' H2 H'' e2 o2 D (G.on (t.trans t2))⟩
end
end Gd
set_option exponentiation.threshold 20000
namespace Lw
open PySem PySem.Spec PyProof.Rows L2 Gd Fr
open scoped Rat
inductive R_form (f : Nat → Nat → Int → Int → PyData) : Rel
  | mk (b p : Nat) (low high : Int) (B : Bag) (F : Fm b p low high) : R_form f [.da (fmP b p low high)] B (f b p low high) B
noncomputable instance instVa : DecidableEq Va := fun x y => Classical.propDecidable (x = y)
section
variable {b p : Nat} {low high : Int} (F : Fm b p low high)
include F
end
inductive R_alikeA : Rel
  | mk (d : PyData) (B : Bag) (h : Okd d) (hb : boxed d = true ∨ d = .none ∨ (∃ b, d = .bool b) ∨ ∃ i, d = .int i) : R_alikeA [.da d, .da d] B (.bool true) B
end Lw
namespace Gd
open PySem PySem.Spec PyProof.Rows L2
section
variable {X : Cx} {Γ : List VD} {B B1 B2 : Bag} {a b c e : Expr} {pos p pos' : Pos} {rest s1 : List Stmt} {E : En}
end
end Gd
set_option exponentiation.threshold 20000
namespace Lw
open PySem PySem.Spec PyProof.Rows L2 Gd Fr
open scoped Rat
section
variable {b p : Nat} {low high : Int} (F : Fm b p low high)
include F
end
section
variable {b p : Nat} {low high : Int} (F : Fm b p low high)
include F
end
end Lw
set_option exponentiation.threshold 20000
namespace Lw
open PySem PySem.Spec PyProof.Rows L2 Gd Fr
open scoped Rat
def exQ (b p : Nat) (low high : Int) (x : Rat) : Prop := rQ b (eQ b p low (absQ x)) (absQ x) = 0 ∧ eQ b p low (absQ x) ≤ high
section
variable {b p : Nat} {low high : Int} (F : Fm b p low high)
include F
end
end Lw
namespace Lw
open PySem PySem.Spec PyProof.Rows L2 Gd Fr
end Lw
namespace Gd
open PySem PySem.Spec PyProof.Rows L2
section
variable {X : Cx} {Γ : List VD} {B B1 B2 : Bag} {a b c e elt : Expr} {scope : Scope} {pos p pos' : Pos} {rest s1 : List Stmt} {E : En} {d : VD}
end
end Gd
set_option exponentiation.threshold 20000
namespace Lw
open PySem PySem.Spec PyProof.Rows L2 Gd Fr
open scoped Rat
section
variable {b p : Nat} {low high : Int} (F : Fm b p low high)
include F
end
end Lw
namespace Lw
end Lw
namespace Gd
open PySem PySem.Spec PyProof.Rows L2
def tyN : PyData → Option String
  | .none => some "NoneType"
  | .bool _ => some "bool"
  | .int _ => some "int"
  | .str _ => some "str"
  | .list _ => some "list"
  | .tuple _ => some "tuple"
  | .dict _ => some "dict"
section
variable {X : Cx} {Γ : List VD} {B B1 B2 : Bag} {e c elt a b : Expr} {scope : Scope} {acc : List PyData} {pos pos' p p' : Pos} {rest : List Stmt} {E : En} {d : VD}
theorem rp_ty {K : PySem.W.Frag} {H0 H : Hp} (ex : Same H0 H) {v : V} {y : PyData} {t : String} (r : Rp K H0 v y) (h : tyN y = some t) : TyX K H v (.type t) := by
  cases r with
  | non => cases h; exact .base .non
  | bl b => cases h; exact .base (.bl b)
  | int i => cases h; exact .base (.int i)
  | str x => cases h; exact .base (.str x)
  | lst hx _ => cases h; exact .base (.lst (ex _ _ hx))
  | tup hx _ =>
    cases h
    rcases hx with (hh | ⟨ob, hh⟩) | hh
    · exact .base (.tup (ex _ _ hh))
    · exact .fTuple (ex _ _ hh)
    · obtain ⟨ob, its, n, h1, h2, _⟩ := hh; exact .kTuple h1 h2
  | dct hx => cases h; exact .base (.dK (ex _ _ hx))
  | dctT kvs hx => cases h; exact .base (.dT (ex _ _ hx))
theorem ej_isi {x : Str} {T t : String} {r : Bool} {y : PyData} (hm : X.mg "isinstance" = none) (hmT : X.mg x = none) (ha : EJ X Γ B a (.da y) B1) (ht : tyN y = some t := by rfl) (hk : kitB t T = some r := by decide +kernel)
    (hv : bootBuiltins x = some (.type T) := by decide +kernel) (hgT : Gl X x := by rfl) (hn : x ≠ "__name__" := by decide) (hdb : (x == ("__debug__" : Str)) = false := by decide)
    (hs : starEach [a, .Name x p'] X.env = (false, eval a X.env) :: starEach [.Name x p'] X.env := by rfl) (hs2 : starEach [.Name x p'] X.env = (false, eval (.Name x p') X.env) :: starEach [] X.env := by rfl)
    (hpl : (backTo pos (starEach [.Name x p'] X.env)).any (·.1) = false := by rfl) (hg : Gl X "isinstance" := by rfl) :
    EJ X Γ B (.Call (.Name "isinstance" p) [a, .Name x p'] [] pos) (.da (.bool r)) B1 := fun g σ H0 H Ev O Q q =>
  ⟨_, pe_callB call_isi hg hm (by decide +kernel) (pa_cons (we a) (pa_cons (pe_bltn (v := .ty T) hgT hmT hv rfl hn hdb) pa_nil hs2) hs) (by decide) (by decide) hs hpl,
   ha g σ H0 H Ev O _ fun v H1 H' t1 o rv => ⟨v, .ty T, .type t, .type T, r, rfl, .ty T, rp_ty o.ex rv ht, kit_ty hk, q _ _ _ t1 o (Rp.bl r)⟩⟩
theorem ej_chain {op op' : CmpOp} {i j k : Int} {z z' : Int → Int → V} {x y : Bool} (ha : EJ X Γ B a (.da (.int i)) B1) (hb : EJ X Γ B1 b (.da (.int j)) B2) (hc : EJ X Γ B2 c (.da (.int k)) B2)
    (ho : OpR X (compareOp op) (rI0 z)) (ho' : OpR X (compareOp op') (rI0 z')) (h1 : z i j = .bl x) (h2 : z' j k = .bl y) (hm : lastMarks [op, op'] [b, c] = false := by with_unfolding_all rfl) :
    EJ X Γ B (.Compare a [op, op'] [b, c] pos) (.da (.bool (x && y))) B2 := fun g σ H0 H E O Q q =>
  ⟨_, pe_chain ho ho' (we a) (we b) (we c) hm, ha g σ H0 H E O _ fun v H1 H' t o r => hb g σ H1 H' (E.mono t.ex) o _ fun w H2 H'' t2 o2 r2 => by
    have tt := t.trans t2
    refine ⟨i, j, rvI r, rvI r2, ?_⟩
    rw [h1]
    refine ⟨x, rfl, ?_⟩
    cases x with
    | true =>
      refine iteT ?_
      refine hc g σ H2 H'' (E.mono tt.ex) o2 _ fun u H3 H3' t3 o3 r3 => ⟨j, k, rvI r2, rvI r3, ?_⟩
      rw [h2]
      exact q _ _ _ (tt.trans t3) o3 (Rp.bl _)
    | false => exact iteF (q _ _ _ tt o2 (Rp.bl _))⟩
theorem ej_isN {j} {y : PyData} (ha : EJ X Γ B a (.da y) B1) : EJ X Γ B (.Compare a [.Is] [.Constant .none j pos'] pos) (.da (.bool (isNone y))) B1 :=
  ej_bin ha ej_non (fun _ _ h1 h2 => pe_cmpR op_isN h1 h2 (nomark _)) fun g v w H0 H O r1 r2 Q q => by
    have r2 : Rp X.K H0 w .none := r2
    cases r2
    refine ⟨rfl, ?_⟩
    rw [rv_non (show Rp X.K H0 v y from r1)]; exact q _ _ _ To.refl O (Rp.bl _)
end
end Gd
set_option exponentiation.threshold 20000
namespace Lw
open PySem PySem.Spec PyProof.Rows L2 Gd Fr
open scoped Rat
theorem rq_iff {b : Nat} (h2 : 2 ≤ b) {e : Int} {q : Rat} : rQ b e q = 0 ↔ ∃ k : Int, q = (k : Rat) * pw b e := by
  constructor
  · intro h
    exact ⟨cQ b e q, ((lo_eq h2 e q).mpr h).symm⟩
  · rintro ⟨k, rfl⟩
    rw [← unit_den h2, Rat.mul_assoc, ← pw_add h2, show e + -e = 0 by omega, pw_zero, Rat.mul_one]
    exact congrArg _ (Rat.den_intCast k)
theorem rq_down {b : Nat} (h2 : 2 ≤ b) {e e' : Int} {q : Rat} (h : e ≤ e') (hr : rQ b e' q = 0) : rQ b e q = 0 := by
  obtain ⟨k, rfl⟩ := (rq_iff h2).mp hr
  refine (rq_iff h2).mpr ⟨k * ((b ^ (e' - e).toNat : Nat) : Int), ?_⟩
  have : pw b e' = ((b ^ (e' - e).toNat : Nat) : Rat) * pw b e := by
    rw [← pw_of (b := b) (e := e' - e) (by omega), ← pw_add h2]; congr 1; omega
  rw [this, Rat.intCast_mul, Rat.intCast_natCast, Rat.mul_assoc]
theorem absQ_of {x : Rat} (h : 0 ≤ x) : absQ x = x := by unfold absQ; rw [if_neg (by grind)]
noncomputable instance exQ_dec (b p : Nat) (low high : Int) (x : Rat) : Decidable (exQ b p low high x) := by unfold exQ; infer_instance
theorem exQ_abs {b p : Nat} {low high : Int} {x : Rat} : exQ b p low high (absQ x) ↔ exQ b p low high x := by
  unfold exQ; rw [absQ_of (absQ_nonneg x)]
theorem numof_none {b p : Nat} {low high : Int} (F : Fm b p low high) (q : Rat) : isNone (numofP b p low high q) = !decide (exQ b p low high q) := by
  rw [numofP_all F]
  by_cases h : exQ b p low high q
  · rw [if_neg (by rintro (z | z); exact absurd z (by have := h.2; omega); exact z h.1), decide_eq_true h]; rfl
  · rw [if_pos (by
      by_cases z : high < eQ b p low (absQ q)
      · exact .inl z
      · exact .inr fun y => h ⟨y, by omega⟩), decide_eq_false h]; rfl
theorem within_all {b : Nat} {b' p' : Nat} {low' high' : Int} (h2 : 2 ≤ b) (F : Fm b' p' low' high') {M e : Int} (h0 : 1 ≤ M) (hM : exQ b' p' low' high' ((M : Rat) * pw b e)) (hm : exQ b' p' low' high' (((M - 1 : Int) : Rat) * pw b e))
    {c : Int} (c0 : 0 ≤ c) (c1 : c ≤ M) : exQ b' p' low' high' ((c : Rat) * pw b e) := by
  have g2 := F.b2
  have hp := pw_pos h2 e
  have nn : ∀ k : Int, 0 ≤ k → 0 ≤ (k : Rat) * pw b e := fun k hk => Rat.mul_nonneg (Rat.intCast_nonneg.mpr hk) (Rat.le_of_lt hp)
  have mo : ∀ j k : Int, j ≤ k → (j : Rat) * pw b e ≤ (k : Rat) * pw b e := fun j k hjk => Rat.mul_le_mul_of_nonneg_right (Rat.intCast_le_intCast.mpr hjk) (Rat.le_of_lt hp)
  by_cases hc : c = M
  · rw [hc]; exact hM
  unfold exQ at hM hm ⊢
  rw [absQ_of (nn _ (by omega))] at hM hm ⊢
  have e1 := eQ_mono F (mo c (M - 1) (by omega))
  have e2 := eQ_mono F (mo (M - 1) M (by omega))
  generalize eQ b' p' low' ((c : Rat) * pw b e) = u0 at *
  generalize eQ b' p' low' (((M - 1 : Int) : Rat) * pw b e) = u1 at *
  generalize eQ b' p' low' ((M : Rat) * pw b e) = u2 at *
  refine ⟨rq_down g2 e1 ?_, by omega⟩
  obtain ⟨k1, h1⟩ := (rq_iff g2).mp (rq_down g2 e2 hM.1)
  obtain ⟨k2, h3⟩ := (rq_iff g2).mp hm.1
  have hb : pw b e = ((k1 - k2 : Int) : Rat) * pw b' u1 := by
    rw [Rat.intCast_sub] at h3 ⊢
    have : pw b e = (M : Rat) * pw b e - ((M : Rat) - ((1 : Int) : Rat)) * pw b e := by
      have e1 : ((1 : Int) : Rat) = 1 := rfl
      rw [e1]; grind
    rw [this, h1, h3]; grind
  refine (rq_iff g2).mpr ⟨c * (k1 - k2), ?_⟩
  rw [hb, Rat.intCast_mul, Rat.mul_assoc]
def lostG (P : Int → Int → Bool) (M : Int) : Nat → Int → Option (Int × Int)
  | 0, _ => none
  | n + 1, e => if P M e = false then some (M, e) else if P (M - 1) e = false then some (M - 1, e) else lostG P M n (e + 1)
theorem lostG_none {P : Int → Int → Bool} {M : Int} : ∀ {n : Nat} {e : Int}, lostG P M n e = none → ∀ k : Nat, k < n → P M (e + k) = true ∧ P (M - 1) (e + k) = true
  | 0, _, _, k, hk => absurd hk (Nat.not_lt_zero _)
  | n + 1, e, h, k, hk => by
    unfold lostG at h
    split at h
    · cases h
    · next h1 =>
      split at h
      · cases h
      · next h2 =>
        cases k with
        | zero => rw [show e + ((0 : Nat) : Int) = e by omega]; exact ⟨by simpa using h1, by simpa using h2⟩
        | succ k =>
          have := lostG_none h k (by omega)
          rw [show e + ((k + 1 : Nat) : Int) = e + 1 + (k : Nat) by omega]; exact this
theorem lostG_some {P : Int → Int → Bool} {M c e' : Int} : ∀ {n : Nat} {e : Int}, lostG P M n e = some (c, e') → P c e' = false ∧ (c = M ∨ c = M - 1) ∧ e ≤ e' ∧ e' < e + n
  | 0, _, h => by cases h
  | n + 1, e, h => by
    unfold lostG at h
    split at h
    · next h1 => cases h; exact ⟨h1, .inl rfl, by omega, by omega⟩
    · split at h
      · next h1 h2 => cases h; exact ⟨h2, .inr rfl, by omega, by omega⟩
      · obtain ⟨a1, a2, a3, a4⟩ := lostG_some h
        exact ⟨a1, a2, by omega, by omega⟩
noncomputable def lostV (b p : Nat) (low high : Int) (b' p' : Nat) (low' high' : Int) : Option (Int × Int) :=
  lostG (fun c e => decide (exQ b' p' low' high' ((c : Rat) * pw b e))) (((b ^ p : Nat) : Int) - 1) (high + 1 - low).toNat low
def lostD : Option (Int × Int) → PyData
  | none => .none
  | some (c, e) => (Va.num 0 c e).d
inductive R_lost : Rel
  | mk (b p : Nat) (low high : Int) (b' p' : Nat) (low' high' : Int) (B : Bag) (F : Fm b p low high) (F' : Fm b' p' low' high') :
      R_lost [.da (fmP b p low high), .da (fmP b' p' low' high')] B (lostD (lostV b p low high b' p' low' high')) B
inductive R_isin : Rel
  | mk (b p : Nat) (low high : Int) (b' p' : Nat) (low' high' : Int) (B : Bag) (F : Fm b p low high) (F' : Fm b' p' low' high') :
      R_isin [.da (fmP b p low high), .da (fmP b' p' low' high')] B (.bool (isNone (lostD (lostV b p low high b' p' low' high')))) B
inductive R_lawlost : Rel
  | mk (b p : Nat) (low high : Int) (b' p' : Nat) (low' high' : Int) (B : Bag) (F : Fm b p low high) (F' : Fm b' p' low' high') (hN : b ^ p + (high - low).toNat * (b ^ p - b ^ (p - 1)) ≤ 1000) :
      R_lawlost [.da (fmP b p low high), .da (fmP b' p' low' high')] B (.bool (!isNone (lostD (lostV b p low high b' p' low' high')))) B
inductive R_numofS : Rel
  | mk (b p : Nat) (low high : Int) (q : Rat) (B : Bag) (F : Fm b p low high) (hq : Qz 3040 2341 q) : R_numofS [.da (fmP b p low high), .da (fq q)] B (numofP b p low high q) B
inductive R_isint : Rel
  | mk (i : Int) (B : Bag) : R_isint [.da (.int i)] B (.bool true) B
inductive R_isnum : Rel
  | mk (b p : Nat) (low high : Int) (s c e : Int) (B : Bag) (F : Fm b p low high) (hv : Vcan b p low high (.num s c e)) : R_isnum [.da (fmP b p low high), .da (Va.num s c e).d] B (.bool true) B
def onesD {α : Type} (l : List α) : PyData := .list (l.map fun _ => .int 1)
theorem ones_shaped {α : Type} (l : List α) : SeqAt.shaped (onesD l) = true := by
  have h1 : ∀ l : List α, PyData.canLayAll0 (l.map fun _ => PyData.int 1) = true := fun l => by
    induction l with
    | nil => rfl
    | cons a l ih => simp only [List.map_cons, PyData.canLayAll0, PyData.canLay0, ih, Bool.and_self]
  have h2 : ∀ l : List α, PyData.depthAll (l.map fun _ => PyData.int 1) ≤ 1 := fun l => by
    induction l with
    | nil => simp only [List.map_nil, PyData.depthAll]; omega
    | cons a l ih => simp only [List.map_cons, PyData.depthAll, PyData.depth]; omega
  unfold SeqAt.shaped onesD
  have := h2 l
  have a1 : PyData.canLay0 (.list (l.map fun _ => PyData.int 1)) = true := by simp only [PyData.canLay0, h1]
  have a2 : PyData.depth (.list (l.map fun _ => PyData.int 1)) ≤ 64 := by simp only [PyData.depth]; omega
  rw [a1, decide_eq_true a2]; rfl
theorem ones_eqv {α : Type} (l : List α) : PyData.eqv (onesD l) (.list []) = l.isEmpty := by
  cases l <;> simp [onesD, PyData.eqv, PyData.eqvAll]
theorem lostD_none (o : Option (Int × Int)) : isNone (lostD o) = o.isNone := by
  rcases o with _ | ⟨c, e⟩ <;> rfl
section
variable {b p : Nat} {low high : Int} {b' p' : Nat} {low' high' : Int} (F : Fm b p low high) (F' : Fm b' p' low' high')
include F F'
theorem lost_none (h : lostV b p low high b' p' low' high' = none) {v : Va} (hv : Vok b p low high v) (hn : v.isNum = true) : exQ b' p' low' high' (v.wQ b) := by
  cases v with
  | nan => cases hn
  | inf s => cases hn
  | num s c e =>
    obtain ⟨hs, c0, c1, l1, l2⟩ := hv
    have := lostG_none h (e - low).toNat (by omega)
    rw [show low + ((e - low).toNat : Int) = e by omega] at this
    have P := F.pows; have l2 := P.l2; have ge := P.ge
    have := within_all F.b2 F' (M := ((b ^ p : Nat) : Int) - 1) (by omega) (of_decide_eq_true this.1) (of_decide_eq_true this.2) c0 (by omega)
    rw [← exQ_abs, absQ_w F.b2 c0]; exact this
theorem lost_some {c e : Int} (h : lostV b p low high b' p' low' high' = some (c, e)) : Vok b p low high (.num 0 c e) ∧ Can b p low c e ∧ ¬ exQ b' p' low' high' ((Va.num 0 c e).wQ b) := by
  obtain ⟨a1, a2, a3, a4⟩ := lostG_some h
  have P := F.pows; have l2 := P.l2; have ge := P.ge
  refine ⟨⟨.inl rfl, by omega, by omega, a3, by omega⟩, ⟨by omega, by omega, a3, .inr (by omega)⟩, fun z => of_decide_eq_false a1 ?_⟩
  rw [← exQ_abs, absQ_w F.b2 (by omega)] at z; exact z
theorem lost_all : ((numsK b p low (high - low).toNat).filter fun v => !decide (exQ b' p' low' high' (v.wQ b))) = [] ↔ lostV b p low high b' p' low' high' = none := by
  have lh := F.lh
  constructor
  · intro h
    cases hl : lostV b p low high b' p' low' high' with
    | none => rfl
    | some ce =>
      obtain ⟨c, e⟩ := ce
      obtain ⟨h1, h2, h3⟩ := lost_some F F' hl
      have hm := numsK_all h2 (high - low).toNat (by have := h1.2.2.2.2; omega)
      have : Va.num 0 c e ∈ ((numsK b p low (high - low).toNat).filter fun v => !decide (exQ b' p' low' high' (v.wQ b))) := List.mem_filter.mpr ⟨hm, by rw [decide_eq_false h3]; rfl⟩
      rw [h] at this; cases this
  · intro h
    refine List.filter_eq_nil_iff.mpr fun v hv => ?_
    obtain ⟨c, e, rfl, hok, _⟩ := numsK_ok F (high - low).toNat (by omega) v hv
    rw [decide_eq_true (lost_none F F' h hok rfl)]; decide
end
end Lw
set_option exponentiation.threshold 20000
namespace Lw
open PySem PySem.Spec PyProof.Rows L2 Gd Fr
open scoped Rat
theorem can_exQ {b p : Nat} {low high : Int} (F : Fm b p low high) {s c e : Int} (h : Vcan b p low high (.num s c e)) : exQ b p low high ((Va.num s c e).wQ b) := by
  have c1 := can_e F.b2 (by have := F.p2; omega) h.2.1
  have := h.2.2
  rw [← exQ_abs, absQ_w F.b2 h.2.1.1]
  unfold exQ
  rw [absQ_of (Rat.mul_nonneg (Rat.intCast_nonneg.mpr h.2.1.1) (Rat.le_of_lt (pw_pos F.b2 e))), c1.1]
  exact ⟨(rq_iff F.b2).mpr ⟨c, rfl⟩, this⟩
theorem pick_map {α : Type} (L : List α) (f : α → PyData) (B : Bag) (h : 0 < L.length) : ∃ a ∈ L, pick (L.map f) B = f a := by
  have h0 := tkV_ge B (m := L.length) (by omega)
  have h1 := tkV_lt B (m := L.length) (by omega)
  have hlt : (tkV B L.length).toNat < L.length := by omega
  refine ⟨L[(tkV B L.length).toNat], List.getElem_mem hlt, ?_⟩
  unfold pick
  rw [List.length_map, List.getD_eq_getElem?_getD, List.getElem?_map, List.getElem?_eq_getElem hlt]; rfl
def cplD (t : F4 × F4) : PyData := .tuple [t.1.d, t.2.d]
def plantF : List (F4 × F4) := [((10, 2, 0, 0), (2, 7, 0, 0)), ((2, 2, 1, 4), (6, 2, -1, 5)), ((2, 4, 0, 4), (4, 2, -1, 8)), ((10, 2, 1, 4), (16, 4, -2, 8)), ((10, 2, 1, 3), (6, 6, -1, 8)), ((4, 2, 1, 4), (6, 4, 0, 1)), ((2, 4, 0, 2), (6, 2, -1, 5)), ((4, 2, 0, 1), (6, 2, -1, 2))]
theorem plant_fm : plantF.all (fun t => fmB t.1 && fmB t.2) = true := by decide +kernel
def crossF : List F4 := [(2, 3, -2, 1), (2, 6, -6, 6), (2, 8, -8, 8), (4, 3, -3, 3), (4, 2, 0, 1), (10, 3, -3, 1), (10, 2, 0, 0), (6, 3, -2, 2), (16, 2, -1, 1), (10, 6, -6, 2)]
theorem cross_fm : crossF.all fmB = true := by decide +kernel
def nearF (t : F4) : List F4 := [(t.1, t.2.1 + 1, t.2.2.1, t.2.2.2), (t.1, t.2.1, t.2.2.1 - 1, t.2.2.2), (t.1, t.2.1, t.2.2.1, t.2.2.2 + 1), (t.1, t.2.1 + 1, t.2.2.1 - 1, t.2.2.2 - (if decide (t.2.2.1 < t.2.2.2) = true then 1 else 0)), t]
theorem near_fm : smallF.all (fun t => (nearF t).all fmB) = true := by decide +kernel
def Pre_cpl (Γ : List VD) (B : Bag) : Prop := Γ = [.bag] ∧ Bok B
end Lw
set_option exponentiation.threshold 20000
namespace Lw
open PySem PySem.Spec PyProof.Rows L2 Gd Fr
open scoped Rat
theorem count_small {b p : Nat} {low high : Int} (F : Fm b p low high) (h : 2 * (((b ^ p : Nat) : Int) + (high - low) * (((b ^ p : Nat) : Int) - ((b ^ (p - 1) : Nat) : Int))) < 800) : b ^ p + (high - low).toNat * (b ^ p - b ^ (p - 1)) ≤ 1000 := by
  have lh := F.lh
  have Pw := F.pows; have ge := Pw.ge; have l2 := Pw.l2
  have ge' : b ^ (p - 1) ≤ b ^ p := by omega
  have e : ((b ^ p + (high - low).toNat * (b ^ p - b ^ (p - 1)) : Nat) : Int) = ((b ^ p : Nat) : Int) + (high - low) * (((b ^ p : Nat) : Int) - ((b ^ (p - 1) : Nat) : Int)) := by
    rw [Int.natCast_add, Int.natCast_mul, Int.ofNat_sub ge', Int.toNat_of_nonneg (by omega)]
  omega
end Lw
namespace Gd
open PySem PySem.Spec PyProof.Rows L2
section
variable {X : Cx} {Γ : List VD} {B B1 B2 B3 : Bag} {e c elt a b o i f : Expr} {scope : Scope} {acc : List PyData} {pos pos' p p' : Pos} {rest : List Stmt} {E : En} {d : VD}
end
end Gd
namespace Gd
open PySem PySem.Spec PyProof.Rows L2
section
variable {X : Cx} {Γ : List VD} {B B1 B2 : Bag} {a b c e : Expr} {pos p pos' : Pos} {rest s1 : List Stmt} {E : En}
end
end Gd
set_option exponentiation.threshold 20000
namespace Lw
open PySem PySem.Spec PyProof.Rows L2 Gd Fr
open scoped Rat
section
variable {b p : Nat} {low high : Int} (F : Fm b p low high)
include F
end
end Lw
namespace Lw
open PySem PySem.Spec PyProof.Rows L2 Gd Fr
open scoped Rat
end Lw
namespace Fr
open Gd PySem
open scoped Rat
def tw (k : Nat) (a : Int) : Int := 2 ^ k * (2 * a + 1)
theorem tw_of : ∀ (m : Nat) (n : Int), n.natAbs ≤ m → n ≠ 0 → ∃ k a, n = tw k a := by
  intro m
  induction m with
  | zero => intro n h hn; omega
  | succ m ih =>
    intro n h hn
    by_cases ho : n % 2 = 1
    · exact ⟨0, n / 2, by unfold tw; omega⟩
    · obtain ⟨k, a, e⟩ := ih (n / 2) (by omega) (by omega)
      refine ⟨k + 1, a, ?_⟩
      unfold tw at *
      rw [Int.pow_succ, Int.mul_comm _ 2, Int.mul_assoc, ← e]; omega
theorem tw_ex {n : Int} (h : n ≠ 0) : ∃ k a, n = tw k a := tw_of _ n (Nat.le_refl _) h
theorem tw_ne (k : Nat) (a : Int) : tw k a ≠ 0 := by
  unfold tw
  exact Int.mul_ne_zero (Int.ne_of_gt (Int.pow_pos (by decide))) (by omega)
theorem tw_low (k : Nat) (a : Int) : Builtin.bitAnd (tw k a) (-(tw k a)) = 2 ^ k := PySem.W.kbt_low k a
theorem bits_two (k : Nat) : ((Builtin.Int.intBits ((2 : Int) ^ k) : Nat) : Int) - 1 = (k : Int) := by
  have e : ((2 : Int) ^ k) = ((2 ^ k : Nat) : Int) := by rw [Int.natCast_pow]; rfl
  have p : 0 < 2 ^ k := Nat.pow_pos (by decide)
  unfold Builtin.Int.intBits
  rw [e, if_neg (by rw [beq_iff_eq]; omega), Int.natAbs_natCast, Nat.log2_two_pow]
  omega
theorem tw_shr {j k : Nat} (h : j ≤ k) (a : Int) : tw k a / 2 ^ j = tw (k - j) a := by
  unfold tw
  have e : (2 : Int) ^ k = 2 ^ j * 2 ^ (k - j) := by rw [← Int.pow_add]; congr 1; omega
  rw [e, Int.mul_assoc]
  exact Int.mul_ediv_cancel_left _ (Int.ne_of_gt (Int.pow_pos (by decide)))
theorem tw_zero (a : Int) : tw 0 a = 2 * a + 1 := by unfold tw; omega
theorem tw_split {j k : Nat} (h : j ≤ k) (a : Int) : tw k a = 2 ^ j * tw (k - j) a := by
  unfold tw
  rw [← Int.mul_assoc, ← Int.pow_add]; congr 2; omega
theorem gcd_odd {n : Int} (k : Nat) (b : Int) (h : n % 2 = 1 ∨ k = 0) : Nat.gcd n.natAbs (tw k b).natAbs = Nat.gcd n.natAbs (tw 0 b).natAbs := by
  rcases h with h | rfl
  · have e : (tw k b).natAbs = 2 ^ k * (tw 0 b).natAbs := by
      unfold tw; rw [Int.natAbs_mul, Int.natAbs_pow, Int.pow_zero, Int.one_mul]; rfl
    rw [e]
    have c : Nat.Coprime n.natAbs (2 ^ k) := by
      refine Nat.Coprime.pow_right _ ?_
      rw [Nat.coprime_comm]
      have : n.natAbs % 2 = 1 := by omega
      rw [Nat.Coprime, Nat.gcd_rec, this]; decide
    exact Nat.Coprime.gcd_mul_left_cancel_right _ c.symm
  · rfl
theorem tw_odd (a : Int) : tw 0 a % 2 = 1 := by rw [tw_zero]; omega
theorem bd_tw {m j k : Nat} {a : Int} (h : Bd m (tw k a)) (hj : j ≤ k) : Bd m (tw j a) := by
  unfold Bd tw at *
  rw [Int.natAbs_mul, Int.natAbs_pow] at *
  refine Nat.lt_of_le_of_lt (Nat.mul_le_mul_right _ ?_) h
  exact Nat.pow_le_pow_right (by decide) hj
theorem divInt_tw {i j t : Nat} (hi : t ≤ i) (hj : t ≤ j) (a b : Int) : tw i a /. tw j b = tw (i - t) a /. tw (j - t) b := by
  rw [tw_split hi, tw_split hj, Rat.divInt_mul_left (Int.ne_of_gt (Int.pow_pos (by decide)))]
end Fr
namespace Gd
open PySem PySem.Spec PyProof.Rows L2
section
variable {X : Cx} {Γ : List VD} {B B1 B2 B3 B' : Bag} {e a b c : Expr} {es : List Expr} {d da db dc : VD} {pos p pos' apos : Pos} {rest ss s1 s2 : List Stmt} {E : En}
theorem ej_band {i j : Int} (ha : EJ X Γ B a (.da (.int i)) B1) (hb : EJ X Γ B1 b (.da (.int j)) B2) : EJ X Γ B (.BinOp a .BitAnd b pos) (.da (.int (Builtin.bitAnd i j))) B2 :=
  ej_ii ha hb op_and fun _ => .int _
theorem ej_shr {i : Int} {k : Nat} (ha : EJ X Γ B a (.da (.int i)) B1) (hb : EJ X Γ B1 b (.da (.int (k : Int))) B2) : EJ X Γ B (.BinOp a .RShift b pos) (.da (.int (i / 2 ^ k))) B2 :=
  ej_iic ha hb op_shr (Int.natCast_nonneg k) fun _ => .int _
theorem ej_bits {i : Int} (ha : EJ X Γ B a (.da (.int i)) B1) (hbase : attributeBase a "bit_length" X.env (eval a X.env) = eval a X.env := by rfl) (hline : (apos.endLine == pos.line) = true := by rfl) :
    EJ X Γ B (.Call (.Attribute a "bit_length" apos) [] [] pos) (.da (.int (Builtin.Int.intBits i : Nat))) B1 := fun g σ H0 H E O Q q =>
  ⟨_, pe_bits (we a) hbase hline, ha g σ H0 H E O _ fun v H1 H' t o r => ⟨i, rvI r, q _ H1 H' t o (Rp.int _)⟩⟩
end
end Gd
namespace Lw
open PySem PySem.Spec PyProof.Rows L2 Gd Fr
open scoped Rat
inductive R_twos : Rel
  | mk (k : Nat) (a : Int) (B : Bag) : R_twos [.da (.int (tw k a))] B (.int (k : Int)) B
theorem fq_cop {n : Int} {d : Nat} (hd : d ≠ 0) (h : Nat.Coprime n.natAbs d) : fq (n /. (d : Int)) = .tuple [.int n, .int (d : Int)] := by
  have hd' : (d : Int) ≠ 0 := by omega
  have c1 : com n (d : Int) = 1 := by
    unfold com
    rw [if_neg (by omega), Int.natAbs_natCast, h.gcd_eq_one]; rfl
  have e1 := red_num (n := n) hd'
  have e2 := red_den (n := n) hd'
  rw [c1, Int.fdiv_one] at e1 e2
  unfold fq
  rw [← e1, ← e2]
theorem div_eq {n d n' d' : Int} (h : d ≠ 0) (h' : d' ≠ 0) (e : n * d' = n' * d) : n /. d = n' /. d' := (Rat.divInt_eq_divInt_iff h h').mpr e
theorem div_cross {n d : Int} (h : d ≠ 0) : n * ((n /. d).den : Int) = (n /. d).num * d := by
  have := (Rat.divInt_eq_divInt_iff h (den_ne (n /. d))).mp (self_div (n /. d)).symm
  exact this
theorem num_dvd {n d : Int} (h : d ≠ 0) : (n /. d).num.natAbs ∣ n.natAbs := by
  have e := congrArg Int.natAbs (div_cross (n := n) h)
  rw [Int.natAbs_mul, Int.natAbs_mul, Int.natAbs_natCast] at e
  have : (n /. d).num.natAbs ∣ n.natAbs * (n /. d).den := ⟨_, e⟩
  exact Nat.Coprime.dvd_of_dvd_mul_right (n /. d).reduced this
theorem den_dvd {n d : Int} (h : d ≠ 0) : (n /. d).den ∣ d.natAbs := by
  have e := congrArg Int.natAbs (div_cross (n := n) h)
  rw [Int.natAbs_mul, Int.natAbs_mul, Int.natAbs_natCast] at e
  have : (n /. d).den ∣ (n /. d).num.natAbs * d.natAbs := ⟨n.natAbs, by rw [← e, Nat.mul_comm]⟩
  exact Nat.Coprime.dvd_of_dvd_mul_left (n /. d).reduced.symm this
theorem mul_by (x y : Rat) : (.tuple [.int ((x.num /. (y.den : Int)).num * (y.num /. (x.den : Int)).num), .int (((y.num /. (x.den : Int)).den : Int) * ((x.num /. (y.den : Int)).den : Int))] : PyData) = fq (x * y) := by
  have c1 := div_cross (n := x.num) (den_ne y)
  have c2 := div_cross (n := y.num) (den_ne x)
  have d1 := num_dvd (n := x.num) (den_ne y)
  have d2 := den_dvd (n := x.num) (den_ne y)
  have d3 := num_dvd (n := y.num) (den_ne x)
  have d4 := den_dvd (n := y.num) (den_ne x)
  have r1 := (x.num /. (y.den : Int)).reduced
  have r2 := (y.num /. (x.den : Int)).reduced
  have p1 := (x.num /. (y.den : Int)).den_pos
  have p2 := (y.num /. (x.den : Int)).den_pos
  generalize x.num /. (y.den : Int) = u at *
  generalize y.num /. (x.den : Int) = v at *
  rw [Int.natAbs_natCast] at d2 d4
  have k1 : Nat.Coprime u.num.natAbs v.den := (x.reduced.coprime_dvd_left d1).coprime_dvd_right d4
  have k2 : Nat.Coprime v.num.natAbs u.den := (y.reduced.coprime_dvd_left d3).coprime_dvd_right d2
  have k : Nat.Coprime (u.num * v.num).natAbs (v.den * u.den) := by
    rw [Int.natAbs_mul]
    exact Nat.Coprime.mul_left (Nat.Coprime.mul_right k1 r1) (Nat.Coprime.mul_right r2 k2)
  have hne : v.den * u.den ≠ 0 := Nat.ne_of_gt (Nat.mul_pos p2 p1)
  have e := fq_cop hne k
  rw [← Int.natCast_mul, ← e, ← mul_div x y]
  congr 1
  refine div_eq (by omega) (Int.mul_ne_zero (den_ne x) (den_ne y)) ?_
  rw [Int.natCast_mul]
  have : u.num * (y.den : Int) * (v.num * (x.den : Int)) = x.num * (u.den : Int) * (y.num * (v.den : Int)) := by rw [c1, c2]
  grind
end Lw
namespace Gd
open PySem PySem.Spec PyProof.Rows L2
section
variable {X : Cx}
end
section
variable {X : Cx} {Γ : List VD} {B B1 B2 B3 B' : Bag} {e a b c : Expr} {es : List Expr} {d da db dc : VD} {pos p pos' apos : Pos} {kp : Pos} {rest ss s1 s2 : List Stmt} {E : En}
end
end Gd
namespace Gd
open PySem PySem.Spec PyProof.Rows L2
section
variable {X : Cx} {Γ : List VD} {B B1 B2 : Bag} {e c elt : Expr} {scope : Scope} {acc : List PyData} {pos pos' : Pos} {rest : List Stmt} {E : En} {d : VD}
end
end Gd
set_option exponentiation.threshold 20000
namespace Lw
open PySem PySem.Spec PyProof.Rows L2 Gd Fr
open scoped Rat
end Lw
namespace Gd
open PySem PySem.Spec PyProof.Rows L2
section
variable {P : Program} {w : World} {A : Around} {s : Shared} {E : Value → Shared → Prop}
end
section
variable {X : Cx} {Γ : List VD} {B B1 B2 B' : Bag} {e a b c : Expr} {es : List Expr} {d da db dc : VD} {pos p p' pos' : Pos} {rest ss s1 s2 : List Stmt} {E : En}
end
end Gd
namespace Gd
open PySem PySem.Spec PyProof.Rows L2
section
variable {K : PySem.W.Frag} {H : Hp} {a : Addr} {zs : List V}
end
section
variable {X : Cx} {i : Nat} {Γ : List VD} {B B1 B2 B' : Bag} {acc ds : List PyData} {e e2 a b c : Expr} {es : List Expr} {d da db : VD} {y y2 : PyData} {pos p p1 p2 p3 pos' : Pos} {rest ss s1 s2 : List Stmt} {E : EnO}
end
end Gd
namespace Gd
open PySem PySem.Spec PyProof.Rows L2
abbrev Post := PyData → Bag → Prop
def EX (X : Cx) (Γ : List VD) (B : Bag) (e : Expr) (Φ : Post) : Prop :=
  ∀ g σ H0 H, EnvD X.K g H0 σ Γ → On X.K g B H0 H → ∀ Q : VK,
    (∀ v H0' H' y B', Φ y B' → To g H0 H H0' H' → On X.K g B' H0' H' → Rp X.K H0' v y → Q v H') → WE X e σ H Q
def AX (X : Cx) (Γ : List VD) (B : Bag) (es : List Expr) (Φ : List VD → Bag → Prop) : Prop :=
  ∀ g σ H0 H, EnvD X.K g H0 σ Γ → On X.K g B H0 H → ∀ Q : List V → Hp → Prop,
    (∀ vs H0' H' ds B', Φ ds B' → To g H0 H H0' H' → On X.K g B' H0' H' → RvAll X.K g H0' vs ds → Q vs H') → WA X es σ H Q
def TX (X : Cx) (Γ : List VD) (B : Bag) (e : Expr) (Φ : Bool → Bag → Prop) : Prop :=
  ∀ g σ H0 H, EnvD X.K g H0 σ Γ → On X.K g B H0 H → ∀ Q : Bool → Hp → Prop,
    (∀ b H0' H' B', Φ b B' → To g H0 H H0' H' → On X.K g B' H0' H' → Q b H') → WT X e σ H Q
def DefSpX (K : PySem.W.Frag) (Pre : List VD → Bag → Prop) (Po : List VD → Bag → Post) : Sp := fun vs H Q _ =>
  ∃ g Γ B H0, RvAll K g H0 vs Γ ∧ On K g B H0 H ∧ Pre Γ B ∧
    ∀ v H0' H' r B', Po Γ B r B' → To g H0 H H0' H' → On K g B' H0' H' → Rp K H0' v r → Q v H'
def CalX (P : Program) (w : World) (K : PySem.W.Frag) (mg : Str → Option Value) (base : Heap) (x : Str) (k : Nat) (Pre : List VD → Bag → Prop) (Po : List VD → Bag → Post) : Prop :=
  ∃ f fd ps, FnG P w K mg base k f fd ps (DefSpX K Pre Po) ∧ mg x = some (.ref f) ∧ PySem.W.keepIn K (.ref f) = true ∧ Binds K fd ps []
theorem calx_at {P : Program} {w : World} {K : PySem.W.Frag} {mg : Str → Option Value} {base : Heap} {x : Str} {st : Stmt} {N ps : List Str} {k : Nat} {Pre : List VD → Bag → Prop} {Po : List VD → Bag → Post}
    (T : At K mg x st ps) (S : FnScope N ps (defScope st)) (len : ∀ Γ B, Pre Γ B → Γ.length = ps.length)
    (body : ∀ (f : Addr) (cdv : Value) (A : Around) (out : List Env) (s : Shared) (H : Hp) (E : XK),
      Gx k (cxOf CX0 P w K mg base N x (defScope st) f cdv A out s H E).nox → ∀ Γ B, Pre Γ B →
      SJ (cxOf CX0 P w K mg base N x (defScope st) f cdv A out s H E).nox (Γ ++ List.replicate (N.length - ps.length) .no) B (defBody st)
        { nx := fun _ B2 => Po Γ B .none B2, rt := fun d B2 => Po Γ B d B2 }) : CalX P w K mg base x (k + 1) Pre Po := by
  obtain ⟨f, fd, F, hm, hb⟩ := T
  have hpl : ps.length ≤ N.length := by
    have := congrArg List.length S.pre
    rw [List.length_take] at this; omega
  refine ⟨f, fd, ps, fnG_of F S ?_ ?_, hm, F.kp, hb⟩
  · rintro vs H Q E ⟨g, Γ, B, H0, a, b, c, d⟩
    rw [a.length]; exact len _ _ c
  · intro cdv A out s H vs Q E G ⟨g, Γ, B, H0, a, b, c, d⟩
    have hl := len _ _ c
    have E0' := start_env (N := N) a (by rw [hl]; exact hpl)
    rw [hl] at E0'
    refine body f cdv A out s H E G Γ B c g _ H0 H E0' b _ ⟨?_, ?_, ?_, ?_⟩
    · intro Γ2 B2 σ H1 H' z t _ o
      exact d _ _ _ _ _ z t o .non
    · intro r2 B2 v H1 H' z t o rv
      exact d _ _ _ _ _ z t o rv
    · intro _ _ _ _ _ z; exact z.elim
    · intro _ _ _ _ _ z; exact z.elim
theorem Cal.x {P : Program} {w : World} {K : PySem.W.Frag} {mg : Str → Option Value} {base : Heap} {x : Str} {k : Nat} {R : Rel} {Pre : List VD → Bag → Prop} {Po : List VD → Bag → Post}
    (c : Cal P w K mg base x k R) (h : ∀ Γ B, Pre Γ B → ∃ r B', R Γ B r B' ∧ Po Γ B r B') : CalX P w K mg base x k Pre Po := by
  obtain ⟨f, fd, ps, F, h1, h2, h3⟩ := c
  have im : ∀ vs H Q E, DefSpX K Pre Po vs H Q E → DefSp K R vs H Q E := by
    rintro vs H Q E ⟨g, Γ, B, H0, a, b, c, d⟩
    obtain ⟨r, B', hR, hP⟩ := h Γ B c
    exact ⟨g, Γ, B, H0, r, B', a, b, hR, fun v H0' H' t o rv => d v H0' H' r B' hP t o rv⟩
  exact ⟨f, fd, ps, ⟨fun vs H Q E q => F.len vs H Q E (im _ _ _ _ q), fun A o s H ar us vs Q E q1 q2 q3 q4 q5 q => F.run A o s H ar us vs Q E q1 q2 q3 q4 q5 (im _ _ _ _ q)⟩, h1, h2, h3⟩
section
variable {X : Cx} {Γ : List VD} {B B1 B2 B' : Bag} {e a b c : Expr} {es : List Expr} {d da db : VD} {y : PyData} {pos p pos' : Pos} {rest ss s1 s2 : List Stmt} {E : En} {Φ : Post} {Ω : List VD → Bag → Prop} {Ψ : Bool → Bag → Prop}
theorem ex_ej (h : EJ X Γ B e (.da y) B1) (hΦ : Φ y B1) : EX X Γ B e Φ := fun g σ H0 H Ev O Q q => h g σ H0 H Ev O Q fun v H1 H' t o r => q v H1 H' y B1 hΦ t o r
theorem ax_nil (h : Ω [] B) : AX X Γ B [] Ω := fun g σ H0 H _ O Q q => ⟨_, pa_nil, q [] H0 H [] B h To.refl O trivial⟩
theorem ax_bag (i : Nat) {x : Str} (r : AX X Γ B es fun ds B2 => Ω (.bag :: ds) B2) (h : Γ[i]? = some .bag := by rfl) (hN : X.N[i]? = some x := by rfl)
    (hv : Vis X.env.scope x := by first | exact Or.inl rfl | exact Or.inr (Or.inl rfl) | exact Or.inr (Or.inr rfl))
    (h1 : (x == ("__debug__" : Str)) = false := by decide) (h2 : (x == ("__classdict__" : Str)) = false := by decide)
    (hs : starEach (.Name x pos :: es) X.env = (false, eval (.Name x pos) X.env) :: starEach es X.env := by rfl) : AX X Γ B (.Name x pos :: es) Ω := fun g σ H0 H E O Q q =>
  ⟨_, pa_cons (we (.Name x pos)) (wa es) hs, (ej_bag (B := B) i h hN hv h1 h2) g σ H0 H E O _ fun v H1 H' t o rv => r g σ H1 H' (E.mono t.ex) o _ fun vs H2 H'' ds B2 hd t2 o2 rs => q (v :: vs) H2 H'' _ _ hd (t.trans t2) o2 ⟨rv.mono t2.ex, rs⟩⟩
theorem ex_call {x : Str} {k : Nat} {Pre : List VD → Bag → Prop} {Po : List VD → Bag → Post} (c : CalX X.prog X.w X.K X.mg X.base x k Pre Po) (g : Gx k X) (ha : AX X Γ B (e :: es) fun ds B1 => Pre ds B1 ∧ ∀ r B', Po ds B1 r B' → Φ r B')
    (hg : Gl X x := by rfl) (hdb : (x == ("__debug__" : Str)) = false := by decide) (he : starEach (e :: es) X.env = (false, eval e X.env) :: starEach es X.env := by rfl)
    (hpl : (backTo pos (starEach es X.env)).any (·.1) = false := by rfl) : EX X Γ B (.Call (.Name x p) (e :: es) [] pos) Φ := by
  obtain ⟨f, fd, ps, F, hm, hk, hb⟩ := c
  intro gh σ H0 H E O Q q
  refine ⟨fun σ H Q => WA X (e :: es) σ H fun vs H1 => DefSpX X.K Pre Po vs H1 Q E0, ⟨fun pins s σ H Q I h => ?_⟩, ?_⟩
  · refine wpAny_Call_Name_kw (ld_glob I hg hm ?_ hdb)
    refine PySem.W.callWith_K (h₀ := X.base) I.ok.mod.kin hk (thn ((wa (e :: es)).run pos pins s σ H _ I h) ?_) he hpl
    rintro us s1 ⟨vs, H1, I1, r1, q1⟩
    exact ⟨I1.kIn, runG F g hb I1 r1 q1⟩
  · refine ha gh σ H0 H E O _ fun vs H1 H' ds B1 hd t o rs => ?_
    exact ⟨gh, ds, B1, H1, rs, o, hd.1, fun v H2 H'' r B2 hr t2 o2 rv => q v H2 H'' _ _ (hd.2 _ _ hr) (t.trans t2) o2 rv⟩
theorem tx_tj {x : Bool} (h : TJ X Γ B e x B1) (hΨ : Ψ x B1) : TX X Γ B e Ψ := fun g σ H0 H Ev O Q q => h g σ H0 H Ev O Q fun H1 H' t o => q x H1 H' B1 hΨ t o
theorem ex_if (h : TX X Γ B c fun x B1 => (x = true → EX X Γ B1 a Φ) ∧ (x = false → EX X Γ B1 b Φ)) : EX X Γ B (.IfExp c a b pos) Φ := fun g σ H0 H Ev O Q q =>
  ⟨_, pe_ifExp (wt c) (we a) (we b), h g σ H0 H Ev O _ fun x H1 H' B1 hx t o => by
    cases x with
    | true => exact iteT (hx.1 rfl g σ H1 H' (Ev.mono t.ex) o Q fun z H2 H'' y B2 hy t2 o2 r2 => q z H2 H'' y B2 hy (t.trans t2) o2 r2)
    | false => exact iteF (hx.2 rfl g σ H1 H' (Ev.mono t.ex) o Q fun z H2 H'' y B2 hy t2 o2 r2 => q z H2 H'' y B2 hy (t.trans t2) o2 r2)⟩
theorem sj_unpackX (is : List Nat) {ts : List Expr} {k n : Nat} {pt : Pos} (hc : X.calm = true) (h : EX X Γ B e fun y B1 => ∃ ds, y = .tuple ds ∧ ds.length = n ∧ SJ X (setAll Γ is ds) B1 rest E) (hg : PGs X ts (gNames is)) (hl : is.length = n)
    (hn : (assignEach ts X.env).length = n := by rfl) (hst : (assignEach ts X.env).findIdx? (·.1) = none := by rfl)
    (h1 : swapsWithSole [.Tuple ts k pt] e pos.line X.env = pure false := by rfl) (h2 : swappedStores [.Tuple ts k pt] e X.env = pure none := by rfl)
    (h3 : (assignEach [.Tuple ts k pt] X.env).map (·.2) = [assign (.Tuple ts k pt) X.env] := by rfl) : SJ X Γ B (.Assign [.Tuple ts k pt] e pos :: rest) E := fun g σ H0 H Ev O D G =>
  ⟨_, pss_cons (ps_asg (we e) (pg_tup hc hg hn hst) h1 h2 h3) (ws rest), h g σ H0 H Ev O _ fun v H1 H' y B1 hy t o r => by
    obtain ⟨ds, rfl, hdl, q⟩ := hy
    obtain ⟨p, xs, rfl, hxs, rs⟩ := rvT (g := g) r
    exact ⟨p, xs, rfl, seqT o.ex hxs, by rw [rs.length]; exact hdl, gNames_run is xs ds σ Γ rs (by omega) (Ev.mono t.ex) fun σ' e' => q g σ' H1 H' e' o D (G.on t)⟩⟩
theorem sj_ifX (h : TX X Γ B c fun x B1 => (x = true → SJ X Γ B1 s1 { E with nx := fun Γ' B' => SJ X Γ' B' rest E }) ∧ (x = false → SJ X Γ B1 s2 { E with nx := fun Γ' B' => SJ X Γ' B' rest E })) :
    SJ X Γ B (.If c s1 s2 pos :: rest) E := fun g σ H0 H Ev O D G =>
  ⟨_, pss_cons (ps_if (wt c) (ws s1) (ws s2)) (ws rest), h g σ H0 H Ev O _ fun x H1 H' B1 hx t o => by
    have G' : Gets X { E with nx := fun Γ' B' => SJ X Γ' B' rest E } g H1 H' { D with nx := WS X rest D } :=
      ⟨fun Γ2 B2 σ2 H2 H'' q t2 ev o2 => q g σ2 H2 H'' ev o2 D (G.on (t.trans t2)), (G.on t).rt, (G.on t).bk, (G.on t).ct⟩
    cases x with
    | true => exact iteT (hx.1 rfl g σ H1 H' (Ev.mono t.ex) o _ G')
    | false => exact iteF (hx.2 rfl g σ H1 H' (Ev.mono t.ex) o _ G')⟩
end
section
variable {X : Cx} {i : Nat} {Γ : List VD} {B B1 B2 B' : Bag} {acc ds : List PyData} {e e2 a b c : Expr} {es : List Expr} {d da db : VD} {y y2 : PyData} {pos p p1 p2 p3 pos' : Pos} {rest ss s1 s2 : List Stmt} {E : EnO} {Φ : Post}
end
def RX (X : Cx) (Γ : List VD) (B : Bag) (t : TE) (Φ : Post) : Prop :=
  ∀ g σ H0 H, EnvD X.K g H0 σ Γ → On X.K g B H0 H → ∀ Q : VK, (∀ v H0' H' y B', Φ y B' → To g H0 H H0' H' → On X.K g B' H0' H' → Rp X.K H0' v y → Q v H') → t σ H Q
section
variable {X : Cx} {Γ : List VD} {B B1 B2 B' : Bag} {e a : Expr} {elt : Expr} {scope : Scope} {j : Nat} {x : Str} {px : Pos} {ds ys : List PyData} {pos pos' : Pos} {rest : List Stmt} {E : En} {Φ : Post}
theorem lc_turnX {g : Gh} {H1 H' : Hp} {A : Addr} {acc : List PyData} {H'' H2 : Hp} {σ : L2.St} {v : V} {y : PyData} {Nx : Hp → Prop} {Θ : Post} (off : Off g A) (Ev : EnvD X.K g H1 σ Γ) (I : LcI X.K g H1 H' A acc B1 H2 H'') (r : Rp X.K H2 v y)
    (hz : acc.length < 1000) (he : Blk X scope fun Y => EX Y (Γ.set j (.da y)) B1 elt Θ) (k : ∀ z B2 H3 H3', Θ z B2 → LcI X.K g H1 H' A (acc ++ [z]) B2 H3 H3' → Nx H3') :
    gName j v (wipe σ [j]) H'' fun σ2 H2 => wipe σ2 [j] = wipe σ [j] ∧ tYes σ2 H2 fun b H3 => if b = true then WB X scope elt σ2 H3 fun y H4 => ∃ acc, H4 A = some (.lst acc) ∧ acc.length < sizeLine ∧ Nx (upd H4 A (.lst (acc ++ [y]))) else Nx H3 := by
  refine ⟨wipe1, ?_⟩
  unfold tYes
  refine iteT ?_
  intro s hH C cl fp
  refine he s hH C cl fp g _ H2 H'' (wipe_env (Ev.mono I.to.ex) r) I.on _ fun w H3 H3' z B2 hz' t o rw' => ?_
  obtain ⟨zs, h1, h2, J⟩ := lcI_app off I t o rw'
  exact ⟨zs, h1, by rw [h2]; exact small1000 (Nat.le_of_lt hz), k _ _ _ _ hz' J⟩
theorem rx_lcR {n : Nat} (I : Nat → List PyData → Bag → Prop) (ha : AJ X Γ B [a] [.da (.int (n : Int))] B1) (h0 : I 0 [] B1) (hn : n ≤ 1000)
    (hs : ∀ (k : Nat) acc B', k < n → acc.length = k → I k acc B' → Blk X scope fun Y => EX Y (Γ.set j (.da (.int (k : Int)))) B' elt fun z B2 => I (k + 1) (acc ++ [z]) B2)
    (hd : ∀ acc B', acc.length = n → I n acc B' → Φ (.list acc) B') :
    RX X Γ B (tLc (iRng1 (WA X [a])) (gName j) tYes (WB X scope elt) [j]) Φ := fun g σ H0 H Ev O Q q =>
  ha g σ H0 H Ev O _ fun vs H1 H' t o r => by
    obtain ⟨v, rfl, h⟩ := rv1 r
    refine ⟨(n : Int), by rw [rvI h], by omega, by omega, fun A hA => ?_⟩
    obtain ⟨off, I0⟩ := lcI_start o hA
    rw [Int.toNat_natCast]
    refine lc_range (lo := 0) (n := n) (fun i H'' => ∃ H2 acc B', acc.length = i ∧ I i acc B' ∧ LcI X.K g H1 H' A acc B' H2 H'') ⟨_, [], _, rfl, h0, I0⟩ ?_ ?_
    · rintro i H'' hlt ⟨H2, acc, B', hl, hI, J⟩
      rw [Int.zero_add]
      exact lc_turnX off (Ev.mono t.ex) J (Rp.int _) (by omega) (hs i acc B' hlt hl hI) fun z B2 H3 H3' hz J => ⟨H3, _, B2, by rw [List.length_append, List.length_singleton, hl], hz, J⟩
    · rintro H'' ⟨H2, acc, B', hl, hI, J⟩
      obtain ⟨H3, t3, o3, r3⟩ := lcI_end off t J
      exact q _ H3 H'' _ _ (hd acc B' hl hI) t3 o3 r3
theorem sj_setLcRX (i : Nat) {pr pe : Pos} {y : Str} {py : Pos} (nd : X.N.Nodup) (hc : X.calm = true) (hm : X.mg "range" = none) (ok : BlkOk X.N X.env.scope scope [(x, j)])
    (hg : ∀ (s : Shared) (H : Hp) (C : Addr) (cl : List (Str × Addr)) (fp : List Addr), PG (X.blk s H scope (compEnvC scope cl C X.env) fp) (.Name x px) (gName j))
    (hsw : swapsWith (.ListComp elt [⟨.Name x px, .Call (.Name "range" pr) [a] [] pe, [], 0⟩] scope pos) (some (.Name y py)) pos'.line X.env = pure true)
    (r : RX X Γ B (tLc (iRng1 (WA X [a])) (gName j) tYes (WB X scope elt) [j]) fun z B1 => SJ X (Γ.set i (.da z)) B1 rest E)
    (hy : X.N[i]? = some y := by rfl) (hyl : X.env.scope.names.lookup y = some .local := by rfl) (hgl : Gl X "range" := by rfl)
    (hq : ∀ x, foldedSetIterable (.Call (.Name "range" pr) [a] [] pe) X.env x = pure x := by intro _; rfl) (hst : starEach [a] X.env = [(false, eval a X.env)] := by rfl) :
    SJ X Γ B (.Assign [.Name y py] (.ListComp elt [⟨.Name x px, .Call (.Name "range" pr) [a] [] pe, [], 0⟩] scope pos) pos' :: rest) E := fun g σ H0 H Ev O D G =>
  ⟨_, pss_cons (ps_setLc (i := i) (own := [(x, j)]) hc nd hy hyl hsw (pi_range1 hgl hm (wa [a]) hst) ok hg (fun _ _ _ _ _ => pts_nil) (wb scope elt) hq) (ws rest),
    r g σ H0 H Ev O _ fun v H1 H' z B1 k t o rv => k g _ H1 H' ((Ev.mono t.ex).set i rv) o D (G.on t)⟩
end
end Gd
namespace Gd
open PySem PySem.Spec PyProof.Rows L2
section
variable {X : Cx} {Γ : List VD} {B B1 B2 B' : Bag} {e a b c : Expr} {es : List Expr} {d da db : VD} {y : PyData} {pos p pos' : Pos} {rest ss s1 s2 : List Stmt} {E : En} {Φ : Post} {Ω : List VD → Bag → Prop} {Ψ : Bool → Bag → Prop}
end
end Gd
set_option exponentiation.threshold 20000
namespace Lw
open PySem PySem.Spec PyProof.Rows L2 Gd Fr
open scoped Rat
theorem lay_all {ds : List PyData} (h : ∀ d ∈ ds, d.canLay0 = true) : PyData.canLayAll0 ds = true := by
  induction ds with
  | nil => simp only [PyData.canLayAll0]
  | cons d ds ih => simp only [PyData.canLayAll0, h d List.mem_cons_self, ih fun x hx => h x (List.mem_cons_of_mem _ hx), Bool.and_self]
theorem depth_all {n : Nat} {ds : List PyData} (h : ∀ d ∈ ds, d.depth ≤ n) : PyData.depthAll ds ≤ n := by
  induction ds with
  | nil => exact Nat.zero_le _
  | cons d ds ih =>
    show max d.depth (PyData.depthAll ds) ≤ n
    exact Nat.max_le.mpr ⟨h d List.mem_cons_self, ih fun x hx => h x (List.mem_cons_of_mem _ hx)⟩
def Sh (n : Nat) (d : PyData) : Prop := d.canLay0 = true ∧ d.depth ≤ n
theorem Sh.shaped {n : Nat} {d : PyData} (h : Sh n d) (hn : n ≤ 64 := by decide) : SeqAt.shaped d = true := by
  unfold SeqAt.shaped
  rw [h.1, Bool.true_and, decide_eq_true_eq]
  exact Nat.le_trans h.2 hn
theorem Sh.lst {n : Nat} {ds : List PyData} (h : ∀ d ∈ ds, Sh n d) : Sh (n + 1) (.list ds) :=
  ⟨by simp only [PyData.canLay0]; exact lay_all fun d hd => (h d hd).1, by show PyData.depthAll ds + 1 ≤ n + 1; have := depth_all fun d hd => (h d hd).2; omega⟩
theorem Sh.tup {n : Nat} {ds : List PyData} (h : ∀ d ∈ ds, Sh n d) : Sh (n + 1) (.tuple ds) :=
  ⟨by simp only [PyData.canLay0]; exact lay_all fun d hd => (h d hd).1, by show PyData.depthAll ds + 1 ≤ n + 1; have := depth_all fun d hd => (h d hd).2; omega⟩
theorem Sh.int (i : Int) : Sh 0 (.int i) := ⟨by simp only [PyData.canLay0], Nat.le_refl _⟩
theorem Sh.str {x : Str} (h : PyData.strOk x = true) : Sh 0 (.str x) := ⟨by simp only [PyData.canLay0]; exact h, Nat.le_refl _⟩
theorem Sh.mono {n m : Nat} {d : PyData} (h : Sh n d) (e : n ≤ m) : Sh m d := ⟨h.1, Nat.le_trans h.2 e⟩
inductive Te where
  | nan
  | inf (s : Int)
  | x (q : Rat) (s : Int)
def Te.d : Te → PyData
  | .nan => .tuple [.str "nan"]
  | .inf s => .tuple [.str "inf", .int s]
  | .x q s => .tuple [.str "x", fq q, .int s]
def Te.isNan : Te → Bool
  | .nan => true
  | _ => false
def Te.sg : Te → Int
  | .nan => 0
  | .inf s => s
  | .x _ s => s
def Te.q : Te → Rat
  | .x q _ => q
  | _ => 0
end Lw
namespace Lw
open PySem PySem.Spec PyProof.Rows L2 Gd Fr
end Lw
set_option exponentiation.threshold 20000
namespace Lw
open PySem PySem.Spec PyProof.Rows L2 Gd Fr
open scoped Rat
theorem F4.inj {t u : F4} (h : t.d = u.d) : t = u := by
  obtain ⟨a, b, c, d⟩ := t
  obtain ⟨a', b', c', d'⟩ := u
  have h : fmP a b c d = fmP a' b' c' d' := h
  unfold fmP at h
  injection h with h
  injection h with h1 h
  injection h with h2 h
  injection h with h3 h
  injection h with h4 h
  injection h1 with h1
  injection h2 with h2
  injection h3 with h3
  injection h4 with h4
  have h1 : a = a' := by omega
  have h2 : b = b' := by omega
  subst h1; subst h2; subst h3; subst h4; rfl
section
variable {b p : Nat} {low high : Int} (F : Fm b p low high)
include F
end
end Lw
namespace Lw
open Gd
end Lw
set_option exponentiation.threshold 20000
namespace Lw
open PySem PySem.Spec PyProof.Rows L2 Gd Fr
open scoped Rat
theorem exQ_fit {b p : Nat} {low high m k : Int} (F : Fm b p low high) {q : Rat} (h : q = (k : Rat) * pw b m) (hm : low ≤ m) (hm2 : m ≤ high) (hk : (k.natAbs : Int) < ((b ^ p : Nat) : Int)) : exQ b p low high q := by
  have h2 := F.b2
  obtain ⟨C, E, hC, hE, e⟩ := norm' (low := low) (m := m) (k := (k.natAbs : Int)) h2 (by have := F.p2; omega) hm (by omega) hk
  have ha : absQ q = (((k.natAbs : Nat) : Int) : Rat) * pw b m := by rw [h, absQ_mul_pos _ (pw_pos h2 m), absQ_cast]
  have hv : Vcan b p low high (.num 0 C E) := ⟨.inl rfl, hC, by omega⟩
  have := can_exQ F hv
  rw [← exQ_abs, ha, ← e]
  have e3 : (Va.num 0 C E).wQ b = (C : Rat) * pw b E := by
    show ((if (0 : Int) = 1 then -C else C : Int) : Rat) * pw b E = _
    rw [if_neg (by decide)]
  rw [e3] at this
  exact this
end Lw
set_option exponentiation.threshold 20000
namespace Lw
open PySem PySem.Spec PyProof PyProof.Rows L2 Gd Fr
open scoped Rat
theorem exQ_iff {b p : Nat} {low high : Int} (F : Fm b p low high) {q : Rat} (h0 : 0 ≤ q) : exQ b p low high q ↔ ∃ m k : Int, low ≤ m ∧ m ≤ high ∧ q = (k : Rat) * pw b m ∧ 0 ≤ k ∧ k < ((b ^ p : Nat) : Int) := by
  constructor
  · rintro ⟨h1, h2⟩
    rw [absQ_of h0] at h1 h2
    have he := eQ_is (p := p) F.b2 low q
    have t0 := (t_zero F.b2 (eQ b p low q) q).mpr h1
    have v := q_val F.b2 (eQ b p low q) q
    rw [t0] at v
    refine ⟨eQ b p low q, cQ b (eQ b p low q) q, he.1, h2, by rw [v]; grind, c_ge F.b2 h0 _, c_lt F.b2 he⟩
  · rintro ⟨m, k, h1, h2, h3, h4, h5⟩
    exact exQ_fit F h3 h1 h2 (by omega)
theorem isin_iff {b p : Nat} {low high : Int} {b' p' : Nat} {low' high' : Int} (F : Fm b p low high) (F' : Fm b' p' low' high') :
    lostV b p low high b' p' low' high' = none ↔ ∀ e : Int, low ≤ e → e ≤ high → ∀ N : Int, (N = ((b ^ p : Nat) : Int) - 1 ∨ N = ((b ^ p : Nat) : Int) - 2) →
      ∃ m k : Int, low' ≤ m ∧ m ≤ high' ∧ (N : Rat) * pw b e = (k : Rat) * pw b' m ∧ 0 ≤ k ∧ k < ((b' ^ p' : Nat) : Int) := by
  have P := F.pows; have l2 := P.l2; have ge := P.ge
  have nn : ∀ (N e : Int), 0 ≤ N → (0 : Rat) ≤ (N : Rat) * pw b e := fun N e h => Rat.mul_nonneg (Rat.intCast_nonneg.mpr h) (Rat.le_of_lt (pw_pos F.b2 e))
  constructor
  · intro h e h1 h2 N hN
    have := lostG_none h (e - low).toNat (by omega)
    rw [show low + ((e - low).toNat : Int) = e by omega] at this
    have h3 := of_decide_eq_true this.1
    have h4 := of_decide_eq_true this.2
    rcases hN with rfl | rfl
    · exact (exQ_iff F' (nn _ _ (by omega))).mp h3
    · rw [show ((b ^ p : Nat) : Int) - 1 - 1 = ((b ^ p : Nat) : Int) - 2 by omega] at h4
      exact (exQ_iff F' (nn _ _ (by omega))).mp h4
  · intro h
    cases hl : lostV b p low high b' p' low' high' with
    | none => rfl
    | some ce =>
      obtain ⟨c, e⟩ := ce
      exfalso
      obtain ⟨a1, a2, a3, a4⟩ := lostG_some hl
      have lh := F.lh
      have := (exQ_iff F' (q := (c : Rat) * pw b e) (nn _ _ (by omega))).mpr (h e a3 (by omega) c (by omega))
      rw [decide_eq_true this] at a1; cases a1
theorem pw_pow {c i : Nat} (hi : 1 ≤ i) (e : Int) : pw (c ^ i) e = pw c ((i : Int) * e) := by
  unfold pw
  by_cases h : e < 0
  · have h1 : (i : Int) * e < 0 := Int.mul_neg_of_pos_of_neg (by omega) h
    rw [if_pos h, if_pos h1]
    have : (-((i : Int) * e)).toNat = i * (-e).toNat := by
      have h3 : -((i : Int) * e) = (i : Int) * (-e) := by rw [Int.mul_neg]
      have h4 : ((-e).toNat : Int) = -e := by omega
      have h5 : (0 : Int) ≤ (i : Int) * (-e) := Int.mul_nonneg (by omega) (by omega)
      have h6 : (((i * (-e).toNat : Nat)) : Int) = (i : Int) * (-e) := by rw [Int.natCast_mul, h4]
      omega
    rw [this, Nat.pow_mul]
  · have h1 : ¬ (i : Int) * e < 0 := Int.not_lt.mpr (Int.mul_nonneg (by omega) (by omega))
    rw [if_neg h, if_neg h1]
    have : ((i : Int) * e).toNat = i * e.toNat := by
      have h4 : (e.toNat : Int) = e := by omega
      have h6 : (((i * e.toNat : Nat)) : Int) = (i : Int) * e := by rw [Int.natCast_mul, h4]
      omega
    rw [this, Nat.pow_mul]
theorem sh_down {c : Nat} (h2 : 2 ≤ c) {N k x y : Int} (h : y ≤ x) : (N : Rat) * pw c x = (k : Rat) * pw c y ↔ k = N * ((c ^ (x - y).toNat : Nat) : Int) := by
  have e : pw c x = (((c ^ (x - y).toNat : Nat) : Int) : Rat) * pw c y := by
    rw [← pw_p h2, show ((x - y).toNat : Int) + y = x by omega]
  have ne := pw_ne h2 y
  constructor
  · intro h
    rw [e, ← Rat.mul_assoc] at h
    have h3 := congrArg (fun z => z * (pw c y)⁻¹) h
    simp only [Rat.mul_assoc, Rat.mul_inv_cancel _ ne, Rat.mul_one] at h3
    rw [← Rat.intCast_mul] at h3
    exact (Rat.intCast_inj.mp h3).symm
  · intro h
    rw [e, h, Rat.intCast_mul, Rat.mul_assoc]
theorem sh_up {c : Nat} (h2 : 2 ≤ c) {N k x y : Int} (h : x ≤ y) (he : (N : Rat) * pw c x = (k : Rat) * pw c y) : N = k * ((c ^ (y - x).toNat : Nat) : Int) := (sh_down h2 h).mp he.symm
theorem pow_dvd_one {c n : Nat} (h : 1 ≤ n) {z : Int} : (c : Int) ∣ z * ((c ^ n : Nat) : Int) := by
  obtain ⟨k, rfl⟩ : ∃ k, n = k + 1 := ⟨n - 1, by omega⟩
  rw [Nat.pow_succ, Int.natCast_mul, ← Int.mul_assoc]
  exact Int.dvd_mul_left _ _
theorem big_lt {b D t P : Nat} (h2 : 2 ≤ b) (hD : 1 ≤ D) (h : (b ^ D - 1) * b ^ t < b ^ P) : D + t ≤ P := by
  refine Nat.not_lt.mp fun hn => ?_
  have h1 : b ^ P ≤ b ^ (D - 1 + t) := Nat.pow_le_pow_right (by omega) (by omega)
  have h3 : b ^ (D - 1) ≤ b ^ D - 1 := by
    have e : b ^ D = b ^ (D - 1) * b := by rw [← Nat.pow_succ]; exact congrArg (b ^ ·) (by omega)
    have p : 0 < b ^ (D - 1) := Nat.pow_pos (by omega)
    have := Nat.mul_le_mul_left (b ^ (D - 1)) h2
    omega
  have h4 : b ^ (D - 1) * b ^ t ≤ (b ^ D - 1) * b ^ t := Nat.mul_le_mul_right _ h3
  rw [← Nat.pow_add] at h4
  omega
theorem small_lt {b D t P : Nat} {N : Int} (h2 : 2 ≤ b) (hN : N < ((b ^ D : Nat) : Int)) (h : D + t ≤ P) : N * ((b ^ t : Nat) : Int) < ((b ^ P : Nat) : Int) := by
  have h1 : b ^ (D + t) ≤ b ^ P := Nat.pow_le_pow_right (by omega) h
  rw [Nat.pow_add] at h1
  have p : (0 : Int) < ((b ^ t : Nat) : Int) := Int.natCast_pos.mpr (Nat.pow_pos (by omega))
  have h3 := Int.mul_lt_mul_of_pos_right hN p
  rw [← Int.natCast_mul] at h3
  omega
theorem two_in {i j D p' : Nat} {lo hi l' h' : Int} (hi1 : 1 ≤ i) (hj : 1 ≤ j) (F : Fm (2 ^ i) D lo hi) (F' : Fm (2 ^ j) p' l' h') :
    lostV (2 ^ i) D lo hi (2 ^ j) p' l' h' = none ↔ ∀ e : Int, lo ≤ e → e ≤ hi → ∃ m : Int, l' ≤ m ∧ m ≤ h' ∧ (j : Int) * m ≤ (i : Int) * e ∧ (i : Int) * D + (i : Int) * e ≤ (j : Int) * (p' + m) := by
  rw [isin_iff F F']
  have p2 := F.p2
  have eM : (2 ^ i) ^ D = 2 ^ (i * D) := (Nat.pow_mul ..).symm
  have eP : (2 ^ j) ^ p' = 2 ^ (j * p') := (Nat.pow_mul ..).symm
  have iD : 2 ≤ i * D := Nat.le_trans p2 (Nat.le_mul_of_pos_left D (by omega))
  have m4 : 2 ^ 2 ≤ 2 ^ (i * D) := Nat.pow_le_pow_right (by decide) iD
  constructor
  · intro h e h1 h2
    obtain ⟨m, k, a1, a2, a3, a4, a5⟩ := h e h1 h2 _ (.inl rfl)
    rw [pw_pow hi1, pw_pow hj, eM] at a3
    rw [eP] at a5
    have odd : ¬ (2 : Int) ∣ ((2 ^ (i * D) : Nat) : Int) - 1 := by
      have : (2 : Int) ∣ ((2 ^ (i * D) : Nat) : Int) := by
        have := pow_dvd_one (c := 2) (n := i * D) (z := 1) (by omega)
        simpa using this
      omega
    by_cases hm : (j : Int) * m ≤ (i : Int) * e
    · refine ⟨m, a1, a2, hm, ?_⟩
      have hk := (sh_down (by decide) hm).mp a3
      have hb : (2 ^ (i * D) - 1) * 2 ^ ((i : Int) * e - (j : Int) * m).toNat < 2 ^ (j * p') := by
        have e1 : (((2 ^ (i * D) - 1) * 2 ^ ((i : Int) * e - (j : Int) * m).toNat : Nat) : Int) = k := by
          rw [hk, Int.natCast_mul]; congr 1; omega
        omega
      have := big_lt (by decide) (by omega) hb
      rw [Int.mul_add]
      have e2 : ((i * D : Nat) : Int) = (i : Int) * D := Int.natCast_mul ..
      have e3 : ((j * p' : Nat) : Int) = (j : Int) * p' := Int.natCast_mul ..
      omega
    · exfalso
      have := sh_up (c := 2) (by decide) (show (i : Int) * e ≤ (j : Int) * m by omega) a3
      rw [this] at odd
      exact odd (pow_dvd_one (by omega))
  · intro h e h1 h2 N hN
    obtain ⟨m, a1, a2, a3, a4⟩ := h e h1 h2
    rw [eM] at hN
    refine ⟨m, N * ((2 ^ ((i : Int) * e - (j : Int) * m).toNat : Nat) : Int), a1, a2, ?_, Int.mul_nonneg (by omega) (Int.natCast_nonneg _), ?_⟩
    · rw [pw_pow hi1, pw_pow hj]
      exact (sh_down (by decide) a3).mpr rfl
    · rw [eP]
      refine small_lt (by decide) (D := i * D) (by omega) ?_
      rw [Int.mul_add] at a4
      have e2 : ((i * D : Nat) : Int) = (i : Int) * D := Int.natCast_mul ..
      have e3 : ((j * p' : Nat) : Int) = (j : Int) * p' := Int.natCast_mul ..
      omega
theorem one_in {b p p' : Nat} {lo hi l' h' : Int} (F : Fm b p lo hi) (F' : Fm b p' l' h') :
    lostV b p lo hi b p' l' h' = none ↔ p ≤ p' ∧ l' ≤ lo ∧ (p : Int) + hi ≤ p' + h' := by
  rw [isin_iff F F']
  have h2 := F.b2; have p2 := F.p2; have lh := F.lh; have lh' := F'.lh
  have P := F.pows; have l2 := P.l2; have ge := P.ge
  constructor
  · intro h
    have key : ∀ e, lo ≤ e → e ≤ hi → ∃ m, l' ≤ m ∧ m ≤ h' ∧ m ≤ e ∧ (p : Int) + (e - m) ≤ p' := by
      intro e h1 h3
      obtain ⟨m, k, a1, a2, a3, a4, a5⟩ := h e h1 h3 _ (.inl rfl)
      by_cases hm : m ≤ e
      · refine ⟨m, a1, a2, hm, ?_⟩
        have hk := (sh_down h2 hm).mp a3
        have hb : (b ^ p - 1) * b ^ (e - m).toNat < b ^ p' := by
          have e1 : (((b ^ p - 1) * b ^ (e - m).toNat : Nat) : Int) = k := by
            rw [hk, Int.natCast_mul]; congr 1; omega
          omega
        have := big_lt h2 (by omega) hb
        omega
      · exfalso
        have := sh_up h2 (show e ≤ m by omega) a3
        have d1 : (b : Int) ∣ ((b ^ p : Nat) : Int) - 1 := by rw [this]; exact pow_dvd_one (by omega)
        have d2 : (b : Int) ∣ ((b ^ p : Nat) : Int) := by
          have := pow_dvd_one (c := b) (n := p) (z := 1) (by omega)
          simpa using this
        have d3 : (b : Int) ∣ 1 := by
          have := Int.dvd_sub d2 d1
          rw [show ((b ^ p : Nat) : Int) - (((b ^ p : Nat) : Int) - 1) = 1 by omega] at this
          exact this
        have := Int.le_of_dvd (by decide) d3
        omega
    obtain ⟨m, a1, a2, a3, a4⟩ := key lo (Int.le_refl _) lh
    obtain ⟨m', b1, b2, b3, b4⟩ := key hi lh (Int.le_refl _)
    exact ⟨by omega, by omega, by omega⟩
  · rintro ⟨c1, c2, c3⟩ e h1 h3 N hN
    have hmin : min e h' ≤ e := Int.min_le_left ..
    have hmin2 : min e h' ≤ h' := Int.min_le_right ..
    have hmin3 : min e h' = e ∨ min e h' = h' := by omega
    refine ⟨min e h', N * ((b ^ (e - min e h').toNat : Nat) : Int), by omega, hmin2, (sh_down h2 hmin).mpr rfl, Int.mul_nonneg (by omega) (Int.natCast_nonneg _), ?_⟩
    exact small_lt h2 (D := p) (by omega) (by omega)
theorem odd_m {b D : Nat} (he : b % 2 = 0) (hD : 1 ≤ D) : ¬ (2 : Int) ∣ ((b ^ D : Nat) : Int) - 1 := by
  have d1 : (b : Int) ∣ ((b ^ D : Nat) : Int) := by
    have := pow_dvd_one (c := b) (n := D) (z := 1) hD
    simpa using this
  have d0 : (2 : Int) ∣ (b : Int) := by omega
  have := Int.dvd_trans d0 d1
  omega
theorem int_in {b D b' p' : Nat} {l' h' : Int} (F : Fm b D 0 0) (F' : Fm b' p' l' h') (he : b % 2 = 0) (he' : b' % 2 = 0) (h1 : l' ≤ 0) (h2 : 0 ≤ h') :
    lostV b D 0 0 b' p' l' h' = none ↔ b ^ D ≤ b' ^ p' := by
  rw [isin_iff F F']
  have b2 := F.b2; have b2' := F'.b2; have p2 := F.p2
  have P := F.pows; have l2 := P.l2; have ge := P.ge
  have z : pw b 0 = pw b' 0 := by rw [pw_zero, pw_zero]
  constructor
  · intro h
    obtain ⟨m, k, a1, a2, a3, a4, a5⟩ := h 0 (Int.le_refl _) (Int.le_refl _) _ (.inl rfl)
    rw [z] at a3
    by_cases hm : m ≤ 0
    · have hk := (sh_down b2' hm).mp a3
      have p1 : (1 : Int) ≤ ((b' ^ (0 - m).toNat : Nat) : Int) := by have : 0 < b' ^ (0 - m).toNat := Nat.pow_pos (by omega); omega
      have := Int.mul_le_mul_of_nonneg_left p1 (show (0 : Int) ≤ ((b ^ D : Nat) : Int) - 1 by omega)
      omega
    · exfalso
      have := sh_up b2' (show 0 ≤ m by omega) a3
      have d : (b' : Int) ∣ ((b ^ D : Nat) : Int) - 1 := by rw [this]; exact pow_dvd_one (by omega)
      exact odd_m he (by omega) (Int.dvd_trans (by omega) d)
  · intro h e h3 h4 N hN
    obtain rfl : e = 0 := by omega
    exact ⟨0, N, h1, h2, by rw [z], by omega, by omega⟩
theorem out_in {b D b' p' q : Nat} {lo hi l' h' : Int} (F : Fm b D lo hi) (F' : Fm b' p' l' h') (hq : 2 ≤ q) (hb : q ∣ b) (hc : Nat.Coprime q b') (hl : lo ≤ -1) : lostV b D lo hi b' p' l' h' ≠ none := by
  intro h
  rw [isin_iff F F'] at h
  have b2 := F.b2; have b2' := F'.b2; have p2 := F.p2
  have P := F.pows; have l2 := P.l2; have ge := P.ge
  obtain ⟨m, k, a1, a2, a3, a4, a5⟩ := h lo (Int.le_refl _) F.lh _ (.inl rfl)
  obtain ⟨t, rfl⟩ : ∃ t : Nat, lo = -(t : Int) := ⟨(-lo).toNat, by omega⟩
  obtain ⟨S, hS⟩ : ∃ S : Nat, -m ≤ (S : Int) := ⟨(-m).toNat, by omega⟩
  have e0 : pw b (-(t : Int)) * ((b ^ t : Nat) : Rat) = 1 := by rw [← pw_nat, ← pw_add b2, show -(t : Int) + (t : Int) = 0 by omega, pw_zero]
  have e1 : pw b' m * ((b' ^ S : Nat) : Rat) = ((b' ^ (m + S).toNat : Nat) : Rat) := by rw [← pw_nat, ← pw_add b2', pw_of (by omega)]
  have e2 : ((((b ^ D : Nat) : Int) - 1 : Int) : Rat) * ((b' ^ S : Nat) : Rat) = (k : Rat) * ((b' ^ (m + S).toNat : Nat) : Rat) * ((b ^ t : Nat) : Rat) := by
    calc ((((b ^ D : Nat) : Int) - 1 : Int) : Rat) * ((b' ^ S : Nat) : Rat) = ((((b ^ D : Nat) : Int) - 1 : Int) : Rat) * (pw b (-(t : Int)) * ((b ^ t : Nat) : Rat)) * ((b' ^ S : Nat) : Rat) := by rw [e0]; grind
      _ = ((((b ^ D : Nat) : Int) - 1 : Int) : Rat) * pw b (-(t : Int)) * (((b ^ t : Nat) : Rat) * ((b' ^ S : Nat) : Rat)) := by grind
      _ = (k : Rat) * pw b' m * (((b ^ t : Nat) : Rat) * ((b' ^ S : Nat) : Rat)) := by rw [a3]
      _ = (k : Rat) * (pw b' m * ((b' ^ S : Nat) : Rat)) * ((b ^ t : Nat) : Rat) := by grind
      _ = _ := by rw [e1]
  have e3 : (((b ^ D : Nat) : Int) - 1) * ((b' ^ S : Nat) : Int) = k * ((b' ^ (m + S).toNat : Nat) : Int) * ((b ^ t : Nat) : Int) := by
    rw [← Rat.intCast_natCast, ← Rat.intCast_natCast, ← Rat.intCast_natCast, ← Rat.intCast_mul, ← Rat.intCast_mul, ← Rat.intCast_mul] at e2
    exact Rat.intCast_inj.mp e2
  obtain ⟨kn, rfl⟩ : ∃ kn : Nat, k = (kn : Int) := ⟨k.toNat, by omega⟩
  have pb : 1 ≤ b ^ D := Nat.pow_pos (by omega)
  have e4 : (b ^ D - 1) * b' ^ S = kn * b' ^ (m + S).toNat * b ^ t := by
    have : (((b ^ D - 1) * b' ^ S : Nat) : Int) = ((kn * b' ^ (m + S).toNat * b ^ t : Nat) : Int) := by
      rw [Int.natCast_mul, Int.natCast_mul, Int.natCast_mul, Int.natCast_sub pb]; exact e3
    exact_mod_cast this
  have d1 : q ∣ (b ^ D - 1) * b' ^ S := by
    rw [e4]
    refine Nat.dvd_mul_left_of_dvd ?_ _
    exact Nat.dvd_trans hb (Nat.dvd_trans (by rw [Nat.pow_one]; exact Nat.dvd_refl b) (Nat.pow_dvd_pow b (show 1 ≤ t by omega)))
  have d2 : q ∣ b ^ D - 1 := Nat.Coprime.dvd_of_dvd_mul_right (Nat.Coprime.pow_right S hc) d1
  have d3 : q ∣ b ^ D := Nat.dvd_trans hb (Nat.dvd_trans (by rw [Nat.pow_one]; exact Nat.dvd_refl b) (Nat.pow_dvd_pow b (show 1 ≤ D by omega)))
  have d4 : q ∣ b ^ D - (b ^ D - 1) := Nat.dvd_sub d3 d2
  rw [show b ^ D - (b ^ D - 1) = 1 by omega] at d4
  have := Nat.le_of_dvd (by decide) d4
  omega
theorem pw_ten (m : Int) : pw 10 m = pw 2 m * pw 5 m := by
  have nn : ∀ n : Nat, pw 10 (n : Int) = pw 2 n * pw 5 n := fun n => by
    rw [pw_nat, pw_nat, pw_nat, ← Rat.natCast_mul, ← Nat.mul_pow]
  by_cases h : m < 0
  · obtain ⟨n, rfl⟩ : ∃ n : Nat, m = -(n : Int) := ⟨(-m).toNat, by omega⟩
    have e : ∀ c : Nat, 2 ≤ c → pw c (-(n : Int)) * pw c (n : Int) = 1 := fun c hc => by rw [← pw_add hc, show -(n : Int) + (n : Int) = 0 by omega, pw_zero]
    have e1 := e 10 (by decide)
    have e2 := e 2 (by decide)
    have e3 := e 5 (by decide)
    rw [nn] at e1
    calc pw 10 (-(n : Int)) = pw 10 (-(n : Int)) * ((pw 2 (-(n : Int)) * pw 2 (n : Int)) * (pw 5 (-(n : Int)) * pw 5 (n : Int))) := by rw [e2, e3]; grind
      _ = (pw 10 (-(n : Int)) * (pw 2 (n : Int) * pw 5 (n : Int))) * (pw 2 (-(n : Int)) * pw 5 (-(n : Int))) := by grind
      _ = _ := by rw [e1]; grind
  · obtain ⟨n, rfl⟩ : ∃ n : Nat, m = (n : Int) := ⟨m.toNat, by omega⟩
    exact nn n
theorem dec_in {D P r : Nat} {hi l' h' : Int} (F : Fm 2 D (-(r : Int)) hi) (F' : Fm 10 P l' h') (hr : hi ≤ r) (h1 : l' ≤ -(r : Int)) (h2 : 0 ≤ h') :
    lostV 2 D (-(r : Int)) hi 10 P l' h' = none ↔ 5 ^ r * (2 ^ D - 1) < 10 ^ P := by
  rw [isin_iff F F']
  have p2 := F.p2
  have m4 : 2 ^ 2 ≤ 2 ^ D := Nat.pow_le_pow_right (by decide) p2
  constructor
  · intro h
    obtain ⟨m, k, a1, a2, a3, a4, a5⟩ := h (-(r : Int)) (Int.le_refl _) F.lh _ (.inl rfl)
    obtain ⟨S, hS, hSr⟩ : ∃ S : Nat, -m ≤ (S : Int) ∧ r ≤ S := ⟨(-m).toNat + r, by omega, by omega⟩
    have e2 : ((((2 ^ D : Nat) : Int) - 1 : Int) : Rat) * (((2 ^ (S - r) : Nat) : Rat) * ((5 ^ S : Nat) : Rat)) = (k : Rat) * (((2 ^ (m + S).toNat : Nat) : Rat) * ((5 ^ (m + S).toNat : Nat) : Rat)) := by
      have q1 : pw 2 (-(r : Int)) * pw 10 (S : Int) = ((2 ^ (S - r) : Nat) : Rat) * ((5 ^ S : Nat) : Rat) := by
        rw [pw_ten, ← Rat.mul_assoc, ← pw_add (by decide), show -(r : Int) + (S : Int) = ((S - r : Nat) : Int) by omega, pw_nat, pw_nat]
      have q2 : pw 10 m * pw 10 (S : Int) = ((2 ^ (m + S).toNat : Nat) : Rat) * ((5 ^ (m + S).toNat : Nat) : Rat) := by
        rw [← pw_add (by decide), pw_ten, pw_of (by omega), pw_of (by omega)]
      rw [← q1, ← q2, ← Rat.mul_assoc, a3, Rat.mul_assoc]
    have pb : 1 ≤ 2 ^ D := Nat.pow_pos (by decide)
    obtain ⟨kn, rfl⟩ : ∃ kn : Nat, k = (kn : Int) := ⟨k.toNat, by omega⟩
    have e4 : (2 ^ D - 1) * (2 ^ (S - r) * 5 ^ S) = kn * (2 ^ (m + S).toNat * 5 ^ (m + S).toNat) := by
      have c : (((2 ^ D : Nat) : Int) - 1) = ((2 ^ D - 1 : Nat) : Int) := by omega
      rw [c, Rat.intCast_natCast, Rat.intCast_natCast, ← Rat.natCast_mul, ← Rat.natCast_mul, ← Rat.natCast_mul, ← Rat.natCast_mul] at e2
      exact Rat.natCast_inj.mp e2
    have oddM : ¬ 2 ∣ 2 ^ D - 1 := by
      have : 2 ∣ 2 ^ D := Nat.dvd_trans (by decide) (Nat.pow_dvd_pow 2 (show 1 ≤ D by omega))
      omega
    have c25 : Nat.Coprime 2 (5 ^ S) := Nat.Coprime.pow_right S (by decide)
    by_cases hm : m ≤ -(r : Int)
    · obtain ⟨u, hu⟩ : ∃ u : Nat, (m + S).toNat + u + r = S := ⟨S - r - (m + S).toNat, by omega⟩
      have e5 : kn = (2 ^ D - 1) * (2 ^ u * (5 ^ u * 5 ^ r)) := by
        have t1 : 2 ^ (S - r) = 2 ^ (m + S).toNat * 2 ^ u := by rw [← Nat.pow_add]; exact congrArg (2 ^ ·) (by omega)
        have t2 : 5 ^ S = 5 ^ (m + S).toNat * (5 ^ u * 5 ^ r) := by rw [← Nat.pow_add, ← Nat.pow_add]; exact congrArg (5 ^ ·) (by omega)
        rw [t1, t2] at e4
        have pp : 0 < 2 ^ (m + S).toNat * 5 ^ (m + S).toNat := Nat.mul_pos (Nat.pow_pos (by decide)) (Nat.pow_pos (by decide))
        refine Nat.eq_of_mul_eq_mul_right pp ?_
        rw [← e4]
        simp only [Nat.mul_assoc, Nat.mul_left_comm, Nat.mul_comm]
      have e6 : 5 ^ r * (2 ^ D - 1) ≤ kn := by
        rw [e5, Nat.mul_comm]
        refine Nat.mul_le_mul_left _ ?_
        have x1 : 1 ≤ 2 ^ u := Nat.pow_pos (by decide)
        have x2 : 1 ≤ 5 ^ u := Nat.pow_pos (by decide)
        calc 5 ^ r = 1 * (1 * 5 ^ r) := by rw [Nat.one_mul, Nat.one_mul]
          _ ≤ 2 ^ u * (5 ^ u * 5 ^ r) := Nat.mul_le_mul x1 (Nat.mul_le_mul_right _ x2)
      omega
    · exfalso
      obtain ⟨u, hu⟩ : ∃ u : Nat, (m + S).toNat = S - r + (u + 1) := ⟨(m + S).toNat - (S - r) - 1, by omega⟩
      have t1 : 2 ^ (m + S).toNat = 2 ^ (S - r) * (2 ^ u * 2) := by rw [hu, Nat.pow_add, Nat.pow_succ]
      rw [t1] at e4
      have pp : 0 < 2 ^ (S - r) := Nat.pow_pos (by decide)
      have e5 : (2 ^ D - 1) * 5 ^ S = 2 * (kn * (2 ^ u * 5 ^ (m + S).toNat)) := by
        refine Nat.eq_of_mul_eq_mul_right pp ?_
        have x : (2 ^ D - 1) * 5 ^ S * 2 ^ (S - r) = (2 ^ D - 1) * (2 ^ (S - r) * 5 ^ S) := by simp only [Nat.mul_assoc, Nat.mul_left_comm, Nat.mul_comm]
        rw [x, e4]
        simp only [Nat.mul_assoc, Nat.mul_left_comm, Nat.mul_comm]
      exact oddM (Nat.Coprime.dvd_of_dvd_mul_right c25 ⟨_, e5⟩)
  · intro h e h3 h4 N hN
    have pb : 1 ≤ 2 ^ D := Nat.pow_pos (by decide)
    have n0 : 0 ≤ N := by omega
    obtain ⟨n, rfl⟩ : ∃ n : Nat, N = (n : Int) := ⟨N.toNat, by omega⟩
    have hn : n ≤ 2 ^ D - 1 := by omega
    by_cases he : e < 0
    · obtain ⟨t, rfl⟩ : ∃ t : Nat, e = -(t : Int) := ⟨(-e).toNat, by omega⟩
      refine ⟨-(t : Int), ((n * 5 ^ t : Nat) : Int), by omega, by omega, ?_, Int.natCast_nonneg _, ?_⟩
      · rw [pw_ten, Int.natCast_mul, Rat.intCast_mul, Rat.intCast_natCast (5 ^ t)]
        have e0 : ((5 ^ t : Nat) : Rat) * pw 5 (-(t : Int)) = 1 := by rw [← pw_nat, ← pw_add (by decide), show (t : Int) + -(t : Int) = 0 by omega, pw_zero]
        calc ((n : Int) : Rat) * pw 2 (-(t : Int)) = ((n : Int) : Rat) * pw 2 (-(t : Int)) * (((5 ^ t : Nat) : Rat) * pw 5 (-(t : Int))) := by rw [e0]; grind
          _ = _ := by grind
      · have x1 : 5 ^ t ≤ 5 ^ r := Nat.pow_le_pow_right (by decide) (by omega)
        have x2 : n * 5 ^ t ≤ (2 ^ D - 1) * 5 ^ r := Nat.mul_le_mul hn x1
        rw [Nat.mul_comm] at h
        exact Int.ofNat_lt.mpr (Nat.lt_of_le_of_lt x2 h)
    · obtain ⟨t, rfl⟩ : ∃ t : Nat, e = (t : Int) := ⟨e.toNat, by omega⟩
      refine ⟨0, ((n * 2 ^ t : Nat) : Int), by omega, h2, ?_, Int.natCast_nonneg _, ?_⟩
      · rw [pw_zero, pw_nat, Int.natCast_mul, Rat.intCast_mul, Rat.intCast_natCast (2 ^ t), Rat.mul_one]
      · have x1 : 2 ^ t ≤ 5 ^ r := Nat.le_trans (Nat.pow_le_pow_left (by decide) t) (Nat.pow_le_pow_right (by decide) (by omega))
        have x2 : n * 2 ^ t ≤ (2 ^ D - 1) * 5 ^ r := Nat.mul_le_mul hn x1
        rw [Nat.mul_comm] at h
        exact Int.ofNat_lt.mpr (Nat.lt_of_le_of_lt x2 h)
end Lw
namespace Gd
open PySem PySem.Spec PyProof.Rows L2
section
variable {X : Cx} {Γ : List VD} {B B1 B2 : Bag} {e c elt : Expr} {scope : Scope} {acc : List PyData} {pos pos' : Pos} {rest : List Stmt} {E : En} {d : VD}
end
end Gd
set_option exponentiation.threshold 20000
namespace Lw
open PySem PySem.Spec PyProof.Rows L2 Gd Fr
open scoped Rat
end Lw
namespace Lw
open PySem PySem.Spec PyProof.Rows L2 Gd Fr
open scoped Rat
end Lw
namespace Gd
open PySem PySem.Spec PyProof.Rows L2
section
variable {X : Cx} {Γ : List VD} {B B1 B2 : Bag} {e c elt : Expr} {scope : Scope} {acc : List PyData} {pos pos' : Pos} {rest : List Stmt} {E : En} {d : VD} {Φ : Post}
end
end Gd
set_option exponentiation.threshold 20000
namespace Lw
open PySem PySem.Spec PyProof.Rows L2 Gd Fr
open scoped Rat
end Lw
set_option exponentiation.threshold 20000
namespace Lw
open PySem PySem.Spec PyProof.Rows L2 Gd Fr
open scoped Rat
def Fl (fl : List Str) : Prop := fl = [] ∨ fl = (["invalid"] : List Str) ∨ fl = (["inexact", "over"] : List Str) ∨ fl = (["inexact", "tiny"] : List Str) ∨ fl = (["inexact"] : List Str)
theorem Fl.sh {fl : List Str} (h : Fl fl) : SeqAt.shaped (words fl) = true := by
  rcases h with rfl | rfl | rfl | rfl | rfl <;> decide +kernel
theorem Fl.eqv {fl : List Str} (h : Fl fl) : PyData.eqv (words fl) (.tuple []) = decide (fl = []) := by
  rcases h with rfl | rfl | rfl | rfl | rfl <;> rfl
end Lw
namespace Gd
open PySem PySem.Spec PyProof.Rows L2
section
variable {prog : Program} {w : World} {A : Around} {E : Value → Shared → Prop} {s : Shared}
end
section
variable {X : Cx} {Γ : List VD} {B B1 B2 : Bag} {a b c e : Expr} {pos p pos' : Pos} {rest s1 : List Stmt} {E : En}
end
end Gd
namespace Gd
open PySem PySem.Spec PyProof.Rows L2
section
variable {X : Cx} {Γ : List VD} {B B1 B2 B3 B' : Bag} {e a b c : Expr} {es : List Expr} {d da db dc : VD} {pos p pos' apos p1 p2 p3 : Pos} {rest ss s1 s2 : List Stmt} {E : En}
end
end Gd
set_option exponentiation.threshold 20000
namespace Lw
open PySem PySem.Spec PyProof.Rows L2 Gd Fr
open scoped Rat
inductive Sp where
  | none
  | span (u v : Va)
def Sp.d : Sp → PyData
  | .none => .tuple [.str "none"]
  | .span u v => .tuple [.str "span", u.d, v.d]
def Sp.ok (b p : Nat) (low high : Int) : Sp → Prop
  | .none => True
  | .span u v => (Vcan b p low high u ∧ u.isNan = false) ∧ Vcan b p low high v ∧ v.isNan = false
def apI (b p : Nat) (low high : Int) : Sp → Int
  | .none => 0
  | .span u v => rkI b p low high v - rkI b p low high u
inductive Wd (b p : Nat) (low high : Int) (L : List Sp) : PyData → Prop
  | none (h : ∀ s ∈ L, apI b p low high s < 2) : Wd b p low high L .none
  | some (i : Nat) (x : Sp) (hi : L[i]? = .some x) (h2 : 2 ≤ apI b p low high x) (h3 : ∀ s ∈ L, apI b p low high s ≤ apI b p low high x) (h4 : ∀ j y, j < i → L[j]? = .some y → apI b p low high y < apI b p low high x) : Wd b p low high L (.int (i : Nat))
theorem Wd.one {b p : Nat} {low high : Int} {L : List Sp} {d e : PyData} (h : Wd b p low high L d) (h' : Wd b p low high L e) : d = e := by
  cases h with
  | none h =>
    cases h' with
    | none _ => rfl
    | some i x hi h2 _ _ => have := h x (List.mem_of_getElem? hi); omega
  | some i x hi h2 h3 h4 =>
    cases h' with
    | none h => have := h x (List.mem_of_getElem? hi); omega
    | some j y hj g2 g3 g4 =>
      have a1 := h3 y (List.mem_of_getElem? hj)
      have a2 := g3 x (List.mem_of_getElem? hi)
      rcases Nat.lt_trichotomy i j with z | z | z
      · have := g4 i x z hi; omega
      · rw [z]
      · have := h4 j y z hj; omega
noncomputable def wdP (b p : Nat) (low high : Int) (L : List Sp) : PyData := by
  classical exact if h : ∃ d, Wd b p low high L d then h.choose else .none
theorem Wd.is {b p : Nat} {low high : Int} {L : List Sp} {d : PyData} (h : Wd b p low high L d) : wdP b p low high L = d := by
  have hx : ∃ d, Wd b p low high L d := ⟨d, h⟩
  unfold wdP
  rw [dif_pos hx]
  exact hx.choose_spec.one h
theorem pick_ex {α : Type} (xs : List α) (f : α → PyData) (B : Bag) (h : 0 < xs.length) : ∃ x ∈ xs, pick (xs.map f) B = f x := by
  have h0 := tkV_ge B (m := (xs.map f).length) (by rw [List.length_map]; omega)
  have h1 := tkV_lt B (m := (xs.map f).length) (by rw [List.length_map]; omega)
  have hlt : (tkV B (xs.map f).length).toNat < xs.length := by rw [List.length_map] at h1 ⊢; rw [List.length_map] at h0; omega
  refine ⟨xs[(tkV B (xs.map f).length).toNat], List.getElem_mem hlt, ?_⟩
  unfold pick
  rw [List.getD_eq_getElem?_getD, List.getElem?_map, List.getElem?_eq_getElem hlt]
  rfl
end Lw
namespace PySem
end PySem
namespace Gd
open PySem PySem.Spec PyProof.Rows L2
end Gd
namespace Gd
open PySem PySem.Spec PyProof.Rows L2
end Gd
namespace Gd
open PySem PySem.Spec PyProof.Rows L2
section
variable {X : Cx} {Γ : List VD} {B B1 : Bag} {a : Expr} {p p' kp pos : Pos}
end
end Gd
set_option exponentiation.threshold 20000
namespace Lw
open PySem PySem.Spec PyProof.Rows L2 Gd Fr
open scoped Rat
def plT : Va → Int × Int × Int
  | .nan => (2, 0, 0)
  | .inf s => if s = 0 then (1, 0, 0) else (-2, 0, 0)
  | .num s c e => if s = 0 then (0, e, c) else (-1, -e, -c)
def t3 (x : Int × Int × Int) : PyData := .tuple [.int x.1, .int x.2.1, .int x.2.2]
end Lw
set_option exponentiation.threshold 20000
namespace Lw
open PySem PySem.Spec PyProof.Rows L2 Gd Fr
open scoped Rat
section
variable {b p : Nat} {low high : Int} (F : Fm b p low high)
include F
end
section
variable {b p : Nat} {low high : Int} (F : Fm b p low high)
include F
end
end Lw
set_option exponentiation.threshold 20000
namespace Gd
open PySem PySem.Spec PyProof.Rows L2
section
variable {X : Cx} {Γ : List VD} {B B1 B2 B' : Bag} {e a b c : Expr} {pos : Pos}
end
end Gd
set_option exponentiation.threshold 20000
namespace Lw
open PySem PySem.Spec PyProof.Rows L2 Gd Fr
open scoped Rat
def lex3 (x y : Int × Int × Int) : Prop := x.1 < y.1 ∨ (x.1 = y.1 ∧ (x.2.1 < y.2.1 ∨ (x.2.1 = y.2.1 ∧ x.2.2 < y.2.2)))
instance (x y : Int × Int × Int) : Decidable (lex3 x y) := by unfold lex3; infer_instance
theorem lex3_asym {x y : Int × Int × Int} (h : lex3 x y) : ¬ lex3 y x := by unfold lex3 at *; omega
section
variable {b p : Nat} {low high : Int} (F : Fm b p low high)
include F
end
section
variable {b p : Nat} {low high : Int} (F : Fm b p low high)
include F
end
end Lw
namespace Lw
open PySem PySem.Spec PyProof.Rows L2 Gd Fr
end Lw
namespace Lw
open PySem PySem.Spec PyProof.Rows L2 Gd Fr
end Lw
namespace Lw
open PySem PySem.Spec PyProof.Rows L2 Gd Fr
end Lw
namespace Lw
open PySem PySem.Spec PyProof.Rows L2 Gd Fr
open scoped Rat
end Lw
namespace Lw
open PySem PySem.Spec PyProof.Rows L2 Gd Fr
open scoped Rat
end Lw
namespace Lw
open PySem PySem.Spec PyProof.Rows L2 Gd Fr
end Lw
set_option exponentiation.threshold 20000
namespace Gd
open PySem PySem.Spec PyProof.Rows L2
section
variable {X : Cx} {Γ : List VD} {B B1 B2 B' : Bag} {e a b c : Expr} {pos p : Pos}
end
end Gd
set_option exponentiation.threshold 20000
namespace Lw
open PySem PySem.Spec PyProof.Rows L2 Gd Fr
open scoped Rat
section
variable {b p : Nat} (h2 : 2 ≤ b)
include h2
end
section
variable {b p : Nat} (h2 : 2 ≤ b)
include h2
end
end Lw
set_option exponentiation.threshold 20000
namespace Lw
open PySem PySem.Spec PyProof.Rows L2 Gd Fr
open scoped Rat
structure RtOk (b : Nat) (low : Int) (q : Rat) (n d : Nat) : Prop where
  h0 : 0 < q
  hq : Qz n d q
  hn : n ≤ 8800
  hd : d ≤ 8800
  hL : q.den * b ^ (2 * low).toNat < 2 ^ 8800
section
variable {b p : Nat} {low high : Int} (F : Fm b p low high)
include F
end
end Lw
set_option exponentiation.threshold 20000
namespace Lw
open PySem PySem.Spec PyProof.Rows L2 Gd Fr
open scoped Rat
section
variable {b : Nat} (h2 : 2 ≤ b)
include h2
end
end Lw
set_option exponentiation.threshold 20000
namespace Lw
open PySem PySem.Spec PyProof.Rows L2 Gd Fr
open scoped Rat
section
variable {b p : Nat} {low high : Int} (F : Fm b p low high)
include F
end
section
variable (b p : Nat) (low high : Int)
end
end Lw
set_option exponentiation.threshold 20000
namespace Gd
open PySem PySem.Spec PyProof.Rows L2
section
variable {X : Cx} {Γ : List VD} {B B1 B2 B' : Bag} {e a b c : Expr} {pos p : Pos} {rest s1 : List Stmt} {E : En} {Φ : Post}
end
end Gd
set_option exponentiation.threshold 20000
namespace Lw
open PySem PySem.Spec PyProof.Rows L2 Gd Fr
open scoped Rat
end Lw
namespace Lw
open PySem PySem.Spec PyProof.Rows L2 Gd Fr
open scoped Rat
end Lw
namespace Lw
open PySem PySem.Spec PyProof.Rows L2 Gd Fr
open scoped Rat
end Lw
set_option exponentiation.threshold 20000
namespace Lw
open PySem PySem.Spec PyProof.Rows L2 Gd Fr
open scoped Rat
structure Sz (b p : Nat) (low high : Int) (P H J : Nat) : Prop where
  hP : b ^ p < 2 ^ P
  hH : b ^ high.toNat < 2 ^ H
  hL : b ^ (-low).toNat < 2 ^ J
  pj : P + H ≤ J
  p1 : 1 ≤ P
  h1 : 1 ≤ H
section
variable {b p : Nat} {low high : Int} {P H J : Nat} (F : Fm b p low high) (Z : Sz b p low high P H J)
include F Z
theorem Sz.pw {e : Int} (h : low ≤ e) (h' : e ≤ high) : Qz H J (pw b e) := by
  have b2 := F.b2
  refine pw_bd b2 ?_ ?_ Z.h1 (by have := Z.pj; have := Z.p1; omega)
  · exact Nat.lt_of_le_of_lt (Nat.pow_le_pow_right (by omega) (by omega)) Z.hH
  · exact Nat.lt_of_le_of_lt (Nat.pow_le_pow_right (by omega) (by omega)) Z.hL
theorem Sz.c {c : Int} (h0 : 0 ≤ c) (h1 : c < ((b ^ p : Nat) : Int)) : Qz P 1 (c : Rat) := by
  have := Z.hP
  exact ⟨by rw [Rat.num_intCast]; unfold Bd; omega, by rw [Rat.den_intCast]; unfold Bd; decide⟩
theorem Sz.half {q : Rat} (h0 : 0 ≤ q) (hq : Qz (J + 540) (J + 540) q) : Qz (P + 2 + (J + 540)) (2 + J) (((2 * cQ b (eQ b p low q) q + 1 : Int) : Rat) / 2 * Lw.pw b (eQ b p low q)) := by
  have b2 := F.b2
  have pj := Z.pj; have p1 := Z.p1; have z1 := Z.h1
  have hE := eQ_is (p := p) b2 low q
  have c0 := c_ge b2 h0 (eQ b p low q)
  have c1 := c_lt b2 hE
  have ebd := F.e_bd hq h0 hE
  have el := hE.1
  generalize eQ b p low q = e at *
  have hu : Qz (J + 540) J (Lw.pw b e) := by
    refine pw_bd b2 ?_ ?_ (by omega) (by omega)
    · have h3 : 2 ^ H ≤ 2 ^ (J + 540) := Nat.pow_le_pow_right (by decide) (by omega)
      rcases ebd with ⟨h, _, _⟩ | h | h
      · exact Nat.lt_of_le_of_lt (Nat.le_mul_of_pos_left _ q.den_pos) h
      · have : e.toNat = 0 := by omega
        rw [this, Nat.pow_zero]; exact Nat.one_lt_two_pow (by omega)
      · have h5 : b ^ e.toNat ≤ b ^ high.toNat := Nat.pow_le_pow_right (by omega) (by have := F.lh; omega)
        have := Z.hH
        omega
    · exact Nat.lt_of_le_of_lt (Nat.pow_le_pow_right (by omega) (by omega)) Z.hL
  have hc : Qz (P + 2) 1 ((2 * cQ b e q + 1 : Int) : Rat) := by
    have := Z.hP
    have e4 : 2 ^ (P + 2) = 2 ^ P * 4 := by rw [Nat.pow_add]
    exact ⟨by rw [Rat.num_intCast]; unfold Bd; omega, by rw [Rat.den_intCast]; unfold Bd; decide⟩
  have h2 : Qz 2 1 (2 : Rat) := ⟨by unfold Bd; decide, by unfold Bd; decide⟩
  have h2' : Qz (P + 2) 2 (((2 * cQ b e q + 1 : Int) : Rat) / 2) := by
    rw [Rat.div_def]
    have hi : Qz 1 2 ((2 : Rat)⁻¹) := ⟨by unfold Bd; decide +kernel, by unfold Bd; decide +kernel⟩
    have e1 : ((2 * cQ b e q + 1 : Int) : Rat) * (2 : Rat)⁻¹ = (2 * cQ b e q + 1) /. 2 := by rw [← Rat.div_def, Rat.divInt_eq_div]; rfl
    rw [e1]
    have hn : Bd (P + 2) (2 * cQ b e q + 1) := by have := hc.nu; rwa [Rat.num_intCast] at this
    obtain ⟨z1, z2⟩ := divInt_bd (n := 2 * cQ b e q + 1) (d := 2) (by decide) hn (b := 2) (by unfold Bd; decide)
    exact ⟨z1, z2⟩
  exact (h2'.mul hu).le (by omega) (by omega)
end
end Lw
set_option exponentiation.threshold 20000
namespace Gd
open PySem PySem.Spec PyProof.Rows L2
section
variable {X : Cx} {Γ : List VD} {B B1 B2 B' : Bag} {e a b c : Expr} {pos : Pos}
end
end Gd
set_option exponentiation.threshold 20000
namespace Lw
open PySem PySem.Spec PyProof.Rows L2 Gd Fr
open scoped Rat
section
variable {X : Cx} {Γ : List VD} {B B1 B2 B' : Bag} {e a b c : Expr} {pos : Pos} {x y : Int × Int × Int}
end
def plc (v : Va) : Prop := v.isZ = true → v.sg = 0
def Sp.gd (b : Nat) : Sp → Prop
  | .none => True
  | .span u v => plc u ∧ plc v ∧ u ≠ .inf 0 ∧ v ≠ .inf 1 ∧ ¬ lex3 (plT v) (plT u)
def Sp.ok2 (b p : Nat) (low high : Int) (s : Sp) : Prop := s.ok b p low high ∧ s.gd b
end Lw
namespace Lw
open PySem PySem.Spec PyProof.Rows L2 Gd Fr
open scoped Rat
def liesB : Sp → Sp → Bool
  | .none, _ => true
  | _, .none => false
  | .span a b, .span c d => !decide (lex3 (plT a) (plT c)) && !decide (lex3 (plT d) (plT b))
section
variable {b p : Nat} {low high : Int} (F : Fm b p low high)
theorem Sp.u2 {u v : Va} (h : (Sp.span u v).ok2 b p low high) : Vcan b p low high u ∧ u.isNan = false ∧ plc u := ⟨h.1.1.1, h.1.1.2, h.2.1⟩
theorem Sp.v2 {u v : Va} (h : (Sp.span u v).ok2 b p low high) : Vcan b p low high v ∧ v.isNan = false ∧ plc v := ⟨h.1.2.1, h.1.2.2, h.2.2.1⟩
include F
omit F in
theorem lex3_trans {x y z : Int × Int × Int} (h1 : ¬ lex3 y x) (h2 : ¬ lex3 z y) : ¬ lex3 z x := by unfold lex3 at *; omega
end
section
variable {b p : Nat} {low high : Int} (F : Fm b p low high)
include F
end
end Lw
set_option exponentiation.threshold 20000
namespace Lw
open PySem PySem.Spec PyProof.Rows L2 Gd Fr
open scoped Rat
section
variable {b p : Nat} {low high : Int} (F : Fm b p low high)
include F
end
end Lw
namespace Lw
open PySem PySem.Spec PyProof.Rows L2 Gd Fr
open scoped Rat
end Lw
set_option exponentiation.threshold 20000
namespace Lw
open PySem PySem.Spec PyProof.Rows L2 Gd Fr
open scoped Rat
theorem lex_irr (x : Int × Int × Int) : ¬ lex3 x x := fun h => lex3_asym h h
def Cm (N k : Nat) (x : Rat) : Prop := ∃ m : Int, x * ((N : Int) : Rat) = (m : Rat) ∧ Bd k m
theorem Cm.add {N k j : Nat} {x y : Rat} (h : Cm N k x) (h' : Cm N j y) : Cm N (k + j + 1) (x + y) := by
  obtain ⟨m, e, b⟩ := h
  obtain ⟨m', e', b'⟩ := h'
  exact ⟨m + m', by rw [Rat.intCast_add, ← e, ← e']; grind, b.add b'⟩
theorem Cm.neg {N k : Nat} {x : Rat} (h : Cm N k x) : Cm N k (-x) := by
  obtain ⟨m, e, b⟩ := h
  exact ⟨-m, by rw [Rat.intCast_neg, ← e]; grind, b.neg⟩
theorem Cm.le {N k j : Nat} {x : Rat} (h : Cm N k x) (e : k ≤ j) : Cm N j x := by
  obtain ⟨m, e1, b⟩ := h
  exact ⟨m, e1, b.le e⟩
theorem Cm.qz {N k d : Nat} {x : Rat} (h : Cm N k x) (hN : 0 < N) (hd : N < 2 ^ d) : Qz k d x := by
  obtain ⟨m, e, b⟩ := h
  rw [Rat.intCast_natCast] at e
  have h1 := den_le hN e
  refine ⟨?_, Bd.nat (Nat.lt_of_le_of_lt h1 hd)⟩
  have e2 : x.num * (N : Int) = m * (x.den : Int) := by
    rw [← Rat.intCast_inj, Rat.intCast_mul, Rat.intCast_mul, ← e, ← num_den x, Rat.intCast_natCast, Rat.intCast_natCast]; grind
  have e3 : x.num.natAbs * N = m.natAbs * x.den := by
    have := congrArg Int.natAbs e2
    rwa [Int.natAbs_mul, Int.natAbs_mul, Int.natAbs_natCast, Int.natAbs_natCast] at this
  have h3 : m.natAbs * x.den ≤ m.natAbs * N := Nat.mul_le_mul_left _ h1
  have h4 : x.num.natAbs ≤ m.natAbs := by
    rw [← e3] at h3
    exact Nat.le_of_mul_le_mul_right h3 hN
  unfold Bd at *
  omega
end Lw
set_option exponentiation.threshold 20000
namespace Gd
open PySem PySem.Spec PyProof.Rows L2
section
variable {X : Cx} {Γ : List VD} {B B1 B2 B' : Bag} {e a b c : Expr} {pos p : Pos} {Φ : Post}
end
end Gd
set_option exponentiation.threshold 20000
namespace Lw
open PySem PySem.Spec PyProof.Rows L2 Gd Fr
open scoped Rat
section
variable {b p : Nat} {low high : Int} (F : Fm b p low high)
include F
end
end Lw
set_option exponentiation.threshold 20000
namespace Lw
open PySem PySem.Spec PyProof.Rows L2 Gd Fr
open scoped Rat
inductive Xe | lo | hi | q (r : Rat)
deriving DecidableEq
namespace Xe
def d : Xe → PyData
  | .lo => .tuple [.int (-1), .int 0]
  | .hi => .tuple [.int 1, .int 0]
  | .q r => fq r
def n : Xe → Int
  | .lo => -1
  | .hi => 1
  | .q r => r.num
def e : Xe → Int
  | .q r => (r.den : Int)
  | _ => 0
theorem pair (x : Xe) : x.d = .tuple [.int x.n, .int x.e] := by cases x <;> rfl
def bd (n d : Nat) : Xe → Prop
  | .q r => Qz n d r
  | _ => True
def lt : Xe → Xe → Bool
  | .q a, .q b => decide (a < b)
  | .lo, .lo => false
  | .lo, _ => true
  | .q _, .hi => true
  | _, _ => false
def add : Xe → Xe → Xe
  | .q a, .q b => .q (a + b)
  | .q _, y => y
  | x, _ => x
def neg : Xe → Xe
  | .lo => .hi
  | .hi => .lo
  | .q a => .q (-a)
def mul (x y : Xe) : Xe :=
  if x.n = 0 ∨ y.n = 0 then .q 0 else match x, y with
    | .q a, .q b => .q (a * b)
    | _, _ => if decide (0 < x.n) = decide (0 < y.n) then .hi else .lo
def min (x y : Xe) : Xe := if y.lt x = true then y else x
def max (x y : Xe) : Xe := if x.lt y = true then y else x
theorem eqs (x y : Xe) : (decide (x.n = y.n) && decide (x.e = y.e)) = true ↔ x = y := by
  rw [Bool.and_eq_true, decide_eq_true_eq, decide_eq_true_eq]
  refine ⟨fun ⟨h1, h2⟩ => ?_, fun h => by rw [h]; exact ⟨rfl, rfl⟩⟩
  cases x with
  | q a =>
    have da : ¬ (a.den : Int) = 0 := den_ne a
    cases y with
    | q b =>
      have h1 : a.num = b.num := h1
      have h2 : (a.den : Int) = (b.den : Int) := h2
      congr 1
      exact Rat.ext h1 (by omega)
    | lo => exact absurd h2 da
    | hi => exact absurd h2 da
  | lo =>
    cases y with
    | q b => exact absurd h2.symm (den_ne b)
    | lo => rfl
    | hi => exact absurd h1 (by decide)
  | hi =>
    cases y with
    | q b => exact absurd h2.symm (den_ne b)
    | hi => rfl
    | lo => exact absurd h1 (by decide)
theorem eqv (x y : Xe) : PyData.eqv x.d y.d = true ↔ x = y := by rw [pair x, pair y, eqv_ii]; exact eqs x y
theorem irr (x : Xe) : x.lt x = false := by
  cases x with
  | q a => exact decide_eq_false (by grind)
  | _ => rfl
theorem asym {x y : Xe} (h : x.lt y = true) : y.lt x = false := by
  cases x <;> cases y <;> simp_all [lt] <;> grind
theorem tot {x y : Xe} (h : x.lt y = false) (h2 : y.lt x = false) : x = y := by
  cases x <;> cases y <;> simp_all [lt] <;> grind
theorem trans {x y z : Xe} (h : x.lt y = true) (h2 : y.lt z = true) : x.lt z = true := by
  cases x <;> cases y <;> cases z <;> simp_all [lt] <;> grind
def of (b : Nat) : Va → Xe
  | .inf s => if s = 0 then .hi else .lo
  | v => .q (v.wQ b)
theorem sh (x : Xe) : SeqAt.shaped x.d = true := by rw [pair]; exact shaped_ii _ _
end Xe
end Lw
namespace Gd
open PySem PySem.Spec PyProof.Rows L2
section
variable {X : Cx} {Γ : List VD} {B B1 : Bag} {e e1 elt : Expr} {scope : Scope} {pos pos' : Pos} {rest : List Stmt} {E : En} {d : VD}
end
end Gd
namespace Gd
open PySem PySem.Spec PyProof.Rows L2
section
variable {X : Cx} {Γ : List VD} {B B1 B2 : Bag} {e : Expr} {es : List Expr} {p pos : Pos}
end
end Gd
set_option exponentiation.threshold 20000
namespace Lw
open PySem PySem.Spec PyProof.Rows L2 Gd Fr
open scoped Rat
namespace Xe
theorem neg_lt (x y : Xe) : x.neg.lt y.neg = y.lt x := by
  cases x <;> cases y <;> simp [neg, lt] <;> grind
def cm (N k : Nat) : Xe → Prop
  | .q r => Cm N k r
  | _ => True
end Xe
structure Rok (N : Nat) (a : Xe × Xe) : Prop where
  b1 : a.1.bd 3040 2341
  b2 : a.2.bd 3040 2341
  c1 : a.1.cm N 5380
  c2 : a.2.cm N 5380
  l1 : a.1 ≠ .hi
  l2 : a.2 ≠ .lo
  le : a.2.lt a.1 = false
end Lw
namespace Gd
open PySem PySem.Spec PyProof.Rows L2
section
variable {X : Cx} {Γ : List VD} {B B1 B2 : Bag} {i f : Expr}
end
end Gd
set_option exponentiation.threshold 20000
namespace Lw
open PySem PySem.Spec PyProof.Rows L2 Gd Fr
open scoped Rat
def opMany (w : Str) : Nat := if ("fused" : Str) = w then 3 else if ("opposite" : Str) = w then 1 else if ("size" : Str) = w then 1 else 2
theorem op_le (w : Str) : 1 ≤ opMany w ∧ opMany w ≤ 3 := by
  unfold opMany
  split
  · exact ⟨by decide, by decide⟩
  · split
    · exact ⟨by decide, by decide⟩
    · split <;> exact ⟨by decide, by decide⟩
section
variable {b p : Nat} {low high : Int} (F : Fm b p low high)
include F
end
end Lw
set_option exponentiation.threshold 20000
namespace Lw
open PySem PySem.Spec PyProof.Rows L2 Gd Fr
open scoped Rat
namespace Xe
theorem le_cases {x y : Xe} (h : y.lt x = false) : x = y ∨ x.lt y = true := by
  cases c : x.lt y with
  | true => exact .inr rfl
  | false => exact .inl (tot c h)
theorem le_trans {x y z : Xe} (h : y.lt x = false) (h2 : z.lt y = false) : z.lt x = false := by
  rcases le_cases h with rfl | a
  · exact h2
  · rcases le_cases h2 with rfl | b
    · exact h
    · exact asym (trans a b)
end Xe
section
variable {b p : Nat} {low high : Int} (F : Fm b p low high)
include F
end
section
variable {b p : Nat} {low high : Int} (F : Fm b p low high)
include F
end
end Lw
namespace Gd
open PySem PySem.Spec PyProof.Rows L2
section
variable {X : Cx} {i : Nat} {Γ : List VD} {B B1 B2 B' : Bag} {acc ds ys : List PyData} {e a b c : Expr} {es : List Expr} {d da db : VD} {y : PyData} {pos p p1 p2 p3 pos' : Pos} {rest ss s1 s2 : List Stmt} {E : EnO} {Es : En}
end
end Gd
set_option exponentiation.threshold 20000
namespace Lw
open PySem PySem.Spec PyProof.Rows L2 Gd Fr
open scoped Rat
section
variable {b p : Nat} {low high : Int} (F : Fm b p low high)
include F
end
def Xe.rt (b : Nat) (low : Int) (x : Xe) : Prop := x.e = 0 ∨ x.n ≤ 0 ∨ ∃ r, x = .q r ∧ RtOk b low r 3040 2341
end Lw
set_option exponentiation.threshold 20000
namespace Lw
open PySem PySem.Spec PyProof.Rows L2 Gd Fr
open scoped Rat
section
variable {b p : Nat} {low high : Int} (F : Fm b p low high)
include F
end
end Lw
set_option exponentiation.threshold 20000
namespace Lw
open PySem PySem.Spec PyProof.Rows L2 Gd Fr
open scoped Rat
section
variable {b p : Nat} {low high : Int} (F : Fm b p low high)
include F
end
end Lw
namespace Gd
open PySem PySem.Spec PyProof.Rows L2
section
variable {X : Cx} {Γ : List VD} {B B0 B1 B2 : Bag} {e fe i : Expr} {es : List Expr} {p pos dpos : Pos}
end
end Gd
set_option exponentiation.threshold 20000
namespace Lw
open PySem PySem.Spec PyProof.Rows L2 Gd Fr
open scoped Rat
section
variable {b p : Nat} {low high : Int} (F : Fm b p low high)
include F
end
end Lw
set_option exponentiation.threshold 20000
namespace Lw
open PySem PySem.Spec PyProof.Rows L2 Gd Fr
open scoped Rat
section
variable {b p : Nat} {low high : Int} (F : Fm b p low high)
include F
end
end Lw
set_option exponentiation.threshold 20000
namespace Lw
open PySem PySem.Spec PyProof.Rows L2 Gd Fr
open scoped Rat
section
variable {b p : Nat} {low high : Int} (F : Fm b p low high)
include F
end
end Lw
set_option exponentiation.threshold 20000
namespace Lw
open PySem PySem.Spec PyProof.Rows L2 Gd Fr
open scoped Rat
section
variable {b p : Nat} {low high : Int}
end
end Lw
namespace Gd
open PySem PySem.Spec PyProof.Rows L2
section
variable {X : Cx} {i : Nat} {Γ : List VD} {B B1 B2 B3 B' : Bag} {acc ds : List PyData} {e e2 a b c : Expr} {d da db : VD} {y y2 : PyData} {pos p p1 p2 p3 pos' px : Pos} {rest ss s1 s2 : List Stmt} {E : EnO}
end
end Gd
namespace Gd
open PySem PySem.Spec PyProof.Rows L2
section
variable {X : Cx} {Γ : List VD} {B B1 B2 : Bag} {i f : Expr}
end
end Gd
namespace Gd
open PySem PySem.Spec PyProof.Rows L2
section
variable {X : Cx} {Γ : List VD} {B B1 B2 : Bag} {a b : Expr} {pos : Pos}
end
end Gd
set_option exponentiation.threshold 20000
namespace Lw
open PySem PySem.Spec PyProof.Rows L2 Gd Fr
open scoped Rat
section
variable {b p : Nat} {low high : Int}
end
end Lw
set_option exponentiation.threshold 20000
namespace Lw
open PySem PySem.Spec PyProof.Rows L2 Gd Fr
open scoped Rat
end Lw
namespace Gd
open PySem PySem.Spec PyProof.Rows L2
section
variable {X : Cx} {Γ : List VD} {B B1 B2 : Bag} {e1 e2 e3 e4 i : Expr} {pos dpos : Pos}
end
section
variable {X : Cx} {Γ : List VD} {B B1 B2 B' : Bag} {e a b c elt : Expr} {scope : Scope} {j : Nat} {x : Str} {px : Pos} {ds ys acc : List PyData} {pos pos' p : Pos} {rest : List Stmt} {E : EnO} {d : VD} {y y1 : PyData}
variable {i : Nat}
end
end Gd
set_option exponentiation.threshold 20000
namespace Lw
open PySem PySem.Spec PyProof.Rows L2 Gd Fr
open scoped Rat
inductive Stp where
  | input (i : Nat)
  | told (q : Rat)
  | op (w : Str) (is : List Nat)
def Stp.d : Stp → PyData
  | .input i => .tuple [.str "input", .int (i : Nat)]
  | .told q => .tuple [.str "told", fq q]
  | .op w is => .tuple (.str w :: is.map fun i => PyData.int (i : Nat))
def pgWords : List Str := ["add", "take", "if", "least", "greatest", "opposite", "size", "times", "by", "fused", "root"]
def arity (w : Str) : Nat := if ("fused" : Str) = w then 3 else if ("if" : Str) = w then 4 else if ("opposite" : Str) = w then 1 else if ("size" : Str) = w then 1 else if ("root" : Str) = w then 1 else 2
def Stp.ok (many k : Nat) : Stp → Prop
  | .input i => i < many
  | .told q => Qz 11 5 q
  | .op w is => w ∈ pgWords ∧ is.length = arity w ∧ ∀ i ∈ is, i < k
abbrev SB := Sp × Bool
structure Xe2 (r : Xe × Xe) : Prop where
  l1 : r.1 ≠ .hi
  l2 : r.2 ≠ .lo
  le : r.2.lt r.1 = false
theorem Rok.two {N : Nat} {a : Xe × Xe} (h : Rok N a) : Xe2 a := ⟨h.l1, h.l2, h.le⟩
namespace Xe
end Xe
section
variable {b p : Nat} {low high : Int} (F : Fm b p low high)
include F
end
end Lw
namespace Gd
open PySem PySem.Spec PyProof.Rows L2
section
variable {X : Cx} {i : Nat} {Γ : List VD} {B B1 B2 B' : Bag} {acc ds dd : List PyData} {e c : Expr} {es : List Expr} {d : VD} {y : PyData} {pos p p1 p2 p3 pos' : Pos} {rest ss s1 s2 : List Stmt}
variable {E : EnO}
end
end Gd
namespace Gd
open PySem PySem.Spec PyProof.Rows L2
section
variable {X : Cx} {Γ : List VD} {B B1 B2 B' : Bag} {e a b c elt : Expr} {scope : Scope} {j : Nat} {x : Str} {px : Pos}
end
end Gd
namespace Gd
open PySem PySem.Spec PyProof.Rows L2
section
variable {X : Cx} {i : Nat} {Γ : List VD} {B B1 B2 B' : Bag} {acc ds : List PyData} {e a b c : Expr} {es : List Expr} {d : VD} {y : PyData} {pos p p1 p2 p3 pos' : Pos} {rest ss s1 s2 : List Stmt} {E : EnO} {Φ : List PyData → Bag → Prop}
end
end Gd
set_option exponentiation.threshold 20000
namespace Lw
open PySem PySem.Spec PyProof.Rows L2 Gd Fr
open scoped Rat
section
variable {b p : Nat} {low high : Int} (F : Fm b p low high)
include F
end
end Lw
set_option exponentiation.threshold 20000
namespace Lw
open PySem PySem.Spec PyProof.Rows L2 Gd Fr
open scoped Rat
def xle (x y : Xe) : Prop := y.lt x = false
theorem xle.refl (x : Xe) : xle x x := Xe.irr x
theorem xle.trans {x y z : Xe} (h : xle x y) (h2 : xle y z) : xle x z := Xe.le_trans h h2
theorem xle.tot (x y : Xe) : xle x y ∨ xle y x := by
  unfold xle
  cases c : y.lt x with
  | false => exact .inl rfl
  | true => exact .inr (Xe.asym c)
theorem xle.neg {x y : Xe} (h : xle x y) : xle y.neg x.neg := by unfold xle; rw [Xe.neg_lt]; exact h
end Lw
set_option exponentiation.threshold 20000
namespace Lw
open PySem PySem.Spec PyProof.Rows L2 Gd Fr
open scoped Rat
section
variable {b p : Nat} {low high : Int} (F : Fm b p low high)
include F
end
def spin (s t : Sp) : Prop := liesB s t = true
theorem spin_span {u v x y : Va} : spin (.span u v) (.span x y) ↔ ¬ lex3 (plT u) (plT x) ∧ ¬ lex3 (plT y) (plT v) := by
  show ((!decide (lex3 (plT u) (plT x))) && !decide (lex3 (plT y) (plT v))) = true ↔ _
  rw [Bool.and_eq_true, Bool.not_eq_true', Bool.not_eq_true', decide_eq_false_iff_not, decide_eq_false_iff_not]
theorem spin.refl (s : Sp) : spin s s := by
  cases s with
  | none => rfl
  | span u v => exact spin_span.mpr ⟨lex_irr _, lex_irr _⟩
theorem spin.trans {s t u : Sp} (h : spin s t) (h2 : spin t u) : spin s u := by
  cases s with
  | none => rfl
  | span a b => cases t with
    | none => cases h
    | span c d => cases u with
      | none => cases h2
      | span e f =>
        have h := spin_span.mp h; have h2 := spin_span.mp h2
        exact spin_span.mpr ⟨lex3_trans h2.1 h.1, lex3_trans h.2 h2.2⟩
section
variable {b p : Nat} {low high : Int} (F : Fm b p low high)
include F
end
end Lw
set_option exponentiation.threshold 20000
namespace Lw
open PySem PySem.Spec PyProof.Rows L2 Gd Fr
open scoped Rat
section
variable {b p : Nat} {low high : Int} (F : Fm b p low high)
include F
omit F in
def sbin (x' x : SB) : Prop := spin x'.1 x.1 ∧ (x.2 = true → x'.2 = true)
omit F in
theorem sbin.refl (x : SB) : sbin x x := ⟨spin.refl _, fun h => h⟩
omit F in
def bxin (box' box : List Sp) : Prop := box'.length = box.length ∧ ∀ (i : Nat) s s', box[i]? = some s → box'[i]? = some s' → spin s' s
end
end Lw
namespace Gd
open PySem PySem.Spec PyProof.Rows L2
section
variable {X : Cx} {Γ : List VD} {B B1 B2 B' : Bag} {e a b c elt : Expr} {scope : Scope} {j : Nat} {x : Str} {px pos : Pos} {Φ : Post}
end
end Gd
set_option exponentiation.threshold 20000
namespace Lw
open PySem PySem.Spec PyProof.Rows L2 Gd Fr
open scoped Rat
section
variable {b p : Nat} {low high : Int} (F : Fm b p low high)
include F
end
theorem bxin.refl (L : List Sp) : bxin L L := ⟨rfl, fun i s s' h h' => by rw [h] at h'; obtain rfl := Option.some.inj h'; exact spin.refl _⟩
theorem bxin.trans {L L' L'' : List Sp} (h : bxin L L') (h' : bxin L' L'') : bxin L L'' := ⟨by rw [h.1, h'.1], fun i s s' e e' => by
  have hl : i < L'.length := by rw [h'.1]; exact (List.getElem?_eq_some_iff.mp e).1
  have e2 : L'[i]? = some L'[i] := List.getElem?_eq_getElem hl
  exact (h.2 i _ _ e2 e').trans (h'.2 i _ _ e e2)⟩
end Lw
namespace Lw
open PySem PySem.Spec PyProof.Rows L2 Gd Fr
end Lw
set_option exponentiation.threshold 20000
namespace Lw
open PySem PySem.Spec PyProof.Rows L2 Gd Fr
open scoped Rat
structure Sml (b p : Nat) (low high : Int) : Prop where
  bp : b ^ p < 2 ^ 8
  bh : b ^ high.toNat < 2 ^ 11
  bl : b ^ (-low).toNat < 2 ^ 20
  nn : 0 ≤ (p : Int) + high + (-low).toNat
  bt : b ^ ((p : Int) + high + (-low).toNat).toNat < 2 ^ 17
section
variable {b p : Nat} {low high : Int} (F : Fm b p low high) (S : Sml b p low high)
include F S
end
def pt2 (x : Rat) : Xe × Xe := (.q x, .q x)
section
variable {b p : Nat} {low high : Int} (F : Fm b p low high)
include F
end
section
variable {b p : Nat} {low high : Int} (F : Fm b p low high)
include F
end
end Lw
set_option exponentiation.threshold 20000
namespace Lw
open PySem PySem.Spec PyProof.Rows L2 Gd Fr
open scoped Rat
end Lw
namespace Lw
end Lw
set_option exponentiation.threshold 20000
namespace Lw
open PySem PySem.Spec PyProof.Rows L2 Gd Fr
open scoped Rat
end Lw
set_option exponentiation.threshold 20000
namespace Lw
open PySem PySem.Spec PyProof.Rows L2 Gd Fr
open scoped Rat
section
variable {b p : Nat} {low high : Int} (F : Fm b p low high)
include F
end
end Lw
namespace Gd
open PySem PySem.Spec PyProof.Rows L2
section
variable {X : Cx} {Γ : List VD} {B B1 : Bag} {a : Expr} {p p2 p3 pos : Pos}
variable {elt e : Expr} {scope : Scope} {j : Nat} {ds : List PyData} {Φ : Post}
end
end Gd
set_option exponentiation.threshold 20000
namespace Lw
open PySem PySem.Spec PyProof.Rows L2 Gd Fr
open scoped Rat
section
variable {t : F4} (F : Fm t.1 t.2.1 t.2.2.1 t.2.2.2)
include F
end
end Lw
set_option exponentiation.threshold 20000
namespace Lw
open PySem PySem.Spec PyProof.Rows L2 Gd Fr
open scoped Rat
end Lw
namespace Lw
open PySem PySem.Spec PyProof.Rows L2 Gd Fr
open scoped Rat
end Lw
set_option exponentiation.threshold 20000
namespace Lw
open PySem PySem.Spec PyProof.Rows L2 Gd Fr
open scoped Rat
end Lw
namespace Gd
open PySem PySem.Spec PyProof.Rows L2
section
variable {X : Cx} {i : Nat} {Γ : List VD} {B : Bag} {acc : List PyData} {e : Expr} {pos : Pos} {s1 rest : List Stmt} {E : EnO}
end
end Gd
set_option exponentiation.threshold 20000
namespace Lw
open PySem PySem.Spec PyProof.Rows L2 Gd Fr
open scoped Rat
end Lw
namespace Gd
open PySem PySem.Spec PyProof.Rows L2
section
variable {X : Cx} {Γ : List VD} {B B1 B2 : Bag} {a b c e elt : Expr} {scope : Scope} {pos p pos' : Pos} {rest s1 : List Stmt} {E : En} {d : VD}
end
section
variable {X : Cx} {Γ : List VD} {B : Bag} {a b : Expr} {pos : Pos} {Φ : Post}
end
end Gd
set_option exponentiation.threshold 20000
namespace Lw
open PySem PySem.Spec PyProof.Rows L2 Gd Fr
open scoped Rat
section
variable {b p : Nat} {low high : Int} (F : Fm b p low high)
include F
end
end Lw
namespace Gd
open PySem PySem.Spec PyProof.Rows L2 RZ
section
variable {X : Cx} {Γ : List VD} {B B1 B2 B' : Bag} {a b c e e1 elt : Expr} {es : List Expr} {scope : Scope} {pos pos' p p2 p3 : Pos} {rest s1 : List Stmt} {E : En} {d : VD} {ds : List PyData} {y : PyData}
end
end Gd
set_option exponentiation.threshold 20000
namespace Lw
open PySem PySem.Spec PyProof.Rows L2 Gd Fr
open scoped Rat
section
variable {b p : Nat} {low high : Int} (F : Fm b p low high)
include F
end
section
variable {b p : Nat} {low high : Int} {L : List Stp} {s : Sp}
variable (F : Fm b p low high)
include F
end
end Lw
namespace Gd
open PySem PySem.Spec PyProof.Rows L2
def dict1 : List (PyData × PyData) → Bool
  | [(.tuple [.int i, .int j], .int n)] => decide (i.natAbs.log2 < 1920) && (decide (j.natAbs.log2 < 1920) && decide (n.natAbs.log2 < 1920))
  | _ => false
theorem dict1_inv {kvs : List (PyData × PyData)} (h : dict1 kvs = true) : ∃ i j n, kvs = [(.tuple [.int i, .int j], .int n)] ∧ i.natAbs.log2 < 1920 ∧ j.natAbs.log2 < 1920 ∧ n.natAbs.log2 < 1920 := by
  unfold dict1 at h
  split at h
  · rename_i i j n
    simp only [Bool.and_eq_true, decide_eq_true_eq] at h
    exact ⟨i, j, n, rfl, h.1, h.2.1, h.2.2⟩
  · cases h
mutual
def datB : PyData → Bool
  | .none => true
  | .bool _ => true
  | .int i => decide (i.natAbs.log2 < 1920)
  | .str x => PyData.strOk x
  | .list xs => datA xs
  | .tuple xs => datA xs
  | .dict kvs => kvs.isEmpty || dict1 kvs
def datA : List PyData → Bool
  | [] => true
  | x :: xs => datB x && datA xs
end
structure OkA (d : PyData) : Prop where
  any : datB d = true
  dp : d.depth ≤ 60
  bulk : d.bulk ≤ 5000
mutual
theorem any_show : ∀ d : PyData, datB d = true → d.showable = true ∧ d.leavesShort 1921 = true
  | .none, _ => by simp only [PyData.showable, PyData.leavesShort, and_self]
  | .bool _, _ => by simp only [PyData.showable, PyData.leavesShort, and_self]
  | .int i, h => by
    simp only [datB] at h
    exact ⟨by simp only [PyData.showable]; exact h, nice_short (.int i) (by simp only [nice]; exact h)⟩
  | .str x, h => by
    simp only [datB] at h
    exact ⟨by simp only [PyData.showable], nice_short (.str x) (by simp only [nice]; exact h)⟩
  | .list xs, h => by simp only [datB] at h; simp only [PyData.showable, PyData.leavesShort]; exact any_showA xs h
  | .tuple xs, h => by simp only [datB] at h; simp only [PyData.showable, PyData.leavesShort]; exact any_showA xs h
  | .dict kvs, h => by
    simp only [datB, Bool.or_eq_true, List.isEmpty_iff] at h
    rcases h with h | h
    · subst h
      simp only [PyData.showable, PyData.showableKv, PyData.leavesShort, PyData.leavesShortKv, and_self]
    · obtain ⟨i, j, n, rfl, h1, h2, h3⟩ := dict1_inv h
      have k : ∀ i : Int, i.natAbs.log2 < 1920 → PyData.showable (.int i) = true ∧ PyData.leavesShort 1921 (.int i) = true := fun i h =>
        ⟨by simp only [PyData.showable]; exact decide_eq_true h, nice_short (.int i) (by simp only [nice]; exact decide_eq_true h)⟩
      simp only [PyData.showable, PyData.showableAll, PyData.showableKv, PyData.leavesShort, PyData.leavesShortAll, PyData.leavesShortKv, Bool.and_eq_true, Bool.and_true]
      have k1 := k i h1
      have k2 := k j h2
      have k3 := k n h3
      simp only [PyData.showable, PyData.leavesShort] at k1 k2 k3
      simp only [k1, k2, k3, and_self]
theorem any_showA : ∀ ds : List PyData, datA ds = true → PyData.showableAll ds = true ∧ PyData.leavesShortAll 1921 ds = true
  | [], _ => by simp only [PyData.showableAll, PyData.leavesShortAll, and_self]
  | x :: xs, h => by
    simp only [datA, Bool.and_eq_true] at h
    simp only [PyData.showableAll, PyData.leavesShortAll, Bool.and_eq_true]
    exact ⟨⟨(any_show x h.1).1, (any_showA xs h.2).1⟩, (any_show x h.1).2, (any_showA xs h.2).2⟩
end
theorem OkA.len {d : PyData} (h : OkA d) : d.shown.length ≤ sizeLine := by
  have h1 := PyData.shown_le_bulk 1921 (by decide) d (any_show d h.any).2
  have h2 := h.bulk
  rw [show sizeLine = 16777216 from by decide]
  omega
theorem Rp.dict1 {K : PySem.W.Frag} {H : Hp} {v : V} {i j n : Int} (h : Rp K H v (.dict [(.tuple [.int i, .int j], .int n)])) : ∃ a, v = .ref a ∧ H a = some (.dT [([.inl i, .inl j], V.int n)]) := by
  generalize hd : PyData.dict [(.tuple [.int i, .int j], .int n)] = d at h
  cases h with
  | non => cases hd
  | bl b => cases hd
  | int i => cases hd
  | str x => cases hd
  | lst _ _ => cases hd
  | tup _ _ => cases hd
  | dct h => cases hd
  | dctT kvs h =>
    injection hd with hd
    cases kvs with
    | nil => cases hd
    | cons p r =>
      obtain ⟨k, m⟩ := p
      cases r with
      | cons q r => simp only [List.map_cons, List.cons.injEq] at hd; obtain ⟨_, hd⟩ := hd; cases hd
      | nil =>
        simp only [List.map_cons, List.map_nil, List.cons.injEq, Prod.mk.injEq, PyData.tuple.injEq, PyData.int.injEq, and_true] at hd
        obtain ⟨hk, rfl⟩ := hd
        cases k with
        | nil => cases hk
        | cons x k =>
          cases k with
          | nil => simp only [List.map_cons, List.map_nil, List.cons.injEq] at hk; obtain ⟨_, hk⟩ := hk; cases hk
          | cons y k =>
            cases k with
            | cons z k => simp only [List.map_cons, List.cons.injEq] at hk; obtain ⟨_, _, hk⟩ := hk; cases hk
            | nil =>
              simp only [List.map_cons, List.map_nil, List.cons.injEq, PyData.int.injEq, and_true] at hk
              obtain ⟨rfl, rfl⟩ := hk
              exact ⟨_, rfl, h⟩
section
variable {X : Cx} {pins : List (Addr × Obj)} {σ : L2.St} {H : Hp} {s : Shared}
end
section
variable {X : Cx} {Γ : List VD} {B B1 B2 B' : Bag} {a b e : Expr} {es : List Expr} {d : VD} {y : PyData} {pos p pos' : Pos}
end
end Gd
set_option exponentiation.threshold 20000
namespace Lw
open PySem PySem.Spec PyProof.Rows L2 Gd Fr
open scoped Rat
inductive Pap where
  | in_
  | part (i : Nat) (x y : Pap)
def Pap.d : Pap → PyData
  | .in_ => .tuple [.str "in"]
  | .part i x y => .tuple [.str "part", .int (i : Nat), x.d, y.d]
section
variable {b p : Nat} {low high : Int} {L : List Stp} {s : Sp}
end
structure An (D W : Nat) (d : PyData) : Prop where
  any : datB d = true
  dp : d.depth ≤ D
  bk : d.bulk ≤ W
structure AnA (D W : Nat) (ds : List PyData) : Prop where
  any : datA ds = true
  dp : PyData.depthAll ds ≤ D
  bk : PyData.bulkAll ds ≤ W
theorem An.le {D W D' W' : Nat} {d : PyData} (h : An D W d) (e : D ≤ D') (f : W ≤ W') : An D' W' d := ⟨h.any, Nat.le_trans h.dp e, Nat.le_trans h.bk f⟩
theorem AnA.le {D W D' W' : Nat} {d : List PyData} (h : AnA D W d) (e : D ≤ D') (f : W ≤ W') : AnA D' W' d := ⟨h.any, Nat.le_trans h.dp e, Nat.le_trans h.bk f⟩
theorem An.ok {D W : Nat} {d : PyData} (h : An D W d) (e : D ≤ 60 := by decide) (f : W ≤ 5000 := by decide) : OkA d := ⟨h.any, Nat.le_trans h.dp e, Nat.le_trans h.bk f⟩
theorem AnA.nil {D W : Nat} : AnA D W [] := ⟨by simp only [datA], by simp only [PyData.depthAll]; omega, by simp only [PyData.bulkAll]; omega⟩
theorem AnA.cons {D W W' : Nat} {d : PyData} {ds : List PyData} (h : An D W d) (r : AnA D W' ds) : AnA D (W + 1 + W') (d :: ds) :=
  ⟨by simp only [datA, Bool.and_eq_true]; exact ⟨h.any, r.any⟩, by have := h.dp; have := r.dp; simp only [PyData.depthAll]; omega, by have := h.bk; have := r.bk; simp only [PyData.bulkAll]; omega⟩
theorem An.tup {D W : Nat} {ds : List PyData} (h : AnA D W ds) : An (D + 1) W (.tuple ds) := ⟨by simp only [datB]; exact h.any, by have := h.dp; simp only [PyData.depth]; omega, by have := h.bk; simp only [PyData.bulk]; omega⟩
theorem An.lst {D W : Nat} {ds : List PyData} (h : AnA D W ds) : An (D + 1) W (.list ds) := ⟨by simp only [datB]; exact h.any, by have := h.dp; simp only [PyData.depth]; omega, by have := h.bk; simp only [PyData.bulk]; omega⟩
theorem AnA.mem {D W : Nat} : ∀ {ds : List PyData}, AnA D W ds → ∀ d ∈ ds, An D W d
  | [], _, _, h => by cases h
  | x :: xs, h, d, hd => by
    have a := h.any
    have b := h.dp
    have c := h.bk
    simp only [datA, Bool.and_eq_true] at a
    simp only [PyData.depthAll] at b
    simp only [PyData.bulkAll] at c
    rcases List.mem_cons.mp hd with rfl | hd
    · exact ⟨a.1, by omega, by omega⟩
    · exact AnA.mem (ds := xs) ⟨a.2, by omega, by omega⟩ d hd
theorem AnA.app {D W W' : Nat} : ∀ {ds es : List PyData}, AnA D W ds → AnA D W' es → AnA D (W + W') (ds ++ es)
  | [], es, _, h => h.le (Nat.le_refl _) (by omega)
  | x :: xs, es, h, h' => by
    have a := h.any
    have b := h.dp
    have c := h.bk
    simp only [datA, Bool.and_eq_true] at a
    simp only [PyData.depthAll] at b
    simp only [PyData.bulkAll] at c
    have r := AnA.app (D := D) (W := W - (x.bulk + 1)) (ds := xs) ⟨a.2, by omega, by omega⟩ h'
    rw [List.cons_append]
    exact (AnA.cons (D := D) (W := x.bulk) ⟨a.1, by omega, Nat.le_refl _⟩ r).le (Nat.le_refl _) (by omega)
theorem An.int {D W n : Nat} {i : Int} (h : Bd n i) (e : n ≤ 1920 := by decide) : An D W (.int i) := ⟨by
  have := nice_int h e
  simp only [nice] at this
  simp only [datB]; exact this, by simp only [PyData.depth]; omega, by simp only [PyData.bulk]; omega⟩
theorem An.bool {D W : Nat} {i : Bool} : An D W (.bool i) := ⟨by simp only [datB], by simp only [PyData.depth]; omega, by simp only [PyData.bulk]; omega⟩
theorem An.none {D W : Nat} : An D W .none := ⟨by simp only [datB], by simp only [PyData.depth]; omega, by simp only [PyData.bulk]; omega⟩
theorem An.dict {D W : Nat} (h : 1 ≤ D) : An D W (.dict []) := ⟨by simp only [datB, List.isEmpty_nil, Bool.true_or], by simp only [PyData.depth, PyData.depthKv]; omega, by simp only [PyData.bulk, PyData.bulkKv]; omega⟩
theorem An.str {D W : Nat} {x : Str} (h : PyData.strOk x = true) (h2 : x.cps.size ≤ W) : An D W (.str x) := ⟨by simp only [datB]; exact h, by simp only [PyData.depth]; omega, by simp only [PyData.bulk]; exact h2⟩
end Lw
namespace Lw
open PySem PySem.Spec PyProof.Rows L2 Gd Fr
def Pap.dep : Pap → Nat
  | .in_ => 1
  | .part _ x y => max x.dep y.dep + 1
theorem Pap.sh : ∀ (x : Pap) {n : Nat}, x.dep ≤ n → Sh n x.d
  | .in_, n + 1, _ => Sh.tup fun e he => by rw [List.mem_singleton.mp he]; exact (Sh.str (x := "in") (by decide +kernel)).mono (Nat.zero_le _)
  | .in_, 0, h => by simp only [Pap.dep] at h; omega
  | .part i x y, 0, h => by simp only [Pap.dep] at h; omega
  | .part i x y, n + 1, h => by
    simp only [Pap.dep] at h
    refine Sh.tup fun e he => ?_
    simp only [List.mem_cons, List.not_mem_nil, or_false] at he
    rcases he with rfl | rfl | rfl | rfl
    · exact (Sh.str (x := "part") (by decide +kernel)).mono (Nat.zero_le _)
    · exact (Sh.int _).mono (Nat.zero_le _)
    · exact Pap.sh x (by omega)
    · exact Pap.sh y (by omega)
end Lw
namespace Lw
open PySem PySem.Spec PyProof.Rows L2 Gd Fr
section
variable {b p : Nat} {low high : Int} {L : List Stp} {s : Sp}
end
end Lw
namespace HT
open PySem PySem.Spec PyProof.Rows L2
section
variable {prog : Program} {w : World} {A : Around} {E : Value → Shared → Prop} {s : Shared}
end
end HT
namespace Gd
open PySem PySem.Spec PyProof.Rows L2
section
variable {X : Cx} {Γ : List VD} {B B1 : Bag} {a b e : Expr} {k : Nat} {p p1 p2 p3 pos : Pos} {ds : List PyData} {Φ : Post}
theorem ej_strI {i : Int} (hi : i.natAbs.log2 < 1920) (hm : X.mg "str" = none) (ha : EJ X Γ B a (.da (.int i)) B1) (hs : starEach [a] X.env = [(false, eval a X.env)] := by rfl) (hg : Gl X "str" := by rfl) :
    EJ X Γ B (.Call (.Name "str" p) [a] [] pos) (.da (.str (toString i))) B1 :=
  ej_callTy call_str_int hm (aj_cons ha aj_nil hs) (fun g vs H0 H O r Q q => by
    obtain ⟨v, rfl, h⟩ := rv1 r
    exact ⟨i, by rw [rvI h], hi, q _ _ _ To.refl O (Rp.str _)⟩) (hg := hg) (he := hs)
end
end Gd
set_option exponentiation.threshold 20000
namespace Lw
open PySem PySem.Spec PyProof.Rows L2 Gd Fr
open scoped Rat
def Pap.ok : Pap → Prop
  | .in_ => True
  | .part i x y => i ≤ 8 ∧ x.ok ∧ y.ok
theorem an_str {D W : Nat} {x : Str} (h : PyData.strOk x = true := by decide +kernel) (h2 : x.cps.size ≤ W := by decide) : An D W (.str x) := An.str h h2
theorem small_int {D W : Nat} {i : Int} (h0 : -100 ≤ i) (h1 : i ≤ 100) : An D W (.int i) := An.int (n := 8) (by unfold Bd; omega)
theorem an_part {n W : Nat} {i x y : PyData} (hi : An n 0 i) (hx : An n W x) (hy : An n W y) : An (n + 1) (8 + 2 * W) (.tuple [.str "part", i, x, y]) :=
  (An.tup (AnA.cons (an_str (D := n) (W := 4)) (AnA.cons hi (AnA.cons hx (AnA.cons hy (AnA.nil (W := 0))))))).le (Nat.le_refl _) (by omega)
def wp : Nat → Nat
  | 0 => 0
  | n + 1 => 8 + 2 * wp n
theorem Pap.an : ∀ (x : Pap) {n : Nat}, x.dep ≤ n → x.ok → An n (wp n) x.d
  | .in_, 0, h, _ => by simp only [Pap.dep] at h; omega
  | .in_, n + 1, _, _ => (An.tup (AnA.cons (an_str (D := n) (W := 2)) (AnA.nil (W := 0)))).le (Nat.le_refl _) (by simp only [wp]; omega)
  | .part i x y, 0, h, _ => by simp only [Pap.dep] at h; omega
  | .part i x y, n + 1, h, ok => by
    simp only [Pap.dep] at h
    obtain ⟨h1, h2, h3⟩ := ok
    exact an_part (small_int (by omega) (by omega)) (x.an (by omega) h2) (y.an (by omega) h3)
theorem len_bulk : ∀ ds : List PyData, ds.length ≤ PyData.bulkAll ds
  | [] => Nat.zero_le _
  | x :: xs => by
    have := len_bulk xs
    simp only [PyData.bulkAll, List.length_cons]; omega
end Lw
namespace Lw
open PySem PySem.Spec PyProof.Rows L2 Gd Fr
def wq : Nat → Nat
  | 0 => 0
  | n + 1 => 24 + 2 * wq n
theorem Pap.nd : ∀ (x : Pap) {n : Nat}, x.dep ≤ n → x.ok → Nd (n + 1) (wq n) x.d
  | .in_, 0, h, _ => by simp only [Pap.dep] at h; omega
  | .in_, n + 1, _, _ => (Nd.tuple (NdA.cons ((Nd.str (x := "in") (by decide +kernel) (by decide)).le (D' := n + 1) (W' := 20) (by omega) (Nat.le_refl _)) (NdA.nil (W := 0)))).le (Nat.le_refl _) (by simp only [wq]; omega)
  | .part i x y, 0, h, _ => by simp only [Pap.dep] at h; omega
  | .part i x y, n + 1, h, ok => by
    simp only [Pap.dep] at h
    obtain ⟨h1, h2, h3⟩ := ok
    have a := x.nd (n := n) (by omega) h2
    have b := y.nd (n := n) (by omega) h3
    exact (Nd.tuple (NdA.cons ((Nd.str (x := "part") (by decide +kernel) (by decide)).le (D' := n + 1) (W' := 20) (by omega) (Nat.le_refl _)) (NdA.cons ((Nd.int (n := 8) (i := (i : Nat)) (by unfold Bd; omega)).le (D' := n + 1) (W' := 0) (by omega) (Nat.le_refl _)) (NdA.cons a (NdA.cons b (NdA.nil (W := 0))))))).le (Nat.le_refl _) (by simp only [wq]; omega)
end Lw
namespace Gd
open PySem PySem.Spec PyProof.Rows L2
section
variable {X : Cx} {Γ : List VD} {B B1 B2 B3 B' : Bag} {a b e : Expr} {es : List Expr} {d : VD} {y : PyData} {pos p pos' p1 p2 p3 p4 : Pos}
end
end Gd
set_option exponentiation.threshold 20000
namespace Lw
open PySem PySem.Spec PyProof.Rows L2 Gd Fr
open scoped Rat
def bendW : List Str := ["num", "inf", "nan", "span", "none", "inexact", "tiny", "over", "invalid", "by", "even", "up", "down", "zero", "away", "input", "told", "if", "add", "take", "times", "root", "fused", "size", "least", "greatest", "opposite", "few", "near", ""]
theorem bendW_facts : ∀ x ∈ bendW, (PyData.strOk x = true ∧ x.cps.size ≤ 10) ∧ (PyData.strOk (x ++ "s") = true ∧ (x ++ "s").cps.size ≤ 20) ∧ (PyData.strOk (cutS x none (some (-1))) = true ∧ (cutS x none (some (-1))).cps.size ≤ 20) ∧ (PyData.strOk (Txt.upper x) = true ∧ (Txt.upper x).cps.size ≤ 20) := by
  have key : bendW.all (fun x => (PyData.strOk x && decide (x.cps.size ≤ 10)) && ((PyData.strOk (x ++ "s") && decide ((x ++ "s").cps.size ≤ 20)) && ((PyData.strOk (cutS x none (some (-1))) && decide ((cutS x none (some (-1))).cps.size ≤ 20)) && (PyData.strOk (Txt.upper x) && decide ((Txt.upper x).cps.size ≤ 20))))) = true := by decide +kernel
  intro x hx
  have := List.all_eq_true.mp key x hx
  simp only [Bool.and_eq_true, decide_eq_true_eq] at this
  exact this
mutual
def bendB : PyData → Bool
  | .int i => decide (i.natAbs.log2 < 1900)
  | .str x => bendW.contains x
  | .tuple xs => bendA xs
  | d => datB d
def bendA : List PyData → Bool
  | [] => true
  | x :: xs => bendB x && bendA xs
end
mutual
theorem bendB_dat : ∀ d : PyData, bendB d = true → datB d = true
  | .none, h => by simp only [datB]
  | .bool _, h => by simp only [datB]
  | .int i, h => by simp only [bendB, decide_eq_true_eq] at h; simp only [datB, decide_eq_true_eq]; omega
  | .str x, h => by
    simp only [bendB] at h
    simp only [datB]
    exact (bendW_facts x (by simpa using h)).1.1
  | .list xs, h => by simpa only [bendB] using h
  | .tuple xs, h => by
    simp only [bendB] at h
    simp only [datB]
    exact bendA_dat xs h
  | .dict xs, h => by simpa only [bendB] using h
theorem bendA_dat : ∀ ds : List PyData, bendA ds = true → datA ds = true
  | [], _ => by simp only [datA]
  | x :: xs, h => by
    simp only [bendA, Bool.and_eq_true] at h
    simp only [datA, Bool.and_eq_true]
    exact ⟨bendB_dat x h.1, bendA_dat xs h.2⟩
end
theorem bendA_mem : ∀ {ds : List PyData}, bendA ds = true → ∀ d ∈ ds, bendB d = true
  | x :: xs, h, d, hd => by
    simp only [bendA, Bool.and_eq_true] at h
    rcases List.mem_cons.mp hd with rfl | hd
    · exact h.1
    · exact bendA_mem h.2 d hd
structure BN (n W : Nat) (d : PyData) : Prop where
  ok : bendB d = true
  dp : d.depth ≤ n
  bk : d.bulk ≤ W
theorem BN.an {n W : Nat} {d : PyData} (h : BN n W d) : An n W d := ⟨bendB_dat d h.ok, h.dp, h.bk⟩
theorem BN.tup {n W : Nat} {ds : List PyData} (h : BN n W (.tuple ds)) : (ds ≠ [] → 1 ≤ n) ∧ AnA (n - 1) W ds ∧ ∀ d ∈ ds, BN (n - 1) W d := by
  have h1 := h.ok
  have h2 := h.dp
  have h3 := h.bk
  simp only [bendB] at h1
  simp only [PyData.depth] at h2
  simp only [PyData.bulk] at h3
  have a : AnA (n - 1) W ds := ⟨bendA_dat ds h1, by omega, h3⟩
  exact ⟨fun _ => by omega, a, fun d hd => ⟨bendA_mem h1 d hd, (a.mem d hd).dp, (a.mem d hd).bk⟩⟩
def LenOk : PyData → Prop
  | .tuple ds => ds.length ≤ 1000
  | _ => True
theorem An.len {D W : Nat} {d : PyData} (h : An D W d) (e : W ≤ 1000) : LenOk d := by
  cases d with
  | tuple ds =>
    have := h.bk
    simp only [PyData.bulk] at this
    exact Nat.le_trans (len_bulk ds) (by omega)
  | _ => trivial
end Lw
namespace Gd
open PySem PySem.Spec PyProof.Rows L2
section
variable {X : Cx} {Γ : List VD} {B B1 B2 : Bag} {a b c e elt : Expr} {scope : Scope} {acc : List PyData} {pos pos' p : Pos} {rest : List Stmt} {E : En} {d : VD} {j : Nat} {x : Str} {px : Pos}
theorem ej_lenS {y : Str} (hl : y.length ≤ sizeLine) (hm : X.mg "len" = none) (ha : EJ X Γ B a (.da (.str y)) B1) (hs : starEach [a] X.env = [(false, eval a X.env)] := by rfl) (hg : Gl X "len" := by rfl) :
    EJ X Γ B (.Call (.Name "len" p) [a] [] pos) (.da (.int y.length)) B1 :=
  ej_callB call_len hm (aj_cons ha aj_nil hs) (fun g vs H0 H O r Q q => by
    obtain ⟨v, rfl, h⟩ := rv1 r
    refine ⟨v, y.length, rfl, ?_, q _ _ _ To.refl O (Rp.int _)⟩
    cases h with
    | str => exact ⟨hl, rfl⟩) (hg := hg) (he := hs)
theorem rj_lcR2F {lo hi' : Int} {n : Nat} (z : Int → PyData) (f : Int → Bool) (hi : AJ X Γ B [a, b] [.da (.int lo), .da (.int hi')] B1) (hn : n ≤ 1000) (he : (hi' - lo).toNat = n) (hlo : Bd 60 lo) (hhi : Bd 60 hi')
    (ht : ∀ k : Nat, k < n → Blk X scope fun Y => TJ Y (Γ.set j (.da (.int (lo + k)))) B1 c (f (lo + k)) B1)
    (hs : ∀ k : Nat, k < n → f (lo + k) = true → Blk X scope fun Y => EJ Y (Γ.set j (.da (.int (lo + k)))) B1 elt (.da (z (lo + k))) B1) :
    RJ X Γ B (tLc (iRng2 (WA X [a, b])) (gName j) (WTB X scope c) (WB X scope elt) [j]) (.da (.list ((((List.range n).map fun k : Nat => lo + (k : Int)).filter f).map z))) B1 := fun g σ H0 H Ev O Q' q =>
  hi g σ H0 H Ev O _ fun vs H1 H' t o r => by
    obtain ⟨v, v', rfl, h, h'⟩ := rv2 r
    unfold Bd at hlo hhi
    refine ⟨lo, hi', by rw [rvI h, rvI h'], ⟨by omega, by omega, by omega, by omega⟩, fun A hA => ?_⟩
    obtain ⟨off, I0⟩ := lcI_start o hA
    rw [he]
    refine lc_range (lo := lo) (n := n) (fun i H'' => ∃ H2, LcI X.K g H1 H' A ((((List.range i).map fun k : Nat => lo + (k : Int)).filter f).map z) B1 H2 H'') ⟨_, I0⟩ ?_ ?_
    · rintro i H'' hi ⟨H2, I⟩
      have hle : (((((List.range i).map fun k : Nat => lo + (k : Int)).filter f).map z).length) < 1000 := by
        rw [List.length_map]
        have h1 := List.length_filter_le f ((List.range i).map fun k : Nat => lo + (k : Int))
        rw [List.length_map, List.length_range] at h1
        omega
      refine lc_turnF off (Ev.mono t.ex) I (Rp.int _) hle (ht i hi) (hs i hi) fun H3 H3' J => ⟨H3, ?_⟩
      rw [List.range_succ, List.map_append, List.filter_append, List.map_append]
      cases hf : f (lo + i) with
      | true =>
        rw [hf] at J
        simpa [hf] using J
      | false =>
        rw [hf] at J
        simpa [hf] using J
    · rintro H'' ⟨H2, I⟩
      obtain ⟨H3, t3, o3, r3⟩ := lcI_end off t I
      exact q _ H3 H'' t3 o3 r3
theorem sj_setLcR2F (i : Nat) {pr pe : Pos} {y : Str} {py : Pos} (nd : X.N.Nodup) (hc : X.calm = true) (hm : X.mg "range" = none) (ok : BlkOk X.N X.env.scope scope [(x, j)])
    (hg : ∀ (s : Shared) (H : Hp) (C : Addr) (cl : List (Str × Addr)) (fp : List Addr), PG (X.blk s H scope (compEnvC scope cl C X.env) fp) (.Name x px) (gName j))
    (hsw : swapsWith (.ListComp elt [⟨.Name x px, .Call (.Name "range" pr) [a, b] [] pe, [c], 0⟩] scope pos) (some (.Name y py)) pos'.line X.env = pure true)
    (r : RJ X Γ B (tLc (iRng2 (WA X [a, b])) (gName j) (WTB X scope c) (WB X scope elt) [j]) d B1) (k : SJ X (Γ.set i d) B1 rest E)
    (hy : X.N[i]? = some y := by rfl) (hyl : X.env.scope.names.lookup y = some .local := by rfl) (hgl : Gl X "range" := by rfl)
    (hq : ∀ x, foldedSetIterable (.Call (.Name "range" pr) [a, b] [] pe) X.env x = pure x := by intro _; rfl) (hst : starEach [a, b] X.env = [(false, eval a X.env), (false, eval b X.env)] := by rfl) (hst2 : starEach [b] X.env = [(false, eval b X.env)] := by rfl) :
    SJ X Γ B (.Assign [.Name y py] (.ListComp elt [⟨.Name x px, .Call (.Name "range" pr) [a, b] [] pe, [c], 0⟩] scope pos) pos' :: rest) E := fun g σ H0 H Ev O D G =>
  ⟨_, pss_cons (ps_setLc (i := i) (own := [(x, j)]) hc nd hy hyl hsw (pi_range2 hgl hm (wa [a, b]) hst hst2) ok hg (fun s H C cl fp => pts_one (wtb scope c s H C cl fp)) (wb scope elt) hq) (ws rest),
    r g σ H0 H Ev O _ fun v H1 H' t o rv => k g _ H1 H' ((Ev.mono t.ex).set i rv) o D (G.on t)⟩
theorem sj_ifC {s1 s2 : List Stmt} (M : List VD → Bag → Prop) (h : (∀ Γ' B', M Γ' B' → SJ X Γ' B' rest E) → TX X Γ B c fun x B1 => (x = true → SJ X Γ B1 s1 { E with nx := fun Γ' B' => SJ X Γ' B' rest E }) ∧ (x = false → SJ X Γ B1 s2 { E with nx := fun Γ' B' => SJ X Γ' B' rest E }))
    (k : ∀ Γ' B', M Γ' B' → SJ X Γ' B' rest E) : SJ X Γ B (.If c s1 s2 pos :: rest) E := sj_ifX (h k)
end
end Gd
set_option exponentiation.threshold 20000
namespace Lw
open PySem PySem.Spec PyProof PyProof.Rows L2 Gd Fr
open scoped Rat
theorem fm_small {b p : Nat} {low high : Int} (h1 : 2 ≤ b) (h2 : b ≤ 36) (h3 : 2 ≤ p) (h4 : p ≤ 60) (h5 : -60 ≤ low) (h6 : low ≤ high) (h7 : high ≤ 60) : Fm b p low high := by
  have key : ∀ n : Nat, n ≤ 60 → b ^ n < 2 ^ 361 := fun n hn => by
    have e1 : b ^ n ≤ 64 ^ n := Nat.pow_le_pow_left (by omega) n
    have e2 : 64 ^ n ≤ 64 ^ 60 := Nat.pow_le_pow_right (by decide) hn
    have e3 : 64 ^ 60 < 2 ^ 361 := by decide +kernel
    omega
  have w : ∀ n : Nat, 361 ≤ n → 2 ^ 361 ≤ 2 ^ n := fun n hn => Nat.pow_le_pow_right (by decide) hn
  exact ⟨h1, by omega, h3, by omega, by omega, h6, by omega, Nat.lt_of_lt_of_le (key p h4) (w 700 (by decide)), Nat.lt_of_lt_of_le (key _ (by omega)) (w 2340 (by decide)), Nat.lt_of_lt_of_le (key _ (by omega)) (w 2340 (by decide))⟩
noncomputable def isInB (b p : Nat) (low high : Int) (b' p' : Nat) (low' high' : Int) : Bool := isNone (lostD (lostV b p low high b' p' low' high'))
theorem isInB_iff {b p : Nat} {low high : Int} {b' p' : Nat} {low' high' : Int} : isInB b p low high b' p' low' high' = true ↔ lostV b p low high b' p' low' high' = none := by
  unfold isInB
  cases lostV b p low high b' p' low' high' with
  | none => exact ⟨fun _ => rfl, fun _ => rfl⟩
  | some ce => exact ⟨fun h => (by obtain ⟨c, e⟩ := ce; cases h), fun h => (by cases h)⟩
theorem isInB_eq {b p : Nat} {low high : Int} {b' p' : Nat} {low' high' : Int} {q : Prop} [Decidable q] (h : lostV b p low high b' p' low' high' = none ↔ q) : decide q = isInB b p low high b' p' low' high' := by
  rw [← Bool.decide_coe (isInB b p low high b' p' low' high')]
  exact decide_eq_decide.mpr (h.symm.trans isInB_iff.symm)
def Post_cin (_ : List VD) (_ : Bag) (r : PyData) (B' : Bag) : Prop := Bok B' ∧ ∃ (b p : Nat) (low high : Int) (b' p' : Nat) (low' high' : Int), r = .tuple [fmP b p low high, fmP b' p' low' high', .bool (isInB b p low high b' p' low' high')] ∧ Fm b p low high ∧ Fm b' p' low' high'
inductive R_lright : Rel
  | mk (b p : Nat) (low high : Int) (b' p' : Nat) (low' high' : Int) (B : Bag) (F : Fm b p low high) (F' : Fm b' p' low' high') :
      R_lright [.da (fmP b p low high), .da (fmP b' p' low' high'), .da (.bool (isInB b p low high b' p' low' high'))] B (.bool true) B
inductive R_onebase : Rel
  | mk (b p : Nat) (low high : Int) (b' p' : Nat) (low' high' : Int) (B : Bag) : R_onebase [.da (fmP b p low high), .da (fmP b' p' low' high')] B (.bool (decide (p ≤ p' ∧ low' ≤ low ∧ (p : Int) + high ≤ p' + high'))) B
def cntI (t : F4) : Int := 2 * (((t.1 ^ t.2.1 : Nat) : Int) + (t.2.2.2 - t.2.2.1) * (((t.1 ^ t.2.1 : Nat) : Int) - ((t.1 ^ (t.2.1 - 1) : Nat) : Int)))
theorem small_cnt : smallF.all (fun t => decide (cntI t < 800)) = true := by decide +kernel
theorem plant_cnt : plantF.all (fun t => decide (cntI t.1 < 800)) = true := by decide +kernel
def Post_cpl2 (_ : List VD) (_ : Bag) (r : PyData) (B' : Bag) : Prop := Bok B' ∧ ∃ t : F4 × F4, r = cplD t ∧ (t.1.ok ∧ t.2.ok) ∧ (cntI t.1 < 800 ∨ cntI t.2 < 800)
def wide4 (t : F4) : F4 := if t.2.2.2 - t.2.2.1 < 25 then t else (t.1, t.2.1, t.2.2.1, t.2.2.1 + 20)
def near4 (t : F4) (i j k : Int) : F4 := (t.1, (min 120 (max 2 ((t.2.1 : Int) + i))).toNat, max (-1200) (t.2.2.1 + j), min 1200 (max (max (-1200) (t.2.2.1 + j)) (t.2.2.2 + k)))
theorem near4_fm : ((worldF ++ farF).all fun t => fmB (wide4 t) && ([0, 1, -1] : List Int).all fun i => ([0, 1, -1] : List Int).all fun j => ([0, 1, -1] : List Int).all fun k => fmB (near4 (wide4 t) i j k)) = true := by decide +kernel
theorem wide4_ok {t : F4} (h : t ∈ worldF ++ farF) : (wide4 t).ok ∧ ∀ i ∈ ([0, 1, -1] : List Int), ∀ j ∈ ([0, 1, -1] : List Int), ∀ k ∈ ([0, 1, -1] : List Int), (near4 (wide4 t) i j k).ok := by
  have := List.all_eq_true.mp near4_fm t h
  rw [Bool.and_eq_true] at this
  exact ⟨fm_of this.1, fun i hi j hj k hk => fm_of (List.all_eq_true.mp (List.all_eq_true.mp (List.all_eq_true.mp this.2 i hi) j hj) k hk)⟩
theorem wide_mem (B : Bag) : wideV B ∈ worldF ++ farF := by
  unfold wideV
  split
  · exact List.mem_append_left _ (pickF_mem _ _ (by decide))
  · exact List.mem_append_right _ (pickF_mem _ _ (by decide))
theorem tk_ex {B : Bag} (h : Bok B) (m : Int) (h0 : 0 < m) (h1 : m < 2 ^ 60) : ∃ (v : Int) (B' : Bag), R_take [.bag, .da (.int m)] B (.int v) B' ∧ 0 ≤ v ∧ v < m ∧ Bok B' :=
  ⟨tkV B m, tkB B m, R_take.mk B m h0 (by unfold Bd; exact Nat.lt_of_lt_of_le (show _ < 2 ^ 60 by omega) (Nat.pow_le_pow_right (by decide) (by decide))) h, tkV_ge B h0, tkV_lt B h0, tkB_ok h m⟩
theorem sm_ex {α : Type} (xs : List α) (f : α → PyData) {B : Bag} (hl : xs.length ≤ 1000) (h : Bok B) (h0 : 0 < xs.length) : ∃ x ∈ xs, ∃ B' : Bag, R_some [.bag, .da (.list (xs.map f))] B (f x) B' ∧ Bok B' := by
  obtain ⟨x, hx, hp⟩ := pick_ex xs f B h0
  have := R_some.mk B (xs.map f) (by rw [List.length_map]; exact h0) (by rw [List.length_map]; exact hl) h
  rw [hp] at this
  exact ⟨x, hx, _, this, tkB_ok h _⟩
theorem pow_in {n : Int} (hn : n = 2 ∨ n = 3 ∨ n = 4 ∨ n = 5) {d most low high least last : Int} (lh : low ≤ high) (ll : least ≤ last) :
    (∀ e, low ≤ e → e ≤ high → ∃ m, least ≤ m ∧ m ≤ last ∧ n * m ≤ e ∧ d + e ≤ n * (most + m)) ↔ ((least ≤ low / n ∧ (high + d - 1) / n ≤ last + most - 1) ∧ ∀ e, low ≤ e → e ≤ high → (e + d - 1) / n - e / n < most) := by
  rcases hn with rfl | rfl | rfl | rfl
  all_goals
    constructor
    · intro h
      obtain ⟨m, a1, a2, a3, a4⟩ := h low (Int.le_refl _) lh
      obtain ⟨m', b1, b2, b3, b4⟩ := h high lh (Int.le_refl _)
      refine ⟨⟨by omega, by omega⟩, fun e h1 h2 => ?_⟩
      obtain ⟨m'', c1, c2, c3, c4⟩ := h e h1 h2
      omega
    · rintro ⟨⟨h1, h2⟩, h3⟩ e e1 e2
      have h4 := h3 e e1 e2
      first | exact ⟨max least ((e + d - 1) / 2 + 1 - most), by omega, by omega, by omega, by omega⟩ | exact ⟨max least ((e + d - 1) / 3 + 1 - most), by omega, by omega, by omega, by omega⟩ | exact ⟨max least ((e + d - 1) / 4 + 1 - most), by omega, by omega, by omega, by omega⟩ | exact ⟨max least ((e + d - 1) / 5 + 1 - most), by omega, by omega, by omega, by omega⟩
theorem dig_le {b b' D d : Nat} (h : b ≤ 36) (h' : 2 ≤ b') (hD : D ≤ 10) (hl : b' ^ d < b ^ D) : d < 52 := by
  refine Decidable.byContradiction fun z => ?_
  have e1 : b ^ D ≤ 36 ^ 10 := Nat.le_trans (Nat.pow_le_pow_left h D) (Nat.pow_le_pow_right (by decide) hD)
  have e2 : 2 ^ 52 ≤ 2 ^ d := Nat.pow_le_pow_right (by decide) (by omega)
  have e3 : 2 ^ d ≤ b' ^ d := Nat.pow_le_pow_left h' d
  have e4 : 36 ^ 10 < 2 ^ 52 := by decide
  omega
theorem ints_shaped (l : List Int) : SeqAt.shaped (.list (l.map PyData.int)) = true := by
  have h1 : ∀ l : List Int, PyData.canLayAll0 (l.map PyData.int) = true := fun l => by
    induction l with
    | nil => rfl
    | cons a l ih => simp only [List.map_cons, PyData.canLayAll0, PyData.canLay0, ih, Bool.and_self]
  have h2 : ∀ l : List Int, PyData.depthAll (l.map PyData.int) ≤ 1 := fun l => by
    induction l with
    | nil => simp only [List.map_nil, PyData.depthAll]; omega
    | cons a l ih => simp only [List.map_cons, PyData.depthAll, PyData.depth]; omega
  unfold SeqAt.shaped
  have := h2 l
  have a1 : PyData.canLay0 (.list (l.map PyData.int)) = true := by simp only [PyData.canLay0, h1]
  have a2 : PyData.depth (.list (l.map PyData.int)) ≤ 64 := by simp only [PyData.depth]; omega
  rw [a1, decide_eq_true a2]; rfl
theorem eqv_nil {α : Type} (l : List α) (z : α → PyData) : PyData.eqv (.list (l.map z)) (.list []) = l.isEmpty := by
  cases l <;> rfl
def d3 (t : Int × Int × Int) : PyData := .tuple [.int t.1, .int t.2.1, .int t.2.2]
theorem cin_mk {Γ : List VD} {B B' : Bag} {b p : Nat} {low high : Int} {b' p' : Nat} {low' high' : Int} {r : PyData} {q : Prop} [Decidable q] (ok : Bok B') (F : Fm b p low high) (F' : Fm b' p' low' high') (hr : r = .tuple [fmP b p low high, fmP b' p' low' high', .bool (decide q)]) (h : lostV b p low high b' p' low' high' = none ↔ q) : Post_cin Γ B r B' :=
  ⟨ok, b, p, low, high, b', p', low', high', by rw [hr, isInB_eq h], F, F'⟩
end Lw
set_option exponentiation.threshold 20000
namespace K12
open PySem PySem.Spec PyProof.Rows L2 Gd Fr Lw
open scoped Rat

def topS (i : Nat) : Stmt := PySem.Challenge.pw_nearestheld_k12_whole_one_format_in_anot.main.body.getD i (.Pass ⟨0, 0, 0, 0⟩)
variable {P : Program} {w : World} {K : PySem.W.Frag} {mg : Str → Option Value} {base : Heap}

abbrev s_integer_power : Stmt := topS 2
theorem sc_integer_power : FnScope ["base", "e", "power"] ["base", "e"] (defScope s_integer_power) := ⟨rfl, rfl, rfl, by decide +kernel, rfl, by decide +kernel, by decide +kernel⟩

theorem c_of_integer_power (T : At K mg "integer_power" s_integer_power ["base", "e"]) : Cal P w K mg base "integer_power" 4 R_pow :=
  cal_at T sc_integer_power (by rintro _ _ _ _ ⟨⟩; rfl) fun f cd0 A out s H E G Γ B r B' hR => by
  obtain ⟨b, e, B, hb, he⟩ := hR
  refine sj_set 2 G.nd ej_int ?_
  refine sj_while G.nd (fun Γ' B' => ∃ k m j : Nat, Γ' = [.da (.int ((b ^ k : Nat) : Int)), .da (.int m), .da (.int ((b ^ j : Nat) : Int))] ∧ j + k * m = e ∧ B' = B) (fun Γ' _ => (intAt Γ' 1).toNat)
    ⟨1, e, 0, by rw [Nat.pow_one]; rfl, by omega, rfl⟩ ?_
  rintro Γ' B' ⟨k, m, j, rfl, hk, rfl⟩
  refine ⟨_, tj_gt (ej_dat 1) ej_int, fun h => ?_, fun h => ?_⟩
  · have hm : 0 < m := by have := of_decide_eq_true h; omega
    obtain ⟨k1, j1⟩ := k_le hk hm
    refine sj_ifM (fun Γ' B2 => ∃ j' : Nat, Γ' = [.da (.int ((b ^ k : Nat) : Int)), .da (.int m), .da (.int ((b ^ j' : Nat) : Int))] ∧ j' + (k + k) * (m / 2) = e ∧ B2 = B') (tj_eqI G.hu (ej_mod (ej_dat 1) ej_int (by decide)) ej_int) (fun h1 => ?_) (fun h1 => ?_) ?_
    · refine sj_set 2 G.nd (ej_mul (ej_dat 2) (ej_dat 0) (cm (bd_pow j hb) (bd_pow k hb) (by omega))) (sj_nil ?_)
      rw [pow_up]
      exact ⟨j + k, rfl, turn_odd hk (by have := of_decide_eq_true h1; omega), rfl⟩
    · exact sj_nil ⟨j, rfl, turn_even hk (by have := of_decide_eq_false h1; omega), rfl⟩
    · rintro Γ2 B2 ⟨j', rfl, hj', rfl⟩
      refine sj_set 0 G.nd (ej_mul (ej_dat 0) (ej_dat 0) (cm (bd_pow k hb) (bd_pow k hb) (by omega))) ?_
      refine sj_set 1 G.nd (ej_fdiv (ej_dat 1) ej_int (cdv (show Bd 2 2 from by unfold Bd; decide) (by decide))) (sj_nil ?_)
      rw [pow_sq, half]
      exact ⟨⟨k + k, m / 2, j', rfl, hj', rfl⟩, show ((m / 2 : Nat) : Int).toNat < (m : Int).toNat by omega⟩
  · have hm : ¬ 0 < m := by have := of_decide_eq_false h; omega
    have := j_end hk hm
    subst this
    exact sj_ret (ej_dat 2) ⟨rfl, rfl⟩

abbrev s_reduced : Stmt := topS 4
theorem sc_reduced : FnScope ["n", "d", "ahead", "behind", "twos", "common"] ["n", "d"] (defScope s_reduced) := ⟨rfl, rfl, rfl, by decide +kernel, rfl, by decide +kernel, by decide +kernel⟩

theorem c_of_reduced (m_gcd : mg "gcd" = some (.builtin "math.gcd")) (m_min : mg "min" = none) (c_u_twos_in : Cal P w K mg base "_twos_in" 1 R_twos) (T : At K mg "reduced" s_reduced ["n", "d"]) : Cal P w K mg base "reduced" 3 R_reduced :=
  cal_at T sc_reduced (by rintro _ _ _ _ ⟨⟩; rfl) fun f cd0 A out s H E G Γ B r B' hR => by
  obtain ⟨n, d, B, hd, hb⟩ := hR
  refine sj_when (tj_eqI G.hu (ej_dat 0) ej_int) (fun h => ?_) (fun h => ?_)
  · have h0 : n = 0 := of_decide_eq_true h
    subst h0
    exact sj_ret (ej_tupD (ad_cons ej_int (ad_cons ej_int ad_nil)) (Nat.le_of_ble_eq_true rfl)) ⟨by rw [Rat.zero_divInt]; rfl, rfl⟩
  · have hn : n ≠ 0 := of_decide_eq_false h
    obtain ⟨i, a, rfl⟩ := tw_ex hn
    obtain ⟨j, b, rfl⟩ := tw_ex hd
    refine sj_par 2 3 G.nd G.calm (aj_cons (ej_call c_u_twos_in (G.le (by decide)) (aj_cons (ej_dat 0) aj_nil) (R_twos.mk i a B)) (aj_cons (ej_call c_u_twos_in (G.le (by decide)) (aj_cons (ej_dat 1) aj_nil) (R_twos.mk j b B)) aj_nil)) ?_ (by decide) (by rfl)
    obtain ⟨t, hi, hj, ht, em⟩ : ∃ t : Nat, t ≤ i ∧ t ≤ j ∧ (t = i ∨ t = j) ∧ min (i : Int) (j : Int) = (t : Int) := ⟨min i j, by omega, by omega, by omega, by omega⟩
    refine sj_set 4 G.nd (ej_is (ej_min G.calm m_min (ej_dat 2) (ej_dat 3)) (congrArg PyData.int em)) ?_
    refine sj_par 0 1 G.nd G.calm (aj_cons (ej_is (ej_shr (ej_dat 0) (ej_dat 4)) (congrArg PyData.int (tw_shr hi a))) (aj_cons (ej_is (ej_shr (ej_dat 1) (ej_dat 4)) (congrArg PyData.int (tw_shr hj b))) aj_nil)) ?_ (by decide) (by rfl)
    have ek : (j : Int) - (t : Int) = ((j - t : Nat) : Int) := by omega
    have e0 : tw (j - t) b / 2 ^ (j - t) = tw 0 b := by rw [tw_shr (Nat.le_refl _), Nat.sub_self]
    refine sj_set 5 G.nd (ej_gcd m_gcd (ej_dat 0) (ej_is (ej_shr (ej_dat 1) (ej_is (ej_sub (ej_dat 3) (ej_dat 4)) (congrArg PyData.int ek))) (congrArg PyData.int e0))) ?_
    have hd' : tw (j - t) b ≠ 0 := tw_ne _ _
    have eg : Nat.gcd (tw (i - t) a).natAbs (tw 0 b).natAbs = Nat.gcd (tw (i - t) a).natAbs (tw (j - t) b).natAbs := by
      refine (gcd_odd _ b ?_).symm
      rcases ht with rfl | rfl
      · left; rw [Nat.sub_self]; exact tw_odd a
      · right; exact Nat.sub_self _
    rw [eg, divInt_tw hi hj a b]
    have hb' : Bd 8900 (tw (j - t) b) := bd_tw hb (Nat.sub_le _ _)
    have cx : ∀ m, CDivX m (com (tw (i - t) a) (tw (j - t) b)) := fun m => cdx (com_bd hd' hb') (com_ne hd')
    refine sj_if (tj_lt (ej_dat 1) ej_int) (fun h => ?_) (fun h => ?_)
    · refine sj_set 5 G.nd (ej_neg (ej_dat 5)) (sj_nil ?_)
      have e : -((Nat.gcd (tw (i - t) a).natAbs (tw (j - t) b).natAbs : Nat) : Int) = com (tw (i - t) a) (tw (j - t) b) := (if_pos (of_decide_eq_true h)).symm
      rw [e]
      exact sj_ret (ej_tupD (ad_cons (ej_fdivX (ej_dat 0) (ej_dat 5) (cx _)) (ad_cons (ej_fdivX (ej_dat 1) (ej_dat 5) (cx _)) ad_nil)) (Nat.le_of_ble_eq_true rfl)) ⟨by rw [red_num hd', red_den hd']; rfl, rfl⟩
    · refine sj_nil ?_
      have e : ((Nat.gcd (tw (i - t) a).natAbs (tw (j - t) b).natAbs : Nat) : Int) = com (tw (i - t) a) (tw (j - t) b) := (if_neg (of_decide_eq_false h)).symm
      rw [e]
      exact sj_ret (ej_tupD (ad_cons (ej_fdivX (ej_dat 0) (ej_dat 5) (cx _)) (ad_cons (ej_fdivX (ej_dat 1) (ej_dat 5) (cx _)) ad_nil)) (Nat.le_of_ble_eq_true rfl)) ⟨by rw [red_num hd', red_den hd']; rfl, rfl⟩

abbrev s_times : Stmt := topS 5
theorem sc_times : FnScope ["one", "other", "first", "right", "second", "left"] ["one", "other"] (defScope s_times) := ⟨rfl, rfl, rfl, by decide +kernel, rfl, by decide +kernel, by decide +kernel⟩

theorem c_of_times (c_reduced : Cal P w K mg base "reduced" 3 R_reduced) (T : At K mg "times" s_times ["one", "other"]) : Cal P w K mg base "times" 4 (R_two (· * ·)) :=
  cal_at T sc_times (by rintro _ _ _ _ ⟨⟩; rfl) fun f cd0 A out s H E G Γ B r B' hR => by
  obtain ⟨n, d, m, c, x, y, B, hx, hy, h1, h2, h3⟩ := hR
  obtain ⟨b1, b2⟩ := divInt_bd (den_ne y) hx.nu hy.de
  obtain ⟨b3, b4⟩ := divInt_bd (den_ne x) hy.nu hx.de
  refine sj_unpack [2, 3] (ds := [.int (x.num /. (y.den : Int)).num, .int ((x.num /. (y.den : Int)).den : Int)]) G.calm (ej_call c_reduced (G.le (by decide)) (aj_cons (ej_at (ej_dat (d := fq x) 0)) (aj_cons (ej_at (ej_dat (d := fq y) 1)) aj_nil)) (R_reduced.mk _ _ _ (den_ne y) (hy.de.le (by omega)))) (pgs_cons (pg_name (i := 2) G.nd rfl (Or.inl rfl)) (pgs_cons (pg_name (i := 3) G.nd rfl (Or.inl rfl)) pgs_nil)) rfl ?_
  refine sj_unpack [4, 5] (ds := [.int (y.num /. (x.den : Int)).num, .int ((y.num /. (x.den : Int)).den : Int)]) G.calm (ej_call c_reduced (G.le (by decide)) (aj_cons (ej_at (ej_dat (d := fq y) 1)) (aj_cons (ej_at (ej_dat (d := fq x) 0)) aj_nil)) (R_reduced.mk _ _ _ (den_ne x) (hx.de.le (by omega)))) (pgs_cons (pg_name (i := 4) G.nd rfl (Or.inl rfl)) (pgs_cons (pg_name (i := 5) G.nd rfl (Or.inl rfl)) pgs_nil)) rfl ?_
  exact sj_ret (ej_tupD (ad_cons (ej_mul (ej_dat 2) (ej_dat 4) (cmz b1 b3)) (ad_cons (ej_mul (ej_dat 5) (ej_dat 3) (cmz b4 b2)) ad_nil)) (Nat.le_of_ble_eq_true rfl)) ⟨mul_by x y, rfl⟩

abbrev s_size_of : Stmt := topS 6
theorem sc_size_of : FnScope ["one"] ["one"] (defScope s_size_of) := ⟨rfl, rfl, rfl, by decide +kernel, rfl, by decide +kernel, by decide +kernel⟩

theorem c_of_size_of (m_abs : mg "abs" = none) (T : At K mg "size_of" s_size_of ["one"]) : Cal P w K mg base "size_of" 4 (R_one fun x => fq (absQ x)) :=
  cal_at T sc_size_of (by rintro _ _ _ _ ⟨⟩; rfl) fun f cd0 A out s H E G Γ B r B' hR => by
  obtain ⟨x, B⟩ := hR
  refine sj_ret (ej_tupD (ad_cons (ej_abs m_abs (ej_at (ej_dat 0))) (ad_cons (ej_at (ej_dat 0)) ad_nil)) (Nat.le_of_ble_eq_true rfl)) ⟨?_, rfl⟩
  unfold fq
  rw [(absQ_num x).1, (absQ_num x).2]

abbrev s_power_of : Stmt := topS 7
theorem sc_power_of : FnScope ["base", "e"] ["base", "e"] (defScope s_power_of) := ⟨rfl, rfl, rfl, by decide +kernel, rfl, by decide +kernel, by decide +kernel⟩

theorem c_of_power_of (c_integer_power : Cal P w K mg base "integer_power" 4 R_pow) (T : At K mg "power_of" s_power_of ["base", "e"]) : Cal P w K mg base "power_of" 5 R_power_of :=
  cal_at T sc_power_of (by rintro _ _ _ _ ⟨⟩; rfl) fun f cd0 A out s H E G Γ B r B' hR => by
  obtain ⟨b, e, B, h0, hb, h1, h2⟩ := hR
  refine sj_when (tj_lt (ej_dat 1) ej_int) (fun h => ?_) (fun h => ?_)
  · have he : e < 0 := of_decide_eq_true h
    have hn : -e = ((-e).toNat : Int) := by omega
    refine sj_ret (ej_tupD (ad_cons ej_int (ad_cons (ej_call c_integer_power (G.le (by decide)) (aj_cons (ej_dat 0) (aj_cons (ej_is (ej_neg (ej_dat 1)) (congrArg PyData.int hn)) aj_nil)) (R_pow.mk b (-e).toNat B hb (by omega))) ad_nil)) (Nat.le_of_ble_eq_true rfl)) ⟨?_, rfl⟩
    unfold pw
    rw [if_pos he, fq_inv (Nat.pow_pos h0)]
  · have he : ¬ e < 0 := of_decide_eq_false h
    have hn : e = (e.toNat : Int) := by omega
    refine sj_ret (ej_tupD (ad_cons (ej_call c_integer_power (G.le (by decide)) (aj_cons (ej_dat 0) (aj_cons (ej_is (ej_dat 1) (congrArg PyData.int hn)) aj_nil)) (R_pow.mk b e.toNat B hb (by omega))) (ad_cons ej_int ad_nil)) (Nat.le_of_ble_eq_true rfl)) ⟨?_, rfl⟩
    unfold pw
    rw [if_neg he, fq_nat]


abbrev s_sign_of_fraction : Stmt := topS 8
theorem sc_sign_of_fraction : FnScope ["one"] ["one"] (defScope s_sign_of_fraction) := ⟨rfl, rfl, rfl, by decide +kernel, rfl, by decide +kernel, by decide +kernel⟩

theorem c_of_sign_of_fraction (T : At K mg "sign_of_fraction" s_sign_of_fraction ["one"]) : Cal P w K mg base "sign_of_fraction" 4 (R_one fun x => .int (sgn x)) :=
  cal_at T sc_sign_of_fraction (by rintro _ _ _ _ ⟨⟩; rfl) fun f cd0 A out s H E G Γ B r B' hR => by
  obtain ⟨x, B⟩ := hR
  refine sj_ret (ej_ifI (tj_lt (ej_at (ej_dat 0)) ej_int) (fun _ => ej_int) fun _ => ej_int) ⟨?_, rfl⟩
  unfold sgn
  by_cases h : x.num < 0
  · rw [if_pos h, decide_eq_true h]; rfl
  · rw [if_neg h, decide_eq_false h]; rfl

abbrev s_power_below : Stmt := topS 9
theorem sc_power_below : FnScope ["base", "one", "n", "d"] ["base", "one"] (defScope s_power_below) := ⟨rfl, rfl, rfl, by decide +kernel, rfl, by decide +kernel, by decide +kernel⟩

theorem c_of_power_below (c_u_power_within : Cal P w K mg base "_power_within" 4 R_within) (T : At K mg "power_below" s_power_below ["base", "one"]) : Cal P w K mg base "power_below" 5 R_pbelow :=
  cal_at T sc_power_below (by rintro _ _ _ _ ⟨⟩; rfl) fun f cd0 A out s H E G Γ B r B' hR => by
  obtain ⟨b, q, k, n, d, B, h2, h0, hq, hn, hd, h1, h3⟩ := hR
  have hn0 : 0 < q.num := by
    have : 0 ≤ q.num := Rat.num_nonneg.mpr (Rat.le_of_lt h0)
    have : q.num ≠ 0 := fun z => absurd h0 (by rw [Rat.num_eq_zero.mp z]; decide)
    omega
  have hd0 := den_pos q
  have eN : q.num = (q.num.toNat : Int) := by omega
  refine sj_unpack [2, 3] G.calm (ej_dat (d := .tuple [.int q.num, .int (q.den : Int)]) 1) (pgs_cons (pg_name (i := 2) G.nd rfl (Or.inl rfl)) (pgs_cons (pg_name (i := 3) G.nd rfl (Or.inl rfl)) pgs_nil)) rfl ?_
  refine sj_when (tj_ge (ej_dat 2) (ej_dat 3)) (fun h => ?_) (fun h => ?_)
  · have hge : (q.den : Int) ≤ q.num := of_decide_eq_true h
    have hk : 0 ≤ k := by
      refine Decidable.byContradiction fun hk => ?_
      have h4 : pw b (k + 1) ≤ pw b 0 := pw_mono h2 (by omega)
      rw [show (0 : Int) = ((0 : Nat) : Int) - (0 : Nat) by omega] at h4
      have := (lt_pw_iff h2 q 0 0).mp (ltle h3 h4)
      rw [Nat.pow_zero] at this; omega
    have ek : k = (k.toNat : Int) := by omega
    have a1 := (pw_le_iff h2 q 0 k.toNat).mp (by rw [show ((k.toNat : Nat) : Int) - (0 : Nat) = k by omega]; exact h1)
    have a3 := (lt_pw_iff h2 q 0 (k.toNat + 1)).mp (by rw [show ((k.toNat + 1 : Nat) : Int) - (0 : Nat) = k + 1 by omega]; exact h3)
    rw [Nat.pow_zero, eN] at a1 a3
    have b1 : q.den * b ^ k.toNat ≤ q.num.toNat := by
      have : ((q.den * b ^ k.toNat : Nat) : Int) ≤ (q.num.toNat : Int) := by rw [Int.natCast_mul]; omega
      omega
    have b3 : q.num.toNat < q.den * b ^ (k.toNat + 1) := by
      have : (q.num.toNat : Int) < ((q.den * b ^ (k.toNat + 1) : Nat) : Int) := by rw [Int.natCast_mul]; omega
      omega
    have hq2 := hq.nu
    have hw : q.num.toNat / q.den < 2 ^ 8900 := by
      unfold Bd at hq2
      have : 2 ^ n ≤ 2 ^ 8900 := Nat.pow_le_pow_right (by decide) hn
      exact Nat.lt_of_le_of_lt (Nat.div_le_self _ _) (by omega)
    have ew : q.num / (q.den : Int) = ((q.num.toNat / q.den : Nat) : Int) := by rw [Int.natCast_ediv, ← eN]
    rw [ek]
    refine sj_ret (ej_call c_u_power_within (G.le (by decide)) (aj_cons (ej_dat 0) (aj_cons (ej_is (ej_fdiv (ej_dat 2) (ej_dat 3) (cdv hq.de hd0 (by omega))) (congrArg PyData.int ew)) aj_nil)) (R_within.mk b _ k.toNat B h2 hw ?_ ?_)) ⟨rfl, rfl⟩
    · exact (Nat.le_div_iff_mul_le q.den_pos).mpr (by rw [Nat.mul_comm]; exact b1)
    · exact (Nat.div_lt_iff_lt_mul q.den_pos).mpr (by rw [Nat.mul_comm]; exact b3)
  · have hlt : q.num < (q.den : Int) := by have := of_decide_eq_false h; omega
    have hk : k < 0 := by
      refine Decidable.byContradiction fun hk => ?_
      have h4 : pw b 0 ≤ pw b k := pw_mono h2 (by omega)
      rw [show (0 : Int) = ((0 : Nat) : Int) - (0 : Nat) by omega] at h4
      have := (pw_le_iff h2 q 0 0).mp (Rat.le_trans h4 h1)
      rw [Nat.pow_zero] at this; omega
    generalize hm : (-1 - k).toNat = m
    have ek : k = -1 - (m : Int) := by omega
    have a1 := (pw_le_iff h2 q (m + 1) 0).mp (by rw [show ((0 : Nat) : Int) - (m + 1 : Nat) = k by omega]; exact h1)
    have a3 := (lt_pw_iff h2 q m 0).mp (by rw [show ((0 : Nat) : Int) - (m : Nat) = k + 1 by omega]; exact h3)
    rw [Nat.pow_zero, eN] at a1 a3
    have b1 : q.den ≤ q.num.toNat * b ^ (m + 1) := by
      have : (q.den : Int) ≤ ((q.num.toNat * b ^ (m + 1) : Nat) : Int) := by rw [Int.natCast_mul]; omega
      omega
    have b3 : q.num.toNat * b ^ m < q.den := by
      have : ((q.num.toNat * b ^ m : Nat) : Int) < (q.den : Int) := by rw [Int.natCast_mul]; omega
      omega
    have hq2 := hq.de
    have hn1 : 0 < q.num.toNat := by omega
    have hw : (q.den - 1) / q.num.toNat < 2 ^ 8900 := by
      unfold Bd at hq2
      rw [Int.natAbs_natCast] at hq2
      have : 2 ^ d ≤ 2 ^ 8900 := Nat.pow_le_pow_right (by decide) hd
      exact Nat.lt_of_le_of_lt (Nat.div_le_self _ _) (by omega)
    have ew : ((q.den : Int) - 1) / q.num = (((q.den - 1) / q.num.toNat : Nat) : Int) := by
      rw [Int.natCast_ediv, ← eN]; congr 1; have := q.den_pos; omega
    rw [ek]
    refine sj_ret (ej_sub (ej_neg ej_int) (ej_call c_u_power_within (G.le (by decide)) (aj_cons (ej_dat 0) (aj_cons (ej_is (ej_fdiv (ej_sub (ej_dat 3) ej_int) (ej_dat 2) (cdv hq.nu hn0 (by omega))) (congrArg PyData.int ew)) aj_nil)) (R_within.mk b _ m B h2 hw ?_ ?_))) ⟨rfl, rfl⟩
    · exact (Nat.le_div_iff_mul_le hn1).mpr (by rw [Nat.mul_comm]; omega)
    · exact (Nat.div_lt_iff_lt_mul hn1).mpr (by rw [Nat.mul_comm]; omega)

abbrev s_u_power_within : Stmt := topS 10
theorem sc_u_power_within : FnScope ["base", "whole", "squares", "power", "k", "left", "square"] ["base", "whole"] (defScope s_u_power_within) := ⟨rfl, rfl, rfl, by decide +kernel, rfl, by decide +kernel, by decide +kernel⟩

theorem c_of_u_power_within (m_rev : mg "reversed" = none) (T : At K mg "_power_within" s_u_power_within ["base", "whole"]) : Cal P w K mg base "_power_within" 4 R_within :=
  cal_at T sc_u_power_within (by rintro _ _ _ _ ⟨⟩; rfl) fun f cd0 A out s H E G Γ B r B' hR => by
  obtain ⟨b, wh, k0, B, h2, hw, h1, h3⟩ := hR
  refine sj_own 2 G.nd (fj_lstD ad_nil (by decide)) (by exact Nat.le_of_ble_eq_true rfl) ?_
  refine ow_set 3 G.nd (by decide) (ej_dat 0) ?_
  refine ow_while (fun Γ' B' acc => ∃ j : Nat, Γ' = [.da (.int b), .da (.int wh), .no, .da (.int ((b ^ 2 ^ j : Nat) : Int)), .no, .no, .no] ∧ B' = B ∧ acc = sqs b j ∧ ∀ i, i < j → b ^ 2 ^ i ≤ wh) (fun Γ' _ _ => (wh + 1 : Nat) - (intAt Γ' 3).toNat)
    ⟨0, by rw [Nat.pow_zero, Nat.pow_one]; rfl, rfl, rfl, fun i hi => absurd hi (by omega)⟩ ?_
  rintro Γ' B' acc ⟨j, rfl, rfl, rfl, hj⟩
  have hj14 := few_sq h2 hw hj
  refine ⟨_, tj_le (ej_dat 3) (ej_dat 1), fun h => ?_, fun h => ?_⟩
  · have hle : b ^ 2 ^ j ≤ wh := by have := of_decide_eq_true h; omega
    have hbd : Bd 8900 ((b ^ 2 ^ j : Nat) : Int) := Bd.nat (Nat.lt_of_le_of_lt hle hw)
    refine ow_app G.nd (ej_dat 3) (by rw [sqs_len]; omega) ?_
    refine ow_set 3 G.nd (by decide) (ej_mul (ej_dat 3) (ej_dat 3) (cmz hbd hbd)) (ow_nil ⟨⟨j + 1, ?_, rfl, sqs_succ b j, fun i hi => ?_⟩, ?_⟩)
    · rw [sq_next]; rfl
    · by_cases e : i = j
      · subst e; exact hle
      · exact hj i (by omega)
    · show (wh + 1 : Nat) - (((b ^ 2 ^ j : Nat) : Int) * ((b ^ 2 ^ j : Nat) : Int)).toNat < (wh + 1 : Nat) - (((b ^ 2 ^ j : Nat) : Int)).toNat
      rw [sq_next, Int.toNat_natCast, Int.toNat_natCast]
      have : b ^ 2 ^ j < b ^ 2 ^ (j + 1) := Nat.pow_lt_pow_right (by omega) (Nat.pow_lt_pow_right (by decide) (by omega))
      omega
  · have hgt : wh < b ^ 2 ^ j := by have := of_decide_eq_false h; omega
    have w1 : 1 ≤ wh := Nat.le_trans (Nat.pow_pos (by omega)) h1
    refine ow_end ?_
    refine sj_par 4 5 G.nd G.calm (aj_cons ej_int (aj_cons (ej_dat 1) aj_nil)) ?_ (by decide) (by rfl)
    refine sj_forRev (ds := sqs b j) 6 G.nd G.calm m_rev (fun i Γ' B2 => ∃ (k l : Nat) (z : VD), Γ' = [.da (.int b), .da (.int wh), .da (.list (sqs b j)), .da (.int ((b ^ 2 ^ j : Nat) : Int)), .da (.int k), .da (.int l), z] ∧ B2 = B' ∧
      l = wh / b ^ (k * 2 ^ (j - i)) ∧ l < b ^ 2 ^ (j - i) ∧ 1 ≤ l) (ej_dat 2) ⟨0, wh, .no, rfl, rfl, by rw [Nat.zero_mul, Nat.pow_zero, Nat.div_one], hgt, w1⟩ (fun i y Γ' B2 hi hy hP => ?_) (fun Γ' B2 hP => ?_)
    · obtain ⟨k, l, z, rfl, rfl, e1, e2, e3⟩ := hP
      rw [sqs_len] at hi hy
      obtain rfl := sqs_at hy
      have em : j - i = (j - 1 - i) + 1 := by omega
      have em' : j - (i + 1) = j - 1 - i := by omega
      rw [em] at e1 e2
      have hbs : Bd 8900 ((b ^ 2 ^ (j - 1 - i) : Nat) : Int) := Bd.nat (Nat.lt_of_le_of_lt (hj _ (by omega)) hw)
      have hps : 0 < b ^ 2 ^ (j - 1 - i) := Nat.pow_pos (by omega)
      refine sj_set 4 G.nd (ej_mulC ej_int (ej_dat 4) (.inl (by decide))) ?_
      refine sj_ifM (fun Γ3 B3 => ∃ (k l : Nat) (z : VD), Γ3 = [.da (.int b), .da (.int wh), .da (.list (sqs b j)), .da (.int ((b ^ 2 ^ j : Nat) : Int)), .da (.int k), .da (.int l), z] ∧ B3 = B2 ∧
        l = wh / b ^ (k * 2 ^ (j - (i + 1))) ∧ l < b ^ 2 ^ (j - (i + 1)) ∧ 1 ≤ l) (tj_le (ej_dat 6) (ej_dat 5)) (fun h => ?_) (fun h => ?_) (fun Γ3 B3 q => sj_nil q)
      · have hs : b ^ 2 ^ (j - 1 - i) ≤ l := by have := of_decide_eq_true h; omega
        obtain ⟨q1, q2, q3⟩ := step_yes h2 e1 e2 e3 hs
        refine sj_set 4 G.nd (ej_add (ej_dat 4) ej_int) ?_
        refine sj_set 5 G.nd (ej_fdiv (ej_dat 5) (ej_dat 6) (cdv hbs (by omega))) (sj_nil ?_)
        rw [em']
        exact ⟨2 * k + 1, l / b ^ 2 ^ (j - 1 - i), _, by rw [← Int.natCast_ediv]; rfl, rfl, q1, q2, q3⟩
      · have hs : ¬ b ^ 2 ^ (j - 1 - i) ≤ l := by have := of_decide_eq_false h; omega
        obtain ⟨q1, q2⟩ := step_no (k := k) e1 hs
        refine sj_nil ?_
        rw [em']
        exact ⟨2 * k, l, _, rfl, rfl, q1, q2, e3⟩
    · obtain ⟨k, l, z, rfl, rfl, e1, e2, e3⟩ := hP
      rw [sqs_len, Nat.sub_self] at e1 e2
      obtain ⟨q1, q2⟩ := log_end h2 e1 e2 e3
      obtain rfl := pow_uniq h2 q1 q2 h1 h3
      exact sj_ret (ej_dat 4) ⟨rfl, rfl⟩

abbrev s_u_twos_in : Stmt := topS 11
theorem sc_u_twos_in : FnScope ["n"] ["n"] (defScope s_u_twos_in) := ⟨rfl, rfl, rfl, by decide +kernel, rfl, by decide +kernel, by decide +kernel⟩

theorem c_of_u_twos_in (T : At K mg "_twos_in" s_u_twos_in ["n"]) : Cal P w K mg base "_twos_in" 1 R_twos :=
  cal_at T sc_u_twos_in (by rintro _ _ _ _ ⟨⟩; rfl) fun f cd0 A out s H E G Γ B r B' hR => by
  obtain ⟨k, a, B⟩ := hR
  exact sj_ret (ej_sub (ej_bits (ej_band (ej_dat 0) (ej_neg (ej_dat 0)))) ej_int) ⟨by rw [tw_low, bits_two], rfl⟩

abbrev s_worth : Stmt := topS 13
theorem sc_worth : FnScope ["form", "number", "_", "s", "c", "e"] ["form", "number"] (defScope s_worth) := ⟨rfl, rfl, rfl, by decide +kernel, rfl, by decide +kernel, by decide +kernel⟩

theorem c_of_worth (c_times : Cal P w K mg base "times" 4 (R_two (· * ·))) (c_power_of : Cal P w K mg base "power_of" 5 R_power_of) (T : At K mg "worth" s_worth ["form", "number"]) : Cal P w K mg base "worth" 6 R_worth :=
  cal_at T sc_worth (by rintro _ _ _ _ ⟨⟩; rfl) fun f cd0 A out s H E G Γ B r B' hR => by
  obtain ⟨b, p, low, high, s, c, e, B, F, hv⟩ := hR
  obtain ⟨h1, h3, h4, h5, h6⟩ := hv
  have b2 := F.b2; have bp := F.bp; have lo := F.lo; have hi := F.hi
  refine sj_unpack [2, 3, 4, 5] G.calm (ej_dat (d := .tuple [.str "num", .int s, .int c, .int e]) 1) (pgs_cons (pg_name (i := 2) G.nd rfl (Or.inl rfl)) (pgs_cons (pg_name (i := 3) G.nd rfl (Or.inl rfl)) (pgs_cons (pg_name (i := 4) G.nd rfl (Or.inl rfl)) (pgs_cons (pg_name (i := 5) G.nd rfl (Or.inl rfl)) pgs_nil)))) rfl ?_
  have hc : Qz 700 1 (((if s = 1 then -c else c : Int)) : Rat) := by
    refine ⟨?_, by rw [Rat.den_intCast]; unfold Bd; decide⟩
    rw [Rat.num_intCast]; unfold Bd
    split <;> omega
  refine sj_ret (ej_call c_times (G.le (by decide)) (aj_cons (ej_is (y := fq ((if s = 1 then -c else c : Int) : Rat)) (ej_tupD (ad_cons (ej_if (d := .da (.int (if s = 1 then -c else c))) (tj_eqI G.hu (ej_dat 3) ej_int) (fun h => ?_) (fun h => ?_)) (ad_cons ej_int ad_nil)) (Nat.le_of_ble_eq_true rfl)) (fq_int _).symm)
    (aj_cons (ej_call c_power_of (G.le (by decide)) (aj_cons (ej_at (ej_dat (d := .tuple [.int b, .int p, .int low, .int high]) 0)) (aj_cons (ej_dat 5) aj_nil)) (R_power_of.mk b e B (by omega) F.b6 (by omega) (by omega))) aj_nil))
    (R_two.mk _ _ _ _ _ _ B hc (F.qz h5 h6) (by decide) (by decide) (by decide))) ⟨rfl, rfl⟩
  · rw [if_pos (of_decide_eq_true h)]; exact ej_neg (ej_dat 4)
  · rw [if_neg (of_decide_eq_false h)]; exact ej_dat 4

abbrev s_number_of : Stmt := topS 14
theorem sc_number_of : FnScope ["form", "fraction", "base", "digits", "low", "high", "unsigned", "e", "c", "d"] ["form", "fraction"] (defScope s_number_of) := ⟨rfl, rfl, rfl, by decide +kernel, rfl, by decide +kernel, by decide +kernel⟩

theorem c_of_number_of (m_max : mg "max" = none) (c_zero : Cal P w K mg base "zero" 4 R_zero) (c_size_of : Cal P w K mg base "size_of" 4 (R_one fun x => fq (absQ x))) (c_power_below : Cal P w K mg base "power_below" 5 R_pbelow) (c_times : Cal P w K mg base "times" 4 (R_two (· * ·))) (c_power_of : Cal P w K mg base "power_of" 5 R_power_of)
    (c_sign_of_fraction : Cal P w K mg base "sign_of_fraction" 4 (R_one fun x => .int (sgn x))) (T : At K mg "number_of" s_number_of ["form", "fraction"]) : Cal P w K mg base "number_of" 6 R_numofS :=
  cal_at T sc_number_of (by rintro _ _ _ _ ⟨⟩; rfl) fun f cd0 A out s H E0 G Γ B r B' hR => by
  obtain ⟨b, p, low, high, q, B, F, hq⟩ := hR
  have hn : 3040 ≤ 6000 := by decide
  have hd : 2341 ≤ 6000 := by decide
  have b2 := F.b2; have p2 := F.p2; have p7 := F.p7; have flo := F.lo; have fhi := F.hi
  unfold numofP
  refine sj_when (x := decide (q = 0)) (tj_is (tj_eqI G.hu (ej_at (ej_dat (d := .tuple [.int q.num, .int (q.den : Int)]) 1)) ej_int) (decide_eq_decide.mpr Rat.num_eq_zero)) (fun h => ?_) (fun h => ?_)
  · rw [if_pos (of_decide_eq_true h)]
    exact sj_ret (ej_call c_zero (G.le (by decide)) (aj_cons (ej_dat 0) (aj_cons ej_int aj_nil)) (R_zero.mk b p low high 0 B)) ⟨rfl, rfl⟩
  have h0 := of_decide_eq_false h
  rw [if_neg h0]
  have hpos : 0 < absQ q := absQ_pos h0
  have h0' := Rat.le_of_lt hpos
  have qa := hq.abs
  have hE := eQ_is (p := p) b2 low (absQ q)
  have he := F.e_hi qa h0' hE (by omega)
  have hlo := hE.1
  refine sj_unpack [2, 3, 4, 5] G.calm (ej_dat (d := .tuple [.int b, .int p, .int low, .int high]) 0) (pgs_cons (pgN 2 G.nd) (pgs_cons (pgN 3 G.nd) (pgs_cons (pgN 4 G.nd) (pgs_cons (pgN 5 G.nd) pgs_nil)))) rfl ?_
  refine sj_set 6 G.nd (ej_call c_size_of (G.le (by decide)) (aj_cons (ej_dat (d := fq q) 1) aj_nil) (R_one.mk q B)) ?_
  obtain ⟨k, k1, k3⟩ := log_ex b2 hpos
  refine sj_set 7 G.nd (ej_is (y := .int (eQ b p low (absQ q))) (ej_max G.calm m_max (ej_dat 4) (ej_add (ej_sub (ej_call c_power_below (G.le (by decide)) (aj_cons (ej_dat 2) (aj_cons (ej_dat 6) aj_nil)) (R_pbelow.mk b (absQ q) k 3040 2341 B b2 hpos qa (by omega) (by omega) k1 k3)) (ej_dat 3)) ej_int)) (congrArg PyData.int (e_of_log b2 k1 k3))) ?_
  generalize hee : eQ b p low (absQ q) = e at *
  have hD := F.D_bd qa h0' hE (by omega) (by omega)
  have pn := pw_num b b2 (-e)
  rw [Int.neg_neg] at pn
  have hup : Bd 2340 ((b ^ (-e).toNat : Nat) : Int) := Bd.nat (F.pow_lo hlo)
  have hdn : Bd 5400 ((b ^ e.toNat : Nat) : Int) := by
    rcases F.e_bd qa h0' hE with ⟨z, _, _⟩ | z
    · have hd1 : 1 ≤ (absQ q).den := (absQ q).den_pos
      exact (Bd.nat (Nat.lt_of_le_of_lt (Nat.le_mul_of_pos_left _ hd1) z)).le (by decide)
    · have h1 : b ^ e.toNat < 2 ^ 2340 := by
        rcases z with z | z
        · have : e.toNat = 0 := by omega
          rw [this, Nat.pow_zero]; exact Nat.one_lt_two_pow (by decide)
        · rw [z]; exact F.pow_hi F.lh
      exact (Bd.nat h1).le (by decide)
  have qp : Qz 2340 5400 (pw b (-e)) := ⟨by rw [pn.1]; exact hup, by rw [pn.2]; exact hdn⟩
  have hud := unit_den b2 e (absQ q)
  have hun := unit_num (q := absQ q) b2 (e := e)
  refine sj_unpack [8, 9] (ds := [.int (absQ q * pw b (-e)).num, .int ((absQ q * pw b (-e)).den : Int)]) G.calm (ej_call c_times (G.le (by decide)) (aj_cons (ej_dat (d := fq (absQ q)) 6) (aj_cons (ej_call c_power_of (G.le (by decide)) (aj_cons (ej_dat 2) (aj_cons (ej_neg (ej_dat 7)) aj_nil)) (R_power_of.mk b (-e) B (by omega) F.b6 (by omega) (by omega))) aj_nil)) (R_two.mk _ _ _ _ _ _ B qa qp (by decide) (by decide) (by decide))) (pgs_cons (pgN 8 G.nd) (pgs_cons (pgN 9 G.nd) pgs_nil)) rfl ?_
  generalize absQ q * pw b (-e) = u at *
  refine sj_when (x := decide (high < e) || !decide ((u.den : Int) = 1)) (tj_w (wj_or (tj_gt (ej_dat 7) (ej_dat 5)) fun _ => wj_or1 (tj_neI G.hu (ej_dat 9) ej_int))) (fun h => ?_) (fun h => ?_)
  · have h' : high < e ∨ rQ b e (absQ q) ≠ 0 := by
      rcases Bool.or_eq_true_iff.mp h with z | z
      · exact .inl (of_decide_eq_true z)
      · exact .inr fun y => by rw [decide_eq_true (hud.mpr y)] at z; cases z
    rw [if_pos h']
    exact sj_ret ej_non ⟨rfl, rfl⟩
  · have h' := Bool.or_eq_false_iff.mp h
    have he2 := of_decide_eq_false h'.1
    have hr : rQ b e (absQ q) = 0 := hud.mp (by simpa using h'.2)
    rw [if_neg (fun z => z.elim he2 fun z => z hr)]
    have hu := hun hr
    exact sj_ret (ej_tupD (ad_cons ej_str (ad_cons (ej_call c_sign_of_fraction (G.le (by decide)) (aj_cons (ej_dat (d := fq q) 1) aj_nil) (R_one.mk q B)) (ad_cons (ej_dat 8) (ad_cons (ej_dat 7) ad_nil)))) (Nat.le_of_ble_eq_true rfl)) ⟨by rw [hu, Rat.num_intCast]; rfl, rfl⟩

abbrev s_zero : Stmt := topS 15
theorem sc_zero : FnScope ["form", "s"] ["form", "s"] (defScope s_zero) := ⟨rfl, rfl, rfl, by decide +kernel, rfl, by decide +kernel, by decide +kernel⟩

theorem c_of_zero (T : At K mg "zero" s_zero ["form", "s"]) : Cal P w K mg base "zero" 4 R_zero :=
  cal_at T sc_zero (by rintro _ _ _ _ ⟨⟩; rfl) fun f cd0 A out s H E G Γ B r B' hR => by
  obtain ⟨b, p, low, high, s, B⟩ := hR
  exact sj_ret (ej_tupD (ad_cons ej_str (ad_cons (ej_dat 1) (ad_cons ej_int (ad_cons (ej_at (ej_dat (d := .tuple [.int b, .int p, .int low, .int high]) 0)) ad_nil)))) (Nat.le_of_ble_eq_true rfl)) ⟨rfl, rfl⟩

abbrev s_is_within : Stmt := topS 17
theorem sc_is_within : FnScope ["form", "other"] ["form", "other"] (defScope s_is_within) := ⟨rfl, rfl, rfl, by decide +kernel, rfl, by decide +kernel, by decide +kernel⟩

theorem c_of_is_within (c_lost_number : Cal P w K mg base "lost_number" 7 R_lost) (T : At K mg "is_within" s_is_within ["form", "other"]) : Cal P w K mg base "is_within" 8 R_isin :=
  cal_at T sc_is_within (by rintro _ _ _ _ ⟨⟩; rfl) fun f cd0 A out s H E0 G Γ B r B' hR => by
  obtain ⟨b, p, low, high, b', p', low', high', B, F, F'⟩ := hR
  exact sj_ret (ej_isN (ej_call c_lost_number (G.le (by decide)) (aj_cons (ej_dat 0) (aj_cons (ej_dat 1) aj_nil)) (R_lost.mk b p low high b' p' low' high' B F F'))) ⟨rfl, rfl⟩

abbrev s_lost_number : Stmt := topS 18
theorem sc_lost_number : FnScope ["form", "other", "base", "digits", "low", "high", "greatest", "e", "c", "number"] ["form", "other"] (defScope s_lost_number) := ⟨rfl, rfl, rfl, by decide +kernel, rfl, by decide +kernel, by decide +kernel⟩

theorem c_of_lost_number (m_range : mg "range" = none) (c_integer_power : Cal P w K mg base "integer_power" 4 R_pow) (c_worth : Cal P w K mg base "worth" 6 R_worth) (c_number_of : Cal P w K mg base "number_of" 6 R_numofS) (T : At K mg "lost_number" s_lost_number ["form", "other"]) : Cal P w K mg base "lost_number" 7 R_lost :=
  cal_at T sc_lost_number (by rintro _ _ _ _ ⟨⟩; rfl) fun f cd0 A out s H E0 G Γ B r B' hR => by
  obtain ⟨b, p, low, high, b', p', low', high', B, F, F'⟩ := hR
  have p7 := F.p7; have flo := F.lo; have fhi := F.hi; have lh := F.lh
  have P := F.pows; have l2 := P.l2; have ge := P.ge
  refine sj_unpack [2, 3, 4, 5] G.calm (ej_dat (d := .tuple [.int b, .int p, .int low, .int high]) 0) (pgs_cons (pgN 2 G.nd) (pgs_cons (pgN 3 G.nd) (pgs_cons (pgN 4 G.nd) (pgs_cons (pgN 5 G.nd) pgs_nil)))) rfl ?_
  refine sj_set 6 (d := .da (.int (((b ^ p : Nat) : Int) - 1))) G.nd (ej_sub (ej_call c_integer_power (G.le (by decide)) (aj_cons (ej_dat 2) (aj_cons (ej_dat 3) aj_nil)) (R_pow.mk b p B F.b6 (by omega))) ej_int) ?_
  generalize hM : ((b ^ p : Nat) : Int) - 1 = M
  obtain ⟨Pf, hPf⟩ : ∃ Pf : Int → Int → Bool, Pf = fun (c e : Int) => decide (exQ b' p' low' high' ((c : Rat) * pw b e)) := ⟨_, rfl⟩
  have hV : lostV b p low high b' p' low' high' = lostG Pf M (high + 1 - low).toNat low := by unfold lostV; rw [hPf, hM]
  rw [hV]
  have step : ∀ c e, 0 ≤ c → c < ((b ^ p : Nat) : Int) → low ≤ e → e ≤ high → Vok b p low high (.num 0 c e) ∧ isNone (numofP b' p' low' high' ((Va.num 0 c e).wQ b)) = !Pf c e := fun c e h1 h2 h3 h4 => by
    refine ⟨⟨.inl rfl, h1, h2, h3, h4⟩, ?_⟩
    rw [numof_none F', hPf]
    show (!decide _) = !decide _
    rw [decide_eq_decide.mpr]
    rw [← exQ_abs, absQ_w F.b2 h1]
  clear hPf hV
  refine sj_forR2 7 (n := (high + 1 - low).toNat) G.nd G.calm m_range (fun k Γ' B' => (∃ g7 g8 g9, Γ' = [.da (fmP b p low high), .da (fmP b' p' low' high'), .da (.int b), .da (.int p), .da (.int low), .da (.int high), .da (.int M), g7, g8, g9]) ∧ B' = B ∧ lostG Pf M (high + 1 - low).toNat low = lostG Pf M ((high + 1 - low).toNat - k) (low + k))
    (aj_cons (ej_dat 4) (aj_cons (ej_add (ej_dat 5) ej_int) aj_nil)) rfl (by unfold Bd; omega) (by unfold Bd; omega) ⟨⟨_, _, _, rfl⟩, rfl, by rw [Nat.sub_zero, show low + ((0 : Nat) : Int) = low by omega]⟩ (fun k Γ' B1 hk hP => ?_) (fun Γ' B1 hP => ?_)
  · obtain ⟨⟨g7, g8, g9, rfl⟩, rfl, hL⟩ := hP
    have hk2 : (high + 1 - low).toNat - k = ((high + 1 - low).toNat - (k + 1)) + 1 := by omega
    have hke : low + (k : Nat) ≤ high := by omega
    rw [hk2] at hL
    rw [hL]
    have key : ∀ c, (c = M ∨ c = M - 1) → Vok b p low high (.num 0 c (low + (k : Nat))) ∧ isNone (numofP b' p' low' high' ((Va.num 0 c (low + (k : Nat))).wQ b)) = !Pf c (low + (k : Nat)) := fun c hc => step c (low + (k : Nat)) (by omega) (by omega) (by omega) hke
    generalize he : low + ((k : Nat) : Int) = e at *
    refine sj_forT 8 (ds := [.int M, .int (M - 1)]) G.nd G.calm (fun i Γ' B' => (∃ g8 g9, Γ' = [.da (fmP b p low high), .da (fmP b' p' low' high'), .da (.int b), .da (.int p), .da (.int low), .da (.int high), .da (.int M), .da (.int e), g8, g9]) ∧ B' = B1 ∧ (1 ≤ i → Pf M e = true) ∧ (2 ≤ i → Pf (M - 1) e = true)) (ej_tupD (ad_cons (ej_dat 6) (ad_cons (ej_sub (ej_dat 6) ej_int) ad_nil)) (Nat.le_of_ble_eq_true rfl)) ⟨⟨_, _, rfl⟩, rfl, fun z => absurd z (by decide), fun z => absurd z (by decide)⟩ (fun i y Γ' B2 hy hP => ?_) (fun Γ' B2 hP => ?_)
    · obtain ⟨⟨h8, h9, rfl⟩, rfl, q1, q2⟩ := hP
      have gen : ∃ c, y = .int c ∧ (c = M ∨ c = M - 1) ∧ (Pf c e = false → lostG Pf M (((high + 1 - low).toNat - (k + 1)) + 1) e = some (c, e)) ∧ (Pf c e = true → (1 ≤ i + 1 → Pf M e = true) ∧ (2 ≤ i + 1 → Pf (M - 1) e = true)) := by
        rcases i with _ | _ | i
        · cases hy
          refine ⟨M, rfl, .inl rfl, fun h => ?_, fun h => ⟨fun _ => h, fun z => absurd z (by decide)⟩⟩
          unfold lostG; rw [if_pos h]
        · cases hy
          refine ⟨M - 1, rfl, .inr rfl, fun h => ?_, fun h => ⟨fun _ => q1 (by omega), fun _ => h⟩⟩
          unfold lostG; rw [if_neg (by rw [q1 (by omega)]; decide), if_pos h]
        · cases hy
      obtain ⟨c, rfl, hc, hf, ht⟩ := gen
      obtain ⟨hv, hn⟩ := key c hc
      refine sj_set 9 (d := .da (Va.num 0 c e).d) G.nd (ej_tupD (ad_cons ej_str (ad_cons ej_int (ad_cons (ej_dat 8) (ad_cons (ej_dat 7) ad_nil)))) (Nat.le_of_ble_eq_true rfl)) ?_
      refine sj_when (x := !Pf c e) (tj_is (tj_isN (ej_call c_number_of (G.le (by decide)) (aj_cons (ej_dat 1) (aj_cons (ej_call c_worth (G.le (by decide)) (aj_cons (ej_dat 0) (aj_cons (ej_dat (d := (Va.num 0 c e).d) 9) aj_nil)) (R_worth.mk b p low high 0 c e B2 F hv)) aj_nil)) (R_numofS.mk b' p' low' high' _ B2 F' (F.wz hv)))) hn) (fun h => ?_) (fun h => ?_)
      · rw [hf (by simpa using h)]
        exact sj_ret (ej_dat (d := (Va.num 0 c e).d) 9) ⟨rfl, rfl⟩
      · exact sj_nil ⟨⟨_, _, rfl⟩, rfl, ht (by simpa using h)⟩
    · obtain ⟨⟨h8, h9, rfl⟩, rfl, q1, q2⟩ := hP
      refine sj_nil ⟨⟨_, _, _, rfl⟩, rfl, ?_⟩
      have e1 := q1 (Nat.le_of_ble_eq_true rfl)
      have e2 := q2 (Nat.le_of_ble_eq_true rfl)
      try rw [hL]
      conv => lhs; unfold lostG
      rw [if_neg (by rw [e1]; decide), if_neg (by rw [e2]; decide)]
      congr 1; omega
  · obtain ⟨⟨g7, g8, g9, rfl⟩, rfl, hL⟩ := hP
    rw [Nat.sub_self] at hL
    rw [hL]
    exact sj_ret ej_non ⟨rfl, rfl⟩

abbrev s_l_bag : Stmt := topS 20
theorem sc_l_bag : FnScope ["_law_script", "_law_cell"] ["_law_script"] (defScope s_l_bag) := ⟨rfl, rfl, rfl, by decide +kernel, rfl, by decide +kernel, by decide +kernel⟩

theorem c_of_l_bag (m_abs : mg "abs" = none) (T : At K mg "_law_bag" s_l_bag ["_law_script"]) : Cal P w K mg base "_law_bag" 4 R_bag :=
  cal_at T sc_l_bag (by rintro _ _ _ _ ⟨⟩; rfl) fun f cd0 A out s H E G Γ B r B' hR => by
  obtain ⟨ns, B, hl⟩ := hR
  refine sj_ret (ej_lstD (ad_cons ej_int (ad_cons ej_int (ad_cons ej_int (ad_cons (ej_lc (j := 1) (x := "_law_cell") G.nd G.calm (blkOk_by (N := ["_law_script", "_law_cell"]) (sc := defScope s_l_bag) (by decide +kernel)) (fun _ _ _ _ _ => pg_name (i := 1) G.nd rfl (Or.inl rfl))
    (rj_lc (ds := (ns.take 63).map .int) (ys := ((ns.take 63).map absI).map .int) (fun _ => B) (ej_is (ej_sliceScr (ej_var 0 (d := .scr ns) rfl (fun z => nomatch z)) oj_none (oj_some ej_int)) (congrArg PyData.list (cut_head ns 63)))
      (by simp) (by rw [List.length_map, List.length_take]; omega) ?_)) ad_nil)))) (Nat.le_of_ble_eq_true rfl)) ⟨rfl, rfl⟩
  intro i y z hy hz s H C cl fp
  rw [List.getElem?_map] at hy hz
  rw [List.getElem?_map] at hz
  obtain ⟨n, hn, rfl⟩ := Option.map_eq_some_iff.mp hy
  rw [hn] at hz
  cases hz
  exact ej_abs m_abs (ej_dat 1)

abbrev s_l_take : Stmt := topS 21
theorem sc_l_take : FnScope ["_law_bag_here", "_law_many", "_law_cell", "_law_stirred", "_law_value", "_law_begin", "_law_second"] ["_law_bag_here", "_law_many"] (defScope s_l_take) := ⟨rfl, rfl, rfl, by decide +kernel, rfl, by decide +kernel, by decide +kernel⟩

theorem c_of_l_take (m_int : mg "int" = none) (T : At K mg "_law_take" s_l_take ["_law_bag_here", "_law_many"]) : Cal P w K mg base "_law_take" 4 R_take :=
  cal_at T sc_l_take (by rintro _ _ _ _ ⟨⟩; rfl) fun f cd0 A out s H E G Γ B r B' hR => by
  obtain ⟨B, m, hm, hb, hc⟩ := hR
  refine sj_ifM (fun Γ' B2 => B2 = stir B ∧ Γ'[0]? = some .bag ∧ Γ'[1]? = some (.da (.int m)) ∧ Γ'.length = 7) (tj_eqI G.hu (ej_bagAt (k := 0) (ej_bag 0) ej_int rfl (.inl ⟨rfl, rfl⟩) fun _ _ => rfl) ej_int) (fun h => ?_) (fun h => ?_) ?_
  · have hx : B.x = 0 := of_decide_eq_true h
    refine sj_set 2 G.nd (ej_ixL (ej_catL (ej_sliceL (ej_bagAt (k := 3) (ej_bag 0) ej_int rfl (.inr (.inr (.inr ⟨rfl, rfl⟩))) fun _ _ => rfl) (oj_some (ej_bagAt (k := 2) (ej_bag 0) ej_int rfl (.inr (.inr (.inl ⟨rfl, rfl⟩))) fun _ _ => rfl)) oj_none) (ej_lstD (ad_cons ej_int ad_nil) (Nat.le_of_ble_eq_true rfl)) ?_) ej_int (drop_cell B) fun _ _ => rfl) ?_
    · have h63 : B.cs.length ≤ 63 := hc
      show (cutP (B.cs.map PyData.int) (some B.z) none).length + 1 ≤ 1000
      unfold cutP
      rw [List.length_take, List.length_drop, List.length_map]; omega
    refine sj_bagAug (ej_bag 0) ej_int ej_int rfl ?_
    refine sj_ifM (fun Γ' B2 => Γ' = [.bag, .da (.int m), .da (.int (cell B)), .no, .no, .no, .no] ∧ B2 = ⟨if 10 ^ 18 ≤ cell B then cell B else B.x, B.y, B.z + 1, B.cs⟩)
      (tj_ge (ej_dat 2) (ej_pow ej_int ej_int ⟨by decide, by decide, by decide⟩)) (fun h => ?_) (fun h => ?_) ?_
    · refine sj_bagSet (ej_dat 2) (ej_bag 0) ej_int (k := 0) rfl (.inl ⟨rfl, rfl⟩) (sj_nil ⟨rfl, ?_⟩)
      have h' : (10 : Int) ^ 18 ≤ cell B := of_decide_eq_true h
      rw [if_pos h']
    · refine sj_nil ⟨rfl, ?_⟩
      have h' : ¬ (10 : Int) ^ 18 ≤ cell B := of_decide_eq_false h
      rw [if_neg h']
    · rintro Γ2 B2 ⟨rfl, rfl⟩
      refine sj_set 3 G.nd (ej_add (ej_add (ej_mulC (ej_bagAt (k := 1) (ej_bag 0) ej_int rfl (.inr (.inl ⟨rfl, rfl⟩)) fun _ _ => rfl) ej_int (.inr (by decide))) (ej_mod (ej_int1 m_int (ej_dat 2)) ej_int (by decide)))
        (ej_mulC ej_int (ej_bagAt (k := 2) (ej_bag 0) ej_int rfl (.inr (.inr (.inl ⟨rfl, rfl⟩))) fun _ _ => rfl) (.inl (by decide)))) ?_
      refine sj_bagSet (ej_mod (ej_int1 m_int (ej_dat 3)) ej_int (by decide)) (ej_bag 0) ej_int (k := 1) rfl (.inr (.inl ⟨rfl, rfl⟩)) (sj_nil ⟨?_, rfl, rfl, rfl⟩)
      unfold stir
      rw [if_pos hx]
  · refine sj_nil ⟨?_, rfl, rfl, rfl⟩
    unfold stir
    rw [if_neg (of_decide_eq_false h)]
  · rintro Γ2 B2 ⟨rfl, g0, g1, gl⟩
    refine sj_when (tj_gt (ej_bagAt (k := 0) (ej_bag 0 g0) ej_int rfl (.inl ⟨rfl, rfl⟩) fun _ _ => rfl) ej_int) (fun h => ?_) (fun h => ?_)
    · have h' : 0 < (stir B).x := of_decide_eq_true h
      refine sj_set 4 G.nd (ej_mod (ej_int1 m_int (ej_bagAt (k := 0) (ej_bag 0 g0) ej_int rfl (.inl ⟨rfl, rfl⟩) fun _ _ => rfl)) (ej_dat 1 g1) hm) ?_
      have g0' : (Γ2.set 4 (.da (.int ((stir B).x % m))))[0]? = some .bag := by rw [List.getElem?_set_ne (by decide)]; exact g0
      have g1' : (Γ2.set 4 (.da (.int ((stir B).x % m))))[1]? = some (.da (.int m)) := by rw [List.getElem?_set_ne (by decide)]; exact g1
      have g4 : (Γ2.set 4 (.da (.int ((stir B).x % m))))[4]? = some (.da (.int ((stir B).x % m))) := List.getElem?_set_self (by omega)
      refine sj_bagSet (ej_fdiv (ej_int1 m_int (ej_bagAt (k := 0) (ej_bag 0 g0') ej_int rfl (.inl ⟨rfl, rfl⟩) fun _ _ => rfl)) (ej_dat 1 g1') (cdv hb hm)) (ej_bag 0 g0') ej_int (k := 0) rfl (.inl ⟨rfl, rfl⟩) ?_
      refine sj_ret (ej_dat 4 g4) ⟨?_, ?_⟩
      · unfold tkV; rw [if_pos h']
      · unfold tkB; rw [if_pos h']
    · have h' : ¬ 0 < (stir B).x := of_decide_eq_false h
      refine sj_set 5 G.nd (ej_mod (ej_int1 m_int (ej_mulC (ej_add (ej_bagAt (k := 1) (ej_bag 0 g0) ej_int rfl (.inr (.inl ⟨rfl, rfl⟩)) fun _ _ => rfl) ej_int) ej_int (.inr (by decide)))) ej_int (by decide)) ?_
      generalize hbg : (((stir B).y + 1) * 39373) % 1000000007 = bg
      have hb5 : 0 ≤ bg ∧ bg < 1000000007 := by rw [← hbg]; exact ⟨Int.emod_nonneg _ (by decide), Int.emod_lt_of_pos _ (by decide)⟩
      have g5 : (Γ2.set 5 (.da (.int bg)))[5]? = some (.da (.int bg)) := List.getElem?_set_self (by omega)
      refine sj_set 6 G.nd (ej_mod (ej_int1 m_int (ej_mulC (ej_mod (ej_int1 m_int (ej_mulC (ej_dat 5 g5) (ej_dat 5 g5) (.inl (by omega)))) ej_int (by decide)) ej_int (.inr (by decide)))) ej_int (by decide)) ?_
      have g6 : ((Γ2.set 5 (.da (.int bg))).set 6 (.da (.int ((bg * bg) % 998244353 * 30011 % 998244353))))[6]? = some (.da (.int ((bg * bg) % 998244353 * 30011 % 998244353))) := List.getElem?_set_self (by rw [List.length_set]; omega)
      have g1' : ((Γ2.set 5 (.da (.int bg))).set 6 (.da (.int ((bg * bg) % 998244353 * 30011 % 998244353))))[1]? = some (.da (.int m)) := by
        rw [List.getElem?_set_ne (by decide), List.getElem?_set_ne (by decide)]; exact g1
      refine sj_ret (ej_mod (ej_int1 m_int (ej_fdiv (ej_dat 6 g6) ej_int (cdv (show Bd 3 7 from by unfold Bd; decide) (by decide)))) (ej_dat 1 g1') hm) ⟨?_, ?_⟩
      · unfold tkV low; rw [if_neg h', hbg]
      · unfold tkB; rw [if_neg h']

abbrev s_l_some : Stmt := topS 22
theorem sc_l_some : FnScope ["_law_bag_here", "_law_things"] ["_law_bag_here", "_law_things"] (defScope s_l_some) := ⟨rfl, rfl, rfl, by decide +kernel, rfl, by decide +kernel, by decide +kernel⟩

theorem c_of_l_some (m_len : mg "len" = none) (c_l_take : Cal P w K mg base "_law_take" 4 R_take) (T : At K mg "_law_some" s_l_some ["_law_bag_here", "_law_things"]) : Cal P w K mg base "_law_some" 5 R_some :=
  cal_at T sc_l_some (by rintro _ _ _ _ ⟨⟩; rfl) fun f cd0 A out s H E G Γ B r B' hR => by
  obtain ⟨B, ds, h, hl, hc⟩ := hR
  have hb : Bd 8000 (ds.length : Int) := by
    have h10 : ds.length < 2 ^ 10 := by omega
    exact (Bd.nat h10).le (by decide)
  exact sj_ret (ej_ixL (ej_dat 1) (ej_call c_l_take (G.le (by decide)) (aj_cons (ej_bag 0) (aj_cons (ej_lenL m_len (ej_dat 1)) aj_nil)) (R_take.mk B _ (by omega) hb hc)) (pick_at ds B h) fun _ _ => rfl) ⟨rfl, rfl⟩


abbrev s_l_alike : Stmt := topS 23
theorem sc_l_alike : FnScope ["_law_found", "_law_due"] ["_law_found", "_law_due"] (defScope s_l_alike) := ⟨rfl, rfl, rfl, by decide +kernel, rfl, by decide +kernel, by decide +kernel⟩

theorem c_of_l_alike (m_repr : mg "repr" = none) (T : At K mg "_law_alike" s_l_alike ["_law_found", "_law_due"]) : Cal P w K mg base "_law_alike" 4 R_alikeA :=
  cal_at T sc_l_alike (by rintro _ _ _ _ ⟨⟩; rfl) fun f cd0 A out s H E G Γ B r B' hR => by
  obtain ⟨d, B, h, hb⟩ := hR
  rcases hb with hb | rfl | ⟨b, rfl⟩ | ⟨i, rfl⟩
  · refine sj_ret (ej_and (ej_eq G.hu (ej_dat 0) (ej_dat 1) h.shaped h.shaped) fun _ => (ej_one (ej_eqS (ej_repr G m_repr (ej_dat 0) hb h.shows) (ej_repr G m_repr (ej_dat 1) hb h.shows)))) ⟨?_, rfl⟩
    rw [eqv_refl_of h.shaped, decide_eq_true rfl]; rfl
  · refine sj_ret (ej_and (ej_eq G.hu (ej_dat 0) (ej_dat 1) h.shaped h.shaped) fun _ => (ej_one (ej_eqS (ej_reprN m_repr (ej_dat 0)) (ej_reprN m_repr (ej_dat 1))))) ⟨?_, rfl⟩
    rw [eqv_refl_of h.shaped, decide_eq_true rfl]; rfl
  · refine sj_ret (ej_and (ej_eq G.hu (ej_dat 0) (ej_dat 1) h.shaped h.shaped) fun _ => (ej_one (ej_eqS (ej_reprL m_repr (ej_dat 0)) (ej_reprL m_repr (ej_dat 1))))) ⟨?_, rfl⟩
    rw [eqv_refl_of h.shaped, decide_eq_true rfl]; rfl
  · have hi : i.natAbs.log2 < 1920 := of_decide_eq_true h.nice
    refine sj_ret (ej_and (ej_eq G.hu (ej_dat 0) (ej_dat 1) h.shaped h.shaped) fun _ => (ej_one (ej_eqS (ej_reprI hi m_repr (ej_dat 0)) (ej_reprI hi m_repr (ej_dat 1))))) ⟨?_, rfl⟩
    rw [eqv_refl_of h.shaped, decide_eq_true rfl]; rfl

abbrev s_l_is_int : Stmt := topS 24
theorem sc_l_is_int : FnScope ["_law_thing"] ["_law_thing"] (defScope s_l_is_int) := ⟨rfl, rfl, rfl, by decide +kernel, rfl, by decide +kernel, by decide +kernel⟩

theorem c_of_l_is_int (m_isinstance : mg "isinstance" = none) (m_int : mg "int" = none) (m_bool : mg "bool" = none) (T : At K mg "_law_is_int" s_l_is_int ["_law_thing"]) : Cal P w K mg base "_law_is_int" 4 R_isint :=
  cal_at T sc_l_is_int (by rintro _ _ _ _ ⟨⟩; rfl) fun f cd0 A out s H E0 G Γ B r B' hR => by
  obtain ⟨i, B⟩ := hR
  exact sj_ret (ej_and (x := true) (y := true) (ej_isi (T := "int") (r := true) m_isinstance m_int (ej_dat (d := .int i) 0)) fun _ => ej_one (ej_not (x := false) (ej_isi (T := "bool") (r := false) m_isinstance m_bool (ej_dat (d := .int i) 0)))) ⟨rfl, rfl⟩

abbrev s_l_common : Stmt := topS 25
theorem sc_l_common : FnScope ["_law_one", "_law_other"] ["_law_one", "_law_other"] (defScope s_l_common) := ⟨rfl, rfl, rfl, by decide +kernel, rfl, by decide +kernel, by decide +kernel⟩

theorem c_of_l_common (m_abs : mg "abs" = none) (m_int : mg "int" = none) (T : At K mg "_law_common" s_l_common ["_law_one", "_law_other"]) : Cal P w K mg base "_law_common" 4 R_common :=
  cal_at T sc_l_common (by rintro _ _ _ _ ⟨⟩; rfl) fun f cd0 A out s H E G Γ B r B' hR => by
  obtain ⟨n, d, B⟩ := hR
  refine sj_par 0 1 G.nd G.calm (aj_cons (ej_abs m_abs (ej_dat 0)) (aj_cons (ej_abs m_abs (ej_dat 1)) aj_nil)) ?_ (by decide) (by rfl)
  refine sj_while G.nd (fun Γ' B' => ∃ a c : Nat, Γ' = [.da (.int a), .da (.int c)] ∧ Nat.gcd a c = Nat.gcd n.natAbs d.natAbs ∧ B' = B) (fun Γ' _ => (intAt Γ' 1).toNat)
    ⟨n.natAbs, d.natAbs, by rw [absI_nat, absI_nat]; rfl, rfl, rfl⟩ ?_
  rintro Γ' B' ⟨a, c, rfl, hg, rfl⟩
  refine ⟨_, tj_gt (ej_dat 1) ej_int, fun h => ?_, fun h => ?_⟩
  · have hc : 0 < c := by have := of_decide_eq_true h; omega
    refine sj_par 0 1 G.nd G.calm (aj_cons (ej_dat 1) (aj_cons (ej_mod (ej_int1 m_int (ej_dat 0)) (ej_dat 1) (by omega)) aj_nil)) (sj_nil ?_) (by decide) (by rfl)
    rw [← Int.natCast_emod]
    refine ⟨⟨c, a % c, rfl, ?_, rfl⟩, show ((a % c : Nat) : Int).toNat < (c : Int).toNat from ?_⟩
    · rw [← hg, Nat.gcd_comm a c, Nat.gcd_rec c a, Nat.gcd_comm]
    · have := Nat.mod_lt a hc; omega
  · have hc : c = 0 := by have := of_decide_eq_false h; omega
    subst hc
    rw [Nat.gcd_zero_right] at hg
    exact sj_ret (ej_dat 0) ⟨by rw [hg], rfl⟩

abbrev s_l_to : Stmt := topS 26
theorem sc_l_to : FnScope ["_law_base", "_law_n", "_law_found", "_law_factor"] ["_law_base", "_law_n"] (defScope s_l_to) := ⟨rfl, rfl, rfl, by decide +kernel, rfl, by decide +kernel, by decide +kernel⟩

theorem c_of_l_to (m_int : mg "int" = none) (T : At K mg "_law_to" s_l_to ["_law_base", "_law_n"]) : Cal P w K mg base "_law_to" 4 R_pow :=
  cal_at T sc_l_to (by rintro _ _ _ _ ⟨⟩; rfl) fun f cd0 A out s H E G Γ B r B' hR => by
  obtain ⟨b, e, B, hb, he⟩ := hR
  refine sj_par 2 3 G.nd G.calm (aj_cons ej_int (aj_cons (ej_dat 0) aj_nil)) ?_ (by decide) (by rfl)
  refine sj_while G.nd (fun Γ' B' => ∃ k m j : Nat, Γ' = [.da (.int b), .da (.int m), .da (.int ((b ^ j : Nat) : Int)), .da (.int ((b ^ k : Nat) : Int))] ∧ j + k * m = e ∧ B' = B) (fun Γ' _ => (intAt Γ' 1).toNat)
    ⟨1, e, 0, by rw [Nat.pow_one]; rfl, by omega, rfl⟩ ?_
  rintro Γ' B' ⟨k, m, j, rfl, hk, rfl⟩
  refine ⟨_, tj_gt (ej_dat 1) ej_int, fun h => ?_, fun h => ?_⟩
  · have hm : 0 < m := by have := of_decide_eq_true h; omega
    obtain ⟨k1, j1⟩ := k_le hk hm
    refine sj_ifM (fun Γ' B2 => ∃ j' : Nat, Γ' = [.da (.int b), .da (.int m), .da (.int ((b ^ j' : Nat) : Int)), .da (.int ((b ^ k : Nat) : Int))] ∧ j' + (k + k) * (m / 2) = e ∧ B2 = B') (tj_eqI G.hu (ej_mod (ej_int1 m_int (ej_dat 1)) ej_int (by decide)) ej_int) (fun h1 => ?_) (fun h1 => ?_) ?_
    · refine sj_set 2 G.nd (ej_mul (ej_dat 2) (ej_dat 3) (cm (bd_pow j hb) (bd_pow k hb) (by omega))) (sj_nil ?_)
      rw [pow_up]
      exact ⟨j + k, rfl, turn_odd hk (by have := of_decide_eq_true h1; omega), rfl⟩
    · exact sj_nil ⟨j, rfl, turn_even hk (by have := of_decide_eq_false h1; omega), rfl⟩
    · rintro Γ2 B2 ⟨j', rfl, hj', rfl⟩
      refine sj_par 3 1 G.nd G.calm (aj_cons (ej_mul (ej_dat 3) (ej_dat 3) (cm (bd_pow k hb) (bd_pow k hb) (by omega))) (aj_cons (ej_fdiv (ej_int1 m_int (ej_dat 1)) ej_int (cdv (show Bd 2 2 from by unfold Bd; decide) (by decide))) aj_nil)) (sj_nil ?_) (by decide) (by rfl)
      rw [pow_sq, half]
      exact ⟨⟨k + k, m / 2, j', rfl, hj', rfl⟩, show ((m / 2 : Nat) : Int).toNat < (m : Int).toNat by omega⟩
  · have hm : ¬ 0 < m := by have := of_decide_eq_false h; omega
    have := j_end hk hm
    subst this
    exact sj_ret (ej_dat 2) ⟨rfl, rfl⟩

abbrev s_l_over : Stmt := topS 27
theorem sc_l_over : FnScope ["_law_n", "_law_d", "_law_shared"] ["_law_n", "_law_d"] (defScope s_l_over) := ⟨rfl, rfl, rfl, by decide +kernel, rfl, by decide +kernel, by decide +kernel⟩

theorem c_of_l_over (m_int : mg "int" = none) (c_l_common : Cal P w K mg base "_law_common" 4 R_common) (T : At K mg "_law_over" s_l_over ["_law_n", "_law_d"]) : Cal P w K mg base "_law_over" 5 R_reduced :=
  cal_at T sc_l_over (by rintro _ _ _ _ ⟨⟩; rfl) fun f cd0 A out s H E G Γ B r B' hR => by
  obtain ⟨n, d, B, hd, hb⟩ := hR
  have cx : ∀ m, CDivX m (com n d) := fun m => cdx (com_bd hd hb) (com_ne hd)
  refine sj_set 2 G.nd (ej_call c_l_common (G.le (by decide)) (aj_cons (ej_dat 0) (aj_cons (ej_dat 1) aj_nil)) (R_common.mk n d B)) ?_
  refine sj_set 2 G.nd (ej_is (ej_ifI (tj_gt (ej_dat 1) ej_int) (fun _ => (ej_dat 2)) fun _ => (ej_neg (ej_dat 2))) (congrArg PyData.int (com_if (n := n) hd))) ?_
  exact sj_ret (ej_tupD (ad_cons (ej_fdivX (ej_int1 m_int (ej_dat 0)) (ej_dat 2) (cx _)) (ad_cons (ej_fdivX (ej_int1 m_int (ej_dat 1)) (ej_dat 2) (cx _)) ad_nil)) (Nat.le_of_ble_eq_true rfl)) ⟨by rw [red_num hd, red_den hd]; rfl, rfl⟩

abbrev s_l_multiplied : Stmt := topS 28
theorem sc_l_multiplied : FnScope ["_law_x", "_law_y"] ["_law_x", "_law_y"] (defScope s_l_multiplied) := ⟨rfl, rfl, rfl, by decide +kernel, rfl, by decide +kernel, by decide +kernel⟩

theorem c_of_l_multiplied (c_l_over : Cal P w K mg base "_law_over" 5 R_reduced) (T : At K mg "_law_multiplied" s_l_multiplied ["_law_x", "_law_y"]) : Cal P w K mg base "_law_multiplied" 6 (R_two (· * ·)) :=
  cal_at T sc_l_multiplied (by rintro _ _ _ _ ⟨⟩; rfl) fun f cd0 A out s H E G Γ B r B' hR => by
  obtain ⟨n, d, m, c, x, y, B, hx, hy, h1, h2, h3⟩ := hR
  have hne : (x.den : Int) * (y.den : Int) ≠ 0 := Int.mul_ne_zero (den_ne x) (den_ne y)
  exact sj_ret (ej_call c_l_over (G.le (by decide)) (aj_cons (ej_mul (ej_at (ej_dat 0)) (ej_at (ej_dat 1)) (cmz hx.nu hy.nu))
    (aj_cons (ej_mul (ej_at (ej_dat 0)) (ej_at (ej_dat 1)) (cmz hx.de hy.de)) aj_nil)) (R_reduced.mk _ _ _ hne ((hx.de.mul hy.de).le (by omega)))) ⟨by rw [mul_div], rfl⟩

abbrev s_l_is_below : Stmt := topS 29
theorem sc_l_is_below : FnScope ["_law_x", "_law_y"] ["_law_x", "_law_y"] (defScope s_l_is_below) := ⟨rfl, rfl, rfl, by decide +kernel, rfl, by decide +kernel, by decide +kernel⟩

theorem c_of_l_is_below (T : At K mg "_law_is_below" s_l_is_below ["_law_x", "_law_y"]) : Cal P w K mg base "_law_is_below" 4 R_below :=
  cal_at T sc_l_is_below (by rintro _ _ _ _ ⟨⟩; rfl) fun f cd0 A out s H E G Γ B r B' hR => by
  obtain ⟨n, d, m, c, x, y, B, hx, hy, h1, h2⟩ := hR
  refine sj_ret (ej_lt (ej_mul (ej_at (ej_dat 0)) (ej_at (ej_dat 1)) (cmz hx.nu hy.de)) (ej_mul (ej_at (ej_dat 1)) (ej_at (ej_dat 0)) (cmz hy.nu hx.de))) ⟨?_, rfl⟩
  congr 1
  by_cases h : x < y
  · rw [decide_eq_true h, decide_eq_true ((Rat.lt_iff x y).mp h)]
  · rw [decide_eq_false h, decide_eq_false fun z => h ((Rat.lt_iff x y).mpr z)]

abbrev s_l_sized : Stmt := topS 30
theorem sc_l_sized : FnScope ["_law_x"] ["_law_x"] (defScope s_l_sized) := ⟨rfl, rfl, rfl, by decide +kernel, rfl, by decide +kernel, by decide +kernel⟩

theorem c_of_l_sized (m_abs : mg "abs" = none) (T : At K mg "_law_sized" s_l_sized ["_law_x"]) : Cal P w K mg base "_law_sized" 4 (R_one fun x => fq (absQ x)) :=
  cal_at T sc_l_sized (by rintro _ _ _ _ ⟨⟩; rfl) fun f cd0 A out s H E G Γ B r B' hR => by
  obtain ⟨x, B⟩ := hR
  refine sj_ret (ej_tupD (ad_cons (ej_abs m_abs (ej_at (ej_dat 0))) (ad_cons (ej_at (ej_dat 0)) ad_nil)) (Nat.le_of_ble_eq_true rfl)) ⟨?_, rfl⟩
  unfold fq
  rw [(absQ_num x).1, (absQ_num x).2]

abbrev s_l_power : Stmt := topS 31
theorem sc_l_power : FnScope ["_law_base", "_law_e"] ["_law_base", "_law_e"] (defScope s_l_power) := ⟨rfl, rfl, rfl, by decide +kernel, rfl, by decide +kernel, by decide +kernel⟩

theorem c_of_l_power (c_l_to : Cal P w K mg base "_law_to" 4 R_pow) (T : At K mg "_law_power" s_l_power ["_law_base", "_law_e"]) : Cal P w K mg base "_law_power" 5 R_power_of :=
  cal_at T sc_l_power (by rintro _ _ _ _ ⟨⟩; rfl) fun f cd0 A out s H E G Γ B r B' hR => by
  obtain ⟨b, e, B, h0, hb, h1, h2⟩ := hR
  refine sj_ret (ej_if (d := .da (fq (pw b e))) (tj_ge (ej_dat 1) ej_int) (fun h => ?_) (fun h => ?_)) ⟨rfl, rfl⟩
  · have he : ¬ e < 0 := by have := of_decide_eq_true h; omega
    have hn : e = (e.toNat : Int) := by omega
    unfold pw
    rw [if_neg he, fq_nat]
    exact ej_tupD (ad_cons (ej_call c_l_to (G.le (by decide)) (aj_cons (ej_dat 0) (aj_cons (ej_is (ej_dat 1) (congrArg PyData.int hn)) aj_nil)) (R_pow.mk b e.toNat B hb (by omega))) (ad_cons ej_int ad_nil)) (Nat.le_of_ble_eq_true rfl)
  · have he : e < 0 := by have := of_decide_eq_false h; omega
    have hn : -e = ((-e).toNat : Int) := by omega
    unfold pw
    rw [if_pos he, fq_inv (Nat.pow_pos h0)]
    exact ej_tupD (ad_cons ej_int (ad_cons (ej_call c_l_to (G.le (by decide)) (aj_cons (ej_dat 0) (aj_cons (ej_is (ej_neg (ej_dat 1)) (congrArg PyData.int hn)) aj_nil)) (R_pow.mk b (-e).toNat B hb (by omega))) ad_nil)) (Nat.le_of_ble_eq_true rfl)

abbrev s_l_worth : Stmt := topS 32
theorem sc_l_worth : FnScope ["_law_form", "_law_number", "_law_size"] ["_law_form", "_law_number"] (defScope s_l_worth) := ⟨rfl, rfl, rfl, by decide +kernel, rfl, by decide +kernel, by decide +kernel⟩

theorem c_of_l_worth (c_l_multiplied : Cal P w K mg base "_law_multiplied" 6 (R_two (· * ·))) (c_l_power : Cal P w K mg base "_law_power" 5 R_power_of) (T : At K mg "_law_worth" s_l_worth ["_law_form", "_law_number"]) : Cal P w K mg base "_law_worth" 7 R_worth :=
  cal_at T sc_l_worth (by rintro _ _ _ _ ⟨⟩; rfl) fun f cd0 A out s H E G Γ B r B' hR => by
  obtain ⟨b, p, low, high, s, c, e, B, F, hv⟩ := hR
  obtain ⟨h1, h3, h4, h5, h6⟩ := hv
  have b2 := F.b2; have bp := F.bp; have lo := F.lo; have hi := F.hi
  have hc : Qz 700 1 (c : Rat) := ⟨by rw [Rat.num_intCast]; unfold Bd; omega, by rw [Rat.den_intCast]; unfold Bd; decide⟩
  refine sj_set 2 G.nd (ej_call c_l_multiplied (G.le (by decide)) (aj_cons (ej_is (y := fq (c : Rat)) (ej_tupD (ad_cons (ej_at (ej_dat (d := .tuple [.str "num", .int s, .int c, .int e]) 1)) (ad_cons ej_int ad_nil)) (Nat.le_of_ble_eq_true rfl)) (fq_int c).symm)
    (aj_cons (ej_call c_l_power (G.le (by decide)) (aj_cons (ej_at (ej_dat (d := .tuple [.int b, .int p, .int low, .int high]) 0)) (aj_cons (ej_at (ej_dat (d := .tuple [.str "num", .int s, .int c, .int e]) 1)) aj_nil)) (R_power_of.mk b e B (by omega) F.b6 (by omega) (by omega))) aj_nil))
    (R_two.mk _ _ _ _ _ _ B hc (F.qz h5 h6) (by decide) (by decide) (by decide))) ?_
  generalize hq : (c : Rat) * pw b e = q
  refine sj_ret (ej_if (d := .da (fq (Va.wQ b (.num s c e)))) (tj_eqI G.hu (ej_at (ej_dat (d := .tuple [.str "num", .int s, .int c, .int e]) 1)) ej_int) (fun h => ?_) (fun h => ?_)) ⟨rfl, rfl⟩
  · have e1 : Va.wQ b (.num s c e) = -q := by
      show ((if s = 1 then -c else c : Int) : Rat) * pw b e = -q
      rw [if_pos (of_decide_eq_true h), Rat.intCast_neg, ← hq]; grind
    have e2 : fq (-q) = .tuple [.int (-q.num), .int (q.den : Int)] := by unfold fq; rw [Rat.neg_num, Rat.neg_den]
    rw [e1, e2]
    exact ej_tupD (ad_cons (ej_neg (ej_at (ej_dat (d := .tuple [.int q.num, .int (q.den : Int)]) 2))) (ad_cons (ej_at (ej_dat (d := .tuple [.int q.num, .int (q.den : Int)]) 2)) ad_nil)) (Nat.le_of_ble_eq_true rfl)
  · have e1 : Va.wQ b (.num s c e) = q := by
      show ((if s = 1 then -c else c : Int) : Rat) * pw b e = q
      rw [if_neg (of_decide_eq_false h), ← hq]
    rw [e1]; exact ej_dat 2

abbrev s_l_formats : Stmt := topS 33
theorem sc_l_formats : FnScope ["_law_bag_here", "_law_small"] ["_law_bag_here"] (defScope s_l_formats) := ⟨rfl, rfl, rfl, by decide +kernel, rfl, by decide +kernel, by decide +kernel⟩

theorem c_of_l_formats (c_l_some : Cal P w K mg base "_law_some" 5 R_some) (T : At K mg "_law_formats" s_l_formats ["_law_bag_here"]) : Cal P w K mg base "_law_formats" 6 (R_fmt smallV smallB) :=
  cal_at T sc_l_formats (by rintro _ _ _ _ ⟨⟩; rfl) fun f cd0 A out s H E G Γ B r B' hR => by
  obtain ⟨B, hc⟩ := hR
  refine sj_set 1 G.nd (ej_is (y := .list (([(2, 2, 0, 0), (2, 2, -3, 2), (2, 3, -4, 3), (4, 2, -2, 1), (10, 2, -2, 1), (6, 2, -1, 2), (2, 4, -2, 2)] : List F4).map F4.d)) (ej_lstD (ad_cons (ej_tupD (ad_cons ej_int (ad_cons ej_int (ad_cons ej_int (ad_cons ej_int ad_nil)))) (Nat.le_of_ble_eq_true rfl)) (ad_cons (ej_tupD (ad_cons ej_int (ad_cons ej_int (ad_cons (ej_neg ej_int) (ad_cons ej_int ad_nil)))) (Nat.le_of_ble_eq_true rfl)) (ad_cons (ej_tupD (ad_cons ej_int (ad_cons ej_int (ad_cons (ej_neg ej_int) (ad_cons ej_int ad_nil)))) (Nat.le_of_ble_eq_true rfl)) (ad_cons (ej_tupD (ad_cons ej_int (ad_cons ej_int (ad_cons (ej_neg ej_int) (ad_cons ej_int ad_nil)))) (Nat.le_of_ble_eq_true rfl)) (ad_cons (ej_tupD (ad_cons ej_int (ad_cons ej_int (ad_cons (ej_neg ej_int) (ad_cons ej_int ad_nil)))) (Nat.le_of_ble_eq_true rfl)) (ad_cons (ej_tupD (ad_cons ej_int (ad_cons ej_int (ad_cons (ej_neg ej_int) (ad_cons ej_int ad_nil)))) (Nat.le_of_ble_eq_true rfl)) (ad_cons (ej_tupD (ad_cons ej_int (ad_cons ej_int (ad_cons (ej_neg ej_int) (ad_cons ej_int ad_nil)))) (Nat.le_of_ble_eq_true rfl)) ad_nil))))))) (Nat.le_of_ble_eq_true rfl)) rfl) ?_
  have r := R_some.mk B (smallF.map F4.d) (by decide) (by decide) hc
  rw [pick_fm smallF B (by decide)] at r
  exact sj_ret (ej_call c_l_some (G.le (by decide)) (aj_cons (ej_bag 0) (aj_cons (ej_is (y := .list (smallF.map F4.d)) (ej_catL (ej_dat 1) (ej_lstD (ad_cons (ej_tupD (ad_cons ej_int (ad_cons ej_int (ad_cons ej_int (ad_cons ej_int ad_nil)))) (Nat.le_of_ble_eq_true rfl)) (ad_cons (ej_tupD (ad_cons ej_int (ad_cons ej_int (ad_cons ej_int (ad_cons ej_int ad_nil)))) (Nat.le_of_ble_eq_true rfl)) (ad_cons (ej_tupD (ad_cons ej_int (ad_cons ej_int (ad_cons (ej_neg ej_int) (ad_cons (ej_neg ej_int) ad_nil)))) (Nat.le_of_ble_eq_true rfl)) ad_nil))) (Nat.le_of_ble_eq_true rfl)) (Nat.le_of_ble_eq_true rfl)) rfl) aj_nil)) r) ⟨rfl, rfl⟩

abbrev s_l_wide_format : Stmt := topS 34
theorem sc_l_wide_format : FnScope ["_law_bag_here", "_law_some_here", "_law_far"] ["_law_bag_here"] (defScope s_l_wide_format) := ⟨rfl, rfl, rfl, by decide +kernel, rfl, by decide +kernel, by decide +kernel⟩

theorem c_of_l_wide_format (c_l_some : Cal P w K mg base "_law_some" 5 R_some) (c_l_take : Cal P w K mg base "_law_take" 4 R_take) (T : At K mg "_law_wide_format" s_l_wide_format ["_law_bag_here"]) : Cal P w K mg base "_law_wide_format" 6 (R_fmt wideV wideB) :=
  cal_at T sc_l_wide_format (by rintro _ _ _ _ ⟨⟩; rfl) fun f cd0 A out s H E G Γ B r B' hR => by
  obtain ⟨B, hc⟩ := hR
  refine sj_set 1 G.nd (ej_is (y := .list (([(2, 24, -149, 104), (2, 11, -24, 5), (10, 7, -101, 90), (36, 3, -5, 4), (16, 6, -70, 57), (10, 34, -60, 40)] : List F4).map F4.d)) (ej_lstD (ad_cons (ej_tupD (ad_cons ej_int (ad_cons ej_int (ad_cons (ej_neg ej_int) (ad_cons ej_int ad_nil)))) (Nat.le_of_ble_eq_true rfl)) (ad_cons (ej_tupD (ad_cons ej_int (ad_cons ej_int (ad_cons (ej_neg ej_int) (ad_cons ej_int ad_nil)))) (Nat.le_of_ble_eq_true rfl)) (ad_cons (ej_tupD (ad_cons ej_int (ad_cons ej_int (ad_cons (ej_neg ej_int) (ad_cons ej_int ad_nil)))) (Nat.le_of_ble_eq_true rfl)) (ad_cons (ej_tupD (ad_cons ej_int (ad_cons ej_int (ad_cons (ej_neg ej_int) (ad_cons ej_int ad_nil)))) (Nat.le_of_ble_eq_true rfl)) (ad_cons (ej_tupD (ad_cons ej_int (ad_cons ej_int (ad_cons (ej_neg ej_int) (ad_cons ej_int ad_nil)))) (Nat.le_of_ble_eq_true rfl)) (ad_cons (ej_tupD (ad_cons ej_int (ad_cons ej_int (ad_cons (ej_neg ej_int) (ad_cons ej_int ad_nil)))) (Nat.le_of_ble_eq_true rfl)) ad_nil)))))) (Nat.le_of_ble_eq_true rfl)) rfl) ?_
  refine sj_set 1 G.nd (ej_is (y := .list ((([(2, 24, -149, 104), (2, 11, -24, 5), (10, 7, -101, 90), (36, 3, -5, 4), (16, 6, -70, 57), (10, 34, -60, 40)] : List F4) ++ ([(2, 8, -133, 120), (20, 2, 0, 3), (10, 16, -98, 69), (2, 53, -120, 60), (10, 20, 5, 60)] : List F4)).map F4.d)) (ej_catL (ej_dat 1) (ej_lstD (ad_cons (ej_tupD (ad_cons ej_int (ad_cons ej_int (ad_cons (ej_neg ej_int) (ad_cons ej_int ad_nil)))) (Nat.le_of_ble_eq_true rfl)) (ad_cons (ej_tupD (ad_cons ej_int (ad_cons ej_int (ad_cons ej_int (ad_cons ej_int ad_nil)))) (Nat.le_of_ble_eq_true rfl)) (ad_cons (ej_tupD (ad_cons ej_int (ad_cons ej_int (ad_cons (ej_neg ej_int) (ad_cons ej_int ad_nil)))) (Nat.le_of_ble_eq_true rfl)) (ad_cons (ej_tupD (ad_cons ej_int (ad_cons ej_int (ad_cons (ej_neg ej_int) (ad_cons ej_int ad_nil)))) (Nat.le_of_ble_eq_true rfl)) (ad_cons (ej_tupD (ad_cons ej_int (ad_cons ej_int (ad_cons ej_int (ad_cons ej_int ad_nil)))) (Nat.le_of_ble_eq_true rfl)) ad_nil))))) (Nat.le_of_ble_eq_true rfl)) (Nat.le_of_ble_eq_true rfl)) rfl) ?_
  refine sj_set 1 G.nd (ej_is (y := .list (worldF.map F4.d)) (ej_catL (ej_dat 1) (ej_lstD (ad_cons (ej_tupD (ad_cons ej_int (ad_cons ej_int (ad_cons (ej_neg ej_int) (ad_cons (ej_neg ej_int) ad_nil)))) (Nat.le_of_ble_eq_true rfl)) (ad_cons (ej_tupD (ad_cons ej_int (ad_cons ej_int (ad_cons (ej_neg ej_int) (ad_cons ej_int ad_nil)))) (Nat.le_of_ble_eq_true rfl)) (ad_cons (ej_tupD (ad_cons ej_int (ad_cons ej_int (ad_cons ej_int (ad_cons ej_int ad_nil)))) (Nat.le_of_ble_eq_true rfl)) ad_nil))) (Nat.le_of_ble_eq_true rfl)) (Nat.le_of_ble_eq_true rfl)) rfl) ?_
  refine sj_set 2 G.nd (ej_is (y := .list (([(2, 53, -1074, 971), (10, 16, -398, 369), (36, 120, -200, 200), (2, 120, -1200, 1080), (10, 100, -700, 700)] : List F4).map F4.d)) (ej_lstD (ad_cons (ej_tupD (ad_cons ej_int (ad_cons ej_int (ad_cons (ej_neg ej_int) (ad_cons ej_int ad_nil)))) (Nat.le_of_ble_eq_true rfl)) (ad_cons (ej_tupD (ad_cons ej_int (ad_cons ej_int (ad_cons (ej_neg ej_int) (ad_cons ej_int ad_nil)))) (Nat.le_of_ble_eq_true rfl)) (ad_cons (ej_tupD (ad_cons ej_int (ad_cons ej_int (ad_cons (ej_neg ej_int) (ad_cons ej_int ad_nil)))) (Nat.le_of_ble_eq_true rfl)) (ad_cons (ej_tupD (ad_cons ej_int (ad_cons ej_int (ad_cons (ej_neg ej_int) (ad_cons ej_int ad_nil)))) (Nat.le_of_ble_eq_true rfl)) (ad_cons (ej_tupD (ad_cons ej_int (ad_cons ej_int (ad_cons (ej_neg ej_int) (ad_cons ej_int ad_nil)))) (Nat.le_of_ble_eq_true rfl)) ad_nil))))) (Nat.le_of_ble_eq_true rfl)) rfl) ?_
  refine sj_set 2 G.nd (ej_is (y := .list (farF.map F4.d)) (ej_catL (ej_dat 2) (ej_lstD (ad_cons (ej_tupD (ad_cons ej_int (ad_cons ej_int (ad_cons (ej_neg ej_int) (ad_cons ej_int ad_nil)))) (Nat.le_of_ble_eq_true rfl)) (ad_cons (ej_tupD (ad_cons ej_int (ad_cons ej_int (ad_cons (ej_neg ej_int) (ad_cons ej_int ad_nil)))) (Nat.le_of_ble_eq_true rfl)) (ad_cons (ej_tupD (ad_cons ej_int (ad_cons ej_int (ad_cons (ej_neg ej_int) (ad_cons ej_int ad_nil)))) (Nat.le_of_ble_eq_true rfl)) ad_nil))) (Nat.le_of_ble_eq_true rfl)) (Nat.le_of_ble_eq_true rfl)) rfl) ?_
  unfold wideV wideB
  have hc4 := tkB_ok hc 4
  by_cases h : 0 < tkV B 4
  · rw [if_pos h, if_pos h]
    have r := R_some.mk (tkB B 4) (worldF.map F4.d) (by decide) (by decide) hc4
    rw [pick_fm worldF (tkB B 4) (by decide)] at r
    exact sj_ret (ej_call c_l_some (G.le (by decide)) (aj_cons (ej_bag 0) (aj_cons (ej_if (x := true) (d := .da (.list (worldF.map F4.d))) (tj_is (tj_gt (ej_call c_l_take (G.le (by decide)) (aj_cons (ej_bag 0) (aj_cons ej_int aj_nil)) (R_take.mk B 4 (by decide) (by unfold Bd; decide +kernel) hc)) ej_int) (decide_eq_true h)) (fun _ => ej_dat 1) (fun h => Bool.noConfusion h)) aj_nil)) r) ⟨rfl, rfl⟩
  · rw [if_neg h, if_neg h]
    have r := R_some.mk (tkB B 4) (farF.map F4.d) (by decide) (by decide) hc4
    rw [pick_fm farF (tkB B 4) (by decide)] at r
    exact sj_ret (ej_call c_l_some (G.le (by decide)) (aj_cons (ej_bag 0) (aj_cons (ej_if (x := false) (d := .da (.list (farF.map F4.d))) (tj_is (tj_gt (ej_call c_l_take (G.le (by decide)) (aj_cons (ej_bag 0) (aj_cons ej_int aj_nil)) (R_take.mk B 4 (by decide) (by unfold Bd; decide +kernel) hc)) ej_int) (decide_eq_false h)) (fun h => Bool.noConfusion h) (fun _ => ej_dat 2)) aj_nil)) r) ⟨rfl, rfl⟩

abbrev s_l_numbers : Stmt := topS 35
theorem sc_l_numbers : FnScope ["_law_form", "_law_base", "_law_digits", "_law_low", "_law_high", "_law_found", "_law_e", "_law_c"] ["_law_form"] (defScope s_l_numbers) := ⟨rfl, rfl, rfl, by decide +kernel, rfl, by decide +kernel, by decide +kernel⟩

theorem c_of_l_numbers (m_range : mg "range" = none) (c_l_to : Cal P w K mg base "_law_to" 4 R_pow) (T : At K mg "_law_numbers" s_l_numbers ["_law_form"]) : Cal P w K mg base "_law_numbers" 5 R_numbers :=
  cal_at T sc_l_numbers (by rintro _ _ _ _ ⟨⟩; rfl) fun f cd0 A out s H E G Γ B r B' hR => by
  obtain ⟨b, p, low, high, B, F, hN⟩ := hR
  have p2 := F.p2; have p7 := F.p7; have lo := F.lo; have lh := F.lh; have hi := F.hi
  have Pw := F.pows; have l2 := Pw.l2; have ge := Pw.ge
  have e1 : (p : Int) - 1 = ((p - 1 : Nat) : Int) := by omega
  have ep : ((p : Int)).toNat = p := rfl
  refine sj_unpack [1, 2, 3, 4] G.calm (ej_dat (d := .tuple [.int b, .int p, .int low, .int high]) 0) (pgs_cons (pgN 1 G.nd) (pgs_cons (pgN 2 G.nd) (pgs_cons (pgN 3 G.nd) (pgs_cons (pgN 4 G.nd) pgs_nil)))) rfl ?_
  refine sj_ownLcR1 5 (j := 7) (x := "_law_c") G.nd G.calm m_range (blkOk_by (N := ["_law_form", "_law_base", "_law_digits", "_law_low", "_law_high", "_law_found", "_law_e", "_law_c"]) (sc := defScope s_l_numbers) (by decide +kernel)) (fun _ _ _ _ _ => pg_name (i := 7) G.nd rfl (Or.inl rfl))
    (frj_R1 (ys := (numsK b p low 0).map Va.d) (n := b ^ p) (fun _ => B) (aj_one (ej_call c_l_to (G.le (by decide)) (aj_cons (ej_dat 1) (aj_cons (ej_dat 2) aj_nil)) (R_pow.mk b p B F.b6 (by omega)))) (by omega) (by rw [List.length_map, numsK_len]; omega) ?_) (by exact Nat.le_of_ble_eq_true rfl) ?_ (sw_true rfl rfl rfl (by decide +kernel))
  · intro i z hi hz s0 H0 C cl fp
    simp only [numsK] at hz
    rw [List.getElem?_map, List.getElem?_map, List.getElem?_range hi] at hz
    cases hz
    exact ej_tupD (ad_cons ej_str (ad_cons ej_int (ad_cons (ej_dat 7) (ad_cons (ej_dat 3) ad_nil)))) (Nat.le_of_ble_eq_true rfl)
  refine ow_forR2 6 (lo := low + 1) (hi' := high + 1) (n := (high - low).toNat) G.nd G.calm m_range (by decide) (fun k Γ' B' acc' => (∃ g6, Γ' = [.da (fmP b p low high), .da (.int b), .da (.int p), .da (.int low), .da (.int high), .no, g6, .no]) ∧ B' = B ∧ acc' = (numsK b p low k).map Va.d)
    (aj_cons (ej_add (ej_dat 3) ej_int) (aj_cons (ej_add (ej_dat 4) ej_int) aj_nil)) (by omega) (by unfold Bd; omega) (by unfold Bd; omega) ⟨⟨_, rfl⟩, rfl, rfl⟩ (fun k Γ' B' acc' hk hP => ?_) (fun Γ' B' acc' hP => ?_)
  · obtain ⟨⟨g6, rfl⟩, rfl, rfl⟩ := hP
    have hm : (k + 1) * (b ^ p - b ^ (p - 1)) ≤ (high - low).toNat * (b ^ p - b ^ (p - 1)) := Nat.mul_le_mul_right _ hk
    have hm1 : (k + 1) * (b ^ p - b ^ (p - 1)) = k * (b ^ p - b ^ (p - 1)) + (b ^ p - b ^ (p - 1)) := Nat.succ_mul _ _
    refine ow_ext (ys := (List.range (b ^ p - b ^ (p - 1))).map fun c => (Va.num 0 ((b ^ (p - 1) : Nat) + (c : Nat)) (low + 1 + (k : Nat))).d) G.nd (ej_lcR2 (j := 7) (x := "_law_c") G.nd G.calm m_range (blkOk_by (N := ["_law_form", "_law_base", "_law_digits", "_law_low", "_law_high", "_law_found", "_law_e", "_law_c"]) (sc := defScope s_l_numbers) (by decide +kernel)) (fun _ _ _ _ _ => pg_name (i := 7) G.nd rfl (Or.inl rfl))
      (rj_of_frj (frj_R2 (lo := ((b ^ (p - 1) : Nat) : Int)) (hi' := ((b ^ p : Nat) : Int)) (n := b ^ p - b ^ (p - 1)) (fun _ => B') (aj_cons (ej_call c_l_to (G.le (by decide)) (aj_cons (ej_dat 1) (aj_cons (ej_is (ej_sub (ej_dat 2) ej_int) (congrArg PyData.int e1)) aj_nil)) (R_pow.mk b (p - 1) B' F.b6 (by omega))) (aj_cons (ej_call c_l_to (G.le (by decide)) (aj_cons (ej_dat 1) (aj_cons (ej_dat 2) aj_nil)) (R_pow.mk b p B' F.b6 (by omega))) aj_nil)) (by omega) (by omega) (by unfold Bd; omega) (by unfold Bd; omega) (by simp) ?_)))
      (by rw [List.length_map, numsK_len, List.length_map, List.length_range]; omega) (ow_nil ⟨⟨_, rfl⟩, rfl, by simp only [numsK]; rw [List.map_append, List.map_map]; rfl⟩)
    intro i z hi hz s0 H0 C cl fp
    rw [List.getElem?_map, List.getElem?_range hi] at hz
    cases hz
    exact ej_tupD (ad_cons ej_str (ad_cons ej_int (ad_cons (ej_dat 7) (ad_cons (ej_dat 6) ad_nil)))) (Nat.le_of_ble_eq_true rfl)
  · obtain ⟨⟨g6, rfl⟩, rfl, rfl⟩ := hP
    exact ow_end (sj_ret (ej_dat 5) ⟨rfl, rfl⟩)

abbrev s_l_grid : Stmt := topS 36
theorem sc_l_grid : FnScope ["_law_form", "_law_x", "_law_base", "_law_digits", "_law_low", "_law_high", "_law_size", "_law_bound", "_law_e", "_law_many", "_law_step"] ["_law_form", "_law_x"] (defScope s_l_grid) := ⟨rfl, rfl, rfl, by decide +kernel, rfl, by decide +kernel, by decide +kernel⟩

theorem c_of_l_grid (m_int : mg "int" = none) (m_max : mg "max" = none) (c_l_to : Cal P w K mg base "_law_to" 4 R_pow) (T : At K mg "_law_grid" s_l_grid ["_law_form", "_law_x"]) : Cal P w K mg base "_law_grid" 5 R_grid :=
  cal_at T sc_l_grid (by rintro _ _ _ _ ⟨⟩; rfl) fun f cd0 A out s H E G Γ B r B' hR => by
  obtain ⟨b, p, low, high, q, n, d, B, F, h0, hq, hn, hd⟩ := hR
  have b2 := F.b2; have p2 := F.p2; have p7 := F.p7; have lo := F.lo; have lh := F.lh; have hi := F.hi; have b6 := F.b6
  refine sj_unpack [2, 3, 4, 5] G.calm (ej_dat (d := .tuple [.int b, .int p, .int low, .int high]) 0) (pgs_cons (pg_name (i := 2) G.nd rfl (Or.inl rfl)) (pgs_cons (pg_name (i := 3) G.nd rfl (Or.inl rfl)) (pgs_cons (pg_name (i := 4) G.nd rfl (Or.inl rfl)) (pgs_cons (pg_name (i := 5) G.nd rfl (Or.inl rfl)) pgs_nil)))) rfl ?_
  have ei : max 0 (-low) = ((-low).toNat : Int) := by omega
  have ej : (p : Int) + max 0 low = ((p + low.toNat : Nat) : Int) := by omega
  have hbl := F.bl
  have hb0 : Bd 2340 ((b ^ (-low).toNat : Nat) : Int) := Bd.nat hbl
  have hbj : b ^ (p + low.toNat) < 2 ^ 3040 := by
    have h1 := F.pow_hi lh; have h3 := F.bp
    rw [Nat.pow_add]
    have h5 : b ^ p * b ^ low.toNat < 2 ^ 700 * 2 ^ 2340 := Nat.mul_lt_mul'' h3 h1
    have h7 : 2 ^ 700 * 2 ^ 2340 = 2 ^ 3040 := by rw [← Nat.pow_add]
    rw [h7] at h5; exact h5
  have hsz : Bd 11240 (q.num * ((b ^ (-low).toNat : Nat) : Int)) := (hq.nu.mul hb0).le (by omega)
  have hb00 : Bd 9540 ((q.den : Int) * ((b ^ (p + low.toNat) : Nat) : Int)) := (hq.de.mul (Bd.nat hbj)).le (by omega)
  refine sj_par3 6 7 8 G.nd G.calm (aj_cons (ej_mul (ej_at (ej_dat (d := .tuple [.int q.num, .int (q.den : Int)]) 1)) (ej_call c_l_to (G.le (by decide)) (aj_cons (ej_dat 2) (aj_cons (ej_is (ej_max G.calm m_max ej_int (ej_neg (ej_dat 4))) (congrArg PyData.int ei)) aj_nil)) (R_pow.mk b _ B b6 (by omega))) (cmz hq.nu hb0))
    (aj_cons (ej_mul (ej_at (ej_dat (d := .tuple [.int q.num, .int (q.den : Int)]) 1)) (ej_call c_l_to (G.le (by decide)) (aj_cons (ej_dat 2) (aj_cons (ej_is (ej_add (ej_dat 3) (ej_max G.calm m_max ej_int (ej_dat 4))) (congrArg PyData.int ej)) aj_nil)) (R_pow.mk b _ B b6 (by omega))) (cmz hq.de (Bd.nat hbj)))
    (aj_cons (ej_dat 4) aj_nil))) ?_ (by decide) (by decide) (by decide) (by rfl)
  generalize hS : q.num * ((b ^ (-low).toNat : Nat) : Int) = S at *
  have hS0 : 0 ≤ S := by rw [← hS]; exact Int.mul_nonneg (Rat.num_nonneg.mpr h0) (Int.natCast_nonneg _)
  have hbd : ∀ t : Nat, (t = 0 ∨ (q.den : Int) * ((b ^ (p + low.toNat + t) : Nat) : Int) ≤ S) → Bd 11240 ((q.den : Int) * ((b ^ (p + low.toNat + t) : Nat) : Int)) := by
    rintro t (rfl | h)
    · exact hb00.le (by decide)
    · have : 0 ≤ (q.den : Int) * ((b ^ (p + low.toNat + t) : Nat) : Int) := Int.mul_nonneg (Int.le_of_lt (den_pos q)) (Int.natCast_nonneg _)
      unfold Bd at *; omega
  have hst : ∀ (t m : Nat), (q.den : Int) * ((b ^ (p + low.toNat + t) : Nat) : Int) * ((b ^ m : Nat) : Int) = (q.den : Int) * ((b ^ (p + low.toNat + (t + m)) : Nat) : Int) := by
    intro t m; rw [Int.mul_assoc, ← Int.natCast_mul, ← Nat.pow_add, Nat.add_assoc]
  have hpos : ∀ t : Nat, 0 < (q.den : Int) * ((b ^ (p + low.toNat + t) : Nat) : Int) := fun t => Int.mul_pos (den_pos q) (Int.natCast_pos.mpr (Nat.pow_pos (by omega)))
  refine sj_forT (ds := [.int 512, .int 64, .int 8, .int 1]) 9 G.nd G.calm (fun i Γ' B2 => ∃ (t : Nat) (z1 z2 : VD), Γ' = [.da (fmP b p low high), .da (fq q), .da (.int b), .da (.int p), .da (.int low), .da (.int high), .da (.int S), .da (.int ((q.den : Int) * ((b ^ (p + low.toNat + t) : Nat) : Int))), .da (.int (low + t)), z1, z2] ∧ B2 = B ∧
      (t = 0 ∨ (q.den : Int) * ((b ^ (p + low.toNat + t) : Nat) : Int) ≤ S) ∧ (i = 4 → S < (q.den : Int) * ((b ^ (p + low.toNat + (t + 1)) : Nat) : Int)))
    (ej_tupD (ad_cons ej_int (ad_cons ej_int (ad_cons ej_int (ad_cons ej_int ad_nil)))) (Nat.le_of_ble_eq_true rfl)) ⟨0, .no, .no, by rw [show low + ((0 : Nat) : Int) = low by omega]; rfl, rfl, .inl rfl, fun z => absurd z (by decide)⟩ (fun i y Γ' B2 hy hP => ?_) (fun Γ' B2 hP => ?_)
  · obtain ⟨t, z1, z2, rfl, rfl, ht, _⟩ := hP
    obtain ⟨m, rfl, hm1, hm512, hm4⟩ : ∃ m : Nat, y = .int (m : Int) ∧ 1 ≤ m ∧ m ≤ 512 ∧ (i = 3 → m = 1) := by
      match i, hy with
      | 0, hy => cases hy; exact ⟨512, rfl, by decide, by decide, fun z => absurd z (by decide)⟩
      | 1, hy => cases hy; exact ⟨64, rfl, by decide, by decide, fun z => absurd z (by decide)⟩
      | 2, hy => cases hy; exact ⟨8, rfl, by decide, by decide, fun z => absurd z (by decide)⟩
      | 3, hy => cases hy; exact ⟨1, rfl, by decide, by decide, fun _ => rfl⟩
      | i + 4, hy => cases hy
    have hbm : Bd 3073 ((b ^ m : Nat) : Int) := (bd_pow m b6).le (by omega)
    refine sj_set 10 G.nd (ej_call c_l_to (G.le (by decide)) (aj_cons (ej_dat 2) (aj_cons (ej_dat 9) aj_nil)) (R_pow.mk b m B2 b6 (by omega))) ?_
    refine sj_while G.nd (fun Γ' B3 => ∃ t : Nat, Γ' = [.da (fmP b p low high), .da (fq q), .da (.int b), .da (.int p), .da (.int low), .da (.int high), .da (.int S), .da (.int ((q.den : Int) * ((b ^ (p + low.toNat + t) : Nat) : Int))), .da (.int (low + t)), .da (.int (m : Int)), .da (.int ((b ^ m : Nat) : Int))] ∧ B3 = B2 ∧
      (t = 0 ∨ (q.den : Int) * ((b ^ (p + low.toNat + t) : Nat) : Int) ≤ S)) (fun Γ' _ => (S + 1 - intAt Γ' 7).toNat) ⟨t, rfl, rfl, ht⟩ ?_
    rintro Γ3 B3 ⟨t, rfl, rfl, ht⟩
    have hbt := hbd t ht
    refine ⟨_, tj_ge (ej_dat 6) (ej_mul (ej_dat 7) (ej_dat 10) (cmz hbt hbm)), fun h => ?_, fun h => ?_⟩
    · have hge : (q.den : Int) * ((b ^ (p + low.toNat + (t + m)) : Nat) : Int) ≤ S := by rw [← hst]; exact of_decide_eq_true h
      refine sj_par 7 8 G.nd G.calm (aj_cons (ej_mul (ej_dat 7) (ej_dat 10) (cmz hbt hbm)) (aj_cons (ej_add (ej_dat 8) (ej_dat 9)) aj_nil)) (sj_nil ?_) (by decide) (by rfl)
      rw [hst]
      refine ⟨⟨t + m, by rw [show low + (t : Int) + (m : Int) = low + ((t + m : Nat) : Int) by omega]; rfl, rfl, .inr hge⟩, ?_⟩
      show (S + 1 - (q.den : Int) * ((b ^ (p + low.toNat + (t + m)) : Nat) : Int)).toNat < (S + 1 - (q.den : Int) * ((b ^ (p + low.toNat + t) : Nat) : Int)).toNat
      have hlt : (q.den : Int) * ((b ^ (p + low.toNat + t) : Nat) : Int) < (q.den : Int) * ((b ^ (p + low.toNat + (t + m)) : Nat) : Int) :=
        Int.mul_lt_mul_of_pos_left (Int.ofNat_lt.mpr (Nat.pow_lt_pow_right (by omega) (by omega))) (den_pos q)
      omega
    · have hlt : S < (q.den : Int) * ((b ^ (p + low.toNat + (t + m)) : Nat) : Int) := by rw [← hst]; have := of_decide_eq_false h; omega
      exact sj_nil ⟨t, _, _, rfl, rfl, ht, fun h4 => by rw [hm4 (by omega)] at hlt; exact hlt⟩
  · obtain ⟨t, z1, z2, rfl, rfl, ht, h4⟩ := hP
    have h4 := h4 rfl
    have hbt := hbd t ht
    have es : ∀ t : Nat, ((p + low.toNat + t : Nat) : Int) - ((-low).toNat : Nat) = p + (low + t) := fun t => by omega
    have k1 := lt_pw_iff b2 q (-low).toNat (p + low.toNat + (t + 1))
    rw [es, hS] at k1
    have k0 := lt_pw_iff b2 q (-low).toNat (p + low.toNat + t)
    rw [es, hS] at k0
    have hE : IsE b p low q (low + t + (if decide ((q.den : Int) * ((b ^ (p + low.toNat + t) : Nat) : Int) ≤ S) = true then 1 else 0)) := by
      by_cases h : (q.den : Int) * ((b ^ (p + low.toNat + t) : Nat) : Int) ≤ S
      · rw [decide_eq_true h, if_pos rfl]
        refine ⟨by omega, ?_, .inr ?_⟩
        · have := k1.mpr h4
          rw [show (p : Int) + (low + t + 1) = p + (low + (t + 1 : Nat)) by omega]; exact this
        · have := Rat.not_lt.mp (fun z => absurd (k0.mp z) (by omega))
          rw [show (p : Int) + (low + t + 1) - 1 = p + (low + t) by omega]; exact this
      · rw [decide_eq_false h, if_neg (by decide)]
        rcases ht with rfl | ht
        · refine ⟨by omega, ?_, .inl (by omega)⟩
          have := k0.mpr (by omega)
          rw [show (p : Int) + (low + ((0 : Nat) : Int) + 0) = p + (low + ((0 : Nat) : Int)) by omega]; exact this
        · exact absurd ht h
    have eE := (eQ_of b2 hE).symm
    refine sj_set 8 G.nd (ej_is (y := .int (eQ b p low q)) (ej_add (ej_dat 8) (ej_intB m_int (ej_ge (ej_dat 6) (ej_dat 7)))) (congrArg PyData.int eE)) ?_
    clear hE eE
    have hE := eQ_is (p := p) b2 low q
    have he := F.e_hi hq h0 hE hn
    have hlo := hE.1
    generalize eQ b p low q = e at *
    have hD := F.D_bd hq h0 hE hn hd
    have hDp := Dq_pos b2 e q
    have e1 : max 0 (-e) = ((-e).toNat : Int) := by omega
    have e3 : max 0 e = (e.toNat : Int) := by omega
    have hup : Bd 2340 ((b ^ (-e).toNat : Nat) : Int) := Bd.nat (F.pow_lo hlo)
    have hdn : Bd 9400 ((b ^ e.toNat : Nat) : Int) := by
      rcases F.e_bd hq h0 hE with ⟨z, _, _⟩ | z
      · have hd1 : 1 ≤ q.den := q.den_pos
        exact (Bd.nat (Nat.lt_of_le_of_lt (Nat.le_mul_of_pos_left _ hd1) z)).le (by omega)
      · have h1 : b ^ e.toNat < 2 ^ 2340 := by
          rcases z with z | z
          · have : e.toNat = 0 := by omega
            rw [this, Nat.pow_zero]; exact Nat.one_lt_two_pow (by decide)
          · rw [z]; exact F.pow_hi F.lh
        exact (Bd.nat h1).le (by decide)
    exact sj_ret (ej_tupD (ad_cons (ej_is (y := .int (cQ b e q)) (ej_fdiv (ej_int1 m_int (ej_mul (ej_at (ej_dat (d := .tuple [.int q.num, .int (q.den : Int)]) 1)) (ej_call c_l_to (G.le (by decide)) (aj_cons (ej_dat 2) (aj_cons (ej_is (ej_max G.calm m_max ej_int (ej_neg (ej_dat 8))) (congrArg PyData.int e1)) aj_nil)) (R_pow.mk b _ _ b6 (by omega))) (cmz hq.nu hup)))
      (ej_is (y := .int (Dq b e q)) (ej_mul (ej_at (ej_dat (d := .tuple [.int q.num, .int (q.den : Int)]) 1)) (ej_call c_l_to (G.le (by decide)) (aj_cons (ej_dat 2) (aj_cons (ej_is (ej_max G.calm m_max ej_int (ej_dat 8)) (congrArg PyData.int e3)) aj_nil)) (R_pow.mk b _ _ b6 (by omega))) (cmz hq.de hdn)) rfl) (cdv hD hDp)) rfl) (ad_cons (ej_dat 8) ad_nil)) (Nat.le_of_ble_eq_true rfl)) ⟨rfl, rfl⟩

abbrev s_l_greatest : Stmt := topS 37
theorem sc_l_greatest : FnScope ["_law_form", "_law_base", "_law_digits", "_law_low", "_law_high"] ["_law_form"] (defScope s_l_greatest) := ⟨rfl, rfl, rfl, by decide +kernel, rfl, by decide +kernel, by decide +kernel⟩

theorem c_of_l_greatest (c_l_to : Cal P w K mg base "_law_to" 4 R_pow) (c_l_power : Cal P w K mg base "_law_power" 5 R_power_of) (c_l_multiplied : Cal P w K mg base "_law_multiplied" 6 (R_two (· * ·))) (T : At K mg "_law_greatest" s_l_greatest ["_law_form"]) : Cal P w K mg base "_law_greatest" 7 R_great :=
  cal_at T sc_l_greatest (by rintro _ _ _ _ ⟨⟩; rfl) fun f cd0 A out s H E G Γ B r B' hR => by
  obtain ⟨b, p, low, high, B, F⟩ := hR
  have b2 := F.b2; have p7 := F.p7; have lo := F.lo; have lh := F.lh; have hi := F.hi; have bp := F.bp
  refine sj_unpack [1, 2, 3, 4] G.calm (ej_dat (d := .tuple [.int b, .int p, .int low, .int high]) 0) (pgs_cons (pg_name (i := 1) G.nd rfl (Or.inl rfl)) (pgs_cons (pg_name (i := 2) G.nd rfl (Or.inl rfl)) (pgs_cons (pg_name (i := 3) G.nd rfl (Or.inl rfl)) (pgs_cons (pg_name (i := 4) G.nd rfl (Or.inl rfl)) pgs_nil)))) rfl ?_
  have hc : Qz 700 1 ((((b ^ p : Nat) : Int) - 1 : Int) : Rat) := ⟨by rw [Rat.num_intCast]; unfold Bd; omega, by rw [Rat.den_intCast]; unfold Bd; decide⟩
  exact sj_ret (ej_call c_l_multiplied (G.le (by decide)) (aj_cons (ej_is (y := fq ((((b ^ p : Nat) : Int) - 1 : Int) : Rat)) (ej_tupD (ad_cons (ej_sub (ej_call c_l_to (G.le (by decide)) (aj_cons (ej_dat 1) (aj_cons (ej_dat 2) aj_nil)) (R_pow.mk b p B F.b6 (by omega))) ej_int) (ad_cons ej_int ad_nil)) (Nat.le_of_ble_eq_true rfl)) (fq_int _).symm)
    (aj_cons (ej_call c_l_power (G.le (by decide)) (aj_cons (ej_dat 1) (aj_cons (ej_dat 4) aj_nil)) (R_power_of.mk b high B (by omega) F.b6 (by omega) (by omega))) aj_nil)) (R_two.mk _ _ _ _ _ _ B hc (F.qz lh (Int.le_refl _)) (by decide) (by decide) (by decide))) ⟨rfl, rfl⟩

abbrev s_l_is_number : Stmt := topS 38
theorem sc_l_is_number : FnScope ["_law_form", "_law_thing", "_law_base", "_law_digits", "_law_low", "_law_high", "_law_least", "_law_one"] ["_law_form", "_law_thing"] (defScope s_l_is_number) := ⟨rfl, rfl, rfl, by decide +kernel, rfl, by decide +kernel, by decide +kernel⟩

theorem c_of_l_is_number (m_isinstance : mg "isinstance" = none) (m_tuple : mg "tuple" = none) (m_str : mg "str" = none) (m_len : mg "len" = none) (c_l_is_int : Cal P w K mg base "_law_is_int" 4 R_isint) (c_l_to : Cal P w K mg base "_law_to" 4 R_pow) (T : At K mg "_law_is_number" s_l_is_number ["_law_form", "_law_thing"]) : Cal P w K mg base "_law_is_number" 5 R_isnum :=
  cal_at T sc_l_is_number (by rintro _ _ _ _ ⟨⟩; rfl) fun f cd0 A out s H E0 G Γ B r B' hR => by
  obtain ⟨b, p, low, high, sn, c, e, B, F, hs, ⟨c0, c1, l1, l2⟩, l3⟩ := hR
  have p7 := F.p7; have flo := F.lo; have fhi := F.hi; have lh := F.lh; have p2 := F.p2
  have Pw := F.pows; have pl2 := Pw.l2; have ge := Pw.ge
  have e1 : (p : Int) - 1 = ((p - 1 : Nat) : Int) := by omega
  refine sj_when (x := false) (tj_w (wj_or (x := false) (y := false) (tj_not (x := true) (tj_val (ej_isi (T := "tuple") (r := true) m_isinstance m_tuple (ej_dat (d := .tuple [.str "num", .int sn, .int c, .int e]) 1)))) fun _ => wj_or (x := false) (y := false) (tj_is (tj_neI G.hu (ej_lenT (ds := [.str "num", .int sn, .int c, .int e]) m_len (ej_dat (d := .tuple [.str "num", .int sn, .int c, .int e]) 1)) ej_int) rfl) fun _ => wj_or (x := false) (y := false) (tj_not (x := true) (tj_val (ej_isi (T := "str") (r := true) m_isinstance m_str (ej_at (y := .str "num") (ej_dat (d := .tuple [.str "num", .int sn, .int c, .int e]) 1))))) fun _ => wj_or1 (tj_is (tj_neS (ej_at (y := .str "num") (ej_dat (d := .tuple [.str "num", .int sn, .int c, .int e]) 1)) ej_str) (by decide +kernel)))) (fun h => Bool.noConfusion h) (fun _ => ?_)
  refine sj_when (x := false) (tj_is (tj_ne G.hu (x := .list ((([sn, c, e] : List Int).filter fun _ => false).map .int)) (y := .list []) (ej_lcF1T (j := 7) (x := "_law_one") G.nd G.calm (blkOk_by (N := ["_law_form", "_law_thing", "_law_base", "_law_digits", "_law_low", "_law_high", "_law_least", "_law_one"]) (sc := defScope s_l_is_number) (by decide +kernel)) (fun _ _ _ _ _ => pg_name (i := 7) G.nd rfl (Or.inl rfl))
    (rj_lcF1T [sn, c, e] PyData.int PyData.int (fun _ => false) (ej_is (ej_sliceT (ej_dat (d := .tuple [.str "num", .int sn, .int c, .int e]) 1) (oj_some ej_int) oj_none) rfl) (Nat.le_of_ble_eq_true rfl) (fun i hi s0 H0 C cl fp => tj_not (x := true) (tj_val (ej_call c_l_is_int ⟨G.gd, G.rm.mono (by decide), G.nd, G.calm⟩ (aj_cons (ej_dat (d := .int i) 7) aj_nil) (R_isint.mk i B)))) (fun i hi hf => Bool.noConfusion hf))) (ej_lstD ad_nil (Nat.le_of_ble_eq_true rfl)) (show SeqAt.shaped (.list []) = true by decide +kernel) (by decide +kernel)) (show (!PyData.eqv (.list []) (.list [])) = false by decide +kernel)) (fun h => Bool.noConfusion h) (fun _ => ?_)
  refine sj_unpack [2, 3, 4, 5] G.calm (ej_dat (d := .tuple [.int b, .int p, .int low, .int high]) 0) (pgs_cons (pgN 2 G.nd) (pgs_cons (pgN 3 G.nd) (pgs_cons (pgN 4 G.nd) (pgs_cons (pgN 5 G.nd) pgs_nil)))) rfl ?_
  refine sj_set 6 (d := .da (.int (if e = low then 0 else ((b ^ (p - 1) : Nat) : Int)))) (B1 := B) G.nd (ej_if (tj_eqI G.hu (ej_at (y := .int e) (ej_dat (d := .tuple [.str "num", .int sn, .int c, .int e]) 1)) (ej_dat 4)) (fun h => ?_) (fun h => ?_)) ?_
  · rw [if_pos (of_decide_eq_true h)]; exact ej_int
  · rw [if_neg (of_decide_eq_false h)]
    exact (ej_call c_l_to (G.le (by decide)) (aj_cons (ej_dat 2) (aj_cons (ej_is (ej_sub (ej_dat 3) ej_int) (congrArg PyData.int e1)) aj_nil)) (R_pow.mk b (p - 1) B F.b6 (by omega)))
  refine sj_ret (ej_and (x := true) (y := true) (ej_chain (x := true) (y := true) ej_int (ej_at (y := .int sn) (ej_dat (d := .tuple [.str "num", .int sn, .int c, .int e]) 1)) ej_int op_le op_le ?_ ?_) fun _ => ej_and (x := true) (y := true) (ej_chain (x := true) (y := true) (ej_dat 4) (ej_at (y := .int e) (ej_dat (d := .tuple [.str "num", .int sn, .int c, .int e]) 1)) (ej_dat 5) op_le op_le ?_ ?_) fun _ => ej_one (ej_chain (x := true) (y := true) (ej_dat 6) (ej_at (y := .int c) (ej_dat (d := .tuple [.str "num", .int sn, .int c, .int e]) 1)) (ej_call c_l_to (G.le (by decide)) (aj_cons (ej_dat 2) (aj_cons (ej_dat 3) aj_nil)) (R_pow.mk b p B F.b6 (by omega))) op_le op_lt ?_ ?_)) ⟨rfl, rfl⟩
  all_goals refine congrArg V.bl (decide_eq_true ?_)
  all_goals first | omega | (split <;> omega)

abbrev s_l_number_of : Stmt := topS 39
theorem sc_l_number_of : FnScope ["_law_form", "_law_x", "_law_s", "_law_size", "_law_c", "_law_e"] ["_law_form", "_law_x"] (defScope s_l_number_of) := ⟨rfl, rfl, rfl, by decide +kernel, rfl, by decide +kernel, by decide +kernel⟩

theorem c_of_l_number_of (m_int : mg "int" = none) (c_l_sized : Cal P w K mg base "_law_sized" 4 (R_one fun x => fq (absQ x))) (c_l_is_below : Cal P w K mg base "_law_is_below" 4 R_below) (c_l_multiplied : Cal P w K mg base "_law_multiplied" 6 (R_two (· * ·))) (c_l_greatest : Cal P w K mg base "_law_greatest" 7 R_great) (c_l_grid : Cal P w K mg base "_law_grid" 5 R_grid)
    (c_l_power : Cal P w K mg base "_law_power" 5 R_power_of) (T : At K mg "_law_number_of" s_l_number_of ["_law_form", "_law_x"]) : Cal P w K mg base "_law_number_of" 8 R_numof :=
  cal_at T sc_l_number_of (by rintro _ _ _ _ ⟨⟩; rfl) fun f cd0 A out s H E0 G Γ B r B' hR => by
  obtain ⟨b, p, low, high, q, n, d, B, F, hq, hn, hd⟩ := hR
  have b2 := F.b2; have p2 := F.p2; have p7 := F.p7; have flo := F.lo; have fhi := F.hi
  have qa := hq.abs
  have h0 := absQ_nonneg q
  rw [numofP_all F]
  have hE := eQ_is (p := p) b2 low (absQ q)
  have gp := gr_pos F
  have q2 : Qz 2 1 ((2 : Int) : Rat) := ⟨by unfold Bd; decide +kernel, by unfold Bd; decide +kernel⟩
  refine sj_par 2 3 G.nd G.calm (aj_cons (ej_is (y := .int (sgn q)) (ej_intB m_int (ej_lt (ej_at (ej_dat (d := .tuple [.int q.num, .int (q.den : Int)]) 1)) ej_int)) ?_) (aj_cons (ej_call c_l_sized (G.le (by decide)) (aj_cons (ej_dat (d := fq q) 1) aj_nil) (R_one.mk q B)) aj_nil)) ?_ (by decide) (by rfl)
  · unfold sgn
    by_cases hs : q.num < 0
    · rw [decide_eq_true hs, if_pos hs]; rfl
    · rw [decide_eq_false hs, if_neg hs]; rfl
  refine sj_when (tj_not (tj_val (ej_call c_l_is_below (G.le (by decide)) (aj_cons (ej_dat 3) (aj_cons (ej_call c_l_multiplied (G.le (by decide)) (aj_cons (ej_is (y := fq ((2 : Int) : Rat)) (ej_tupD (ad_cons ej_int (ad_cons ej_int ad_nil)) (Nat.le_of_ble_eq_true rfl)) (fq_int 2).symm) (aj_cons (ej_call c_l_greatest (G.le (by decide)) (aj_cons (ej_dat 0) aj_nil) (R_great.mk b p low high B F)) aj_nil)) (R_two.mk _ _ _ _ _ _ B q2 (gr_qz F) (by decide) (by decide) (by decide))) aj_nil)) (R_below.mk _ _ _ _ _ _ B qa (q2.mul (gr_qz F)) (by omega) (by decide))))) (fun h => ?_) (fun h => ?_)
  · have hb : ¬ absQ q < ((2 : Int) : Rat) * grQ b p high := of_decide_eq_false (by simpa using h)
    have : high < eQ b p low (absQ q) ∨ rQ b (eQ b p low (absQ q)) (absQ q) ≠ 0 := by
      refine Decidable.byContradiction fun z => ?_
      have z1 : ¬ high < eQ b p low (absQ q) := fun y => z (.inl y)
      have z2 : rQ b (eQ b p low (absQ q)) (absQ q) = 0 := Decidable.byContradiction fun y => z (.inr y)
      have := num_le_great F h0 (by omega) z2
      have e2 : ((2 : Int) : Rat) = 2 := rfl
      rw [e2] at hb
      grind
    rw [if_pos this]
    exact sj_ret ej_non ⟨rfl, rfl⟩
  have R := R_grid.mk b p low high (absQ q) n d B F h0 qa (by omega) (by omega)
  have hC := spot_can b2 (by omega) h0 hE
  have hl := lo_eq b2 (eQ b p low (absQ q)) (absQ q)
  have hlo := hE.1
  unfold loQ at hl
  refine sj_unpack [4, 5] G.calm (ej_call c_l_grid (G.le (by decide)) (aj_cons (ej_dat 0) (aj_cons (ej_dat 3) aj_nil)) R) (pgs_cons (pgN 4 G.nd) (pgs_cons (pgN 5 G.nd) pgs_nil)) rfl ?_
  generalize eQ b p low (absQ q) = e at *
  generalize rQ b e (absQ q) = rr at *
  generalize cQ b e (absQ q) = c at *
  have bp := F.bp
  have c0 := hC.1; have c1 := hC.2.1
  have qc : Qz 700 1 (c : Rat) := ⟨by rw [Rat.num_intCast]; unfold Bd; omega, by rw [Rat.den_intCast]; unfold Bd; decide⟩
  refine sj_when (x := decide (high < e) || !decide ((c : Rat) * pw b e = absQ q)) (tj_w (wj_or (tj_gt (ej_dat 5) (ej_at (ej_dat (d := .tuple [.int b, .int p, .int low, .int high]) 0))) fun hh => wj_or1 (tj_is (tj_ne G.hu (ej_call c_l_multiplied (G.le (by decide)) (aj_cons (ej_is (y := fq (c : Rat)) (ej_tupD (ad_cons (ej_dat 4) (ad_cons ej_int ad_nil)) (Nat.le_of_ble_eq_true rfl)) (fq_int c).symm) (aj_cons (ej_call c_l_power (G.le (by decide)) (aj_cons (ej_at (ej_dat (d := .tuple [.int b, .int p, .int low, .int high]) 0)) (aj_cons (ej_dat 5) aj_nil)) (R_power_of.mk b e B (by omega) F.b6 (by omega) (by have := of_decide_eq_false hh; omega))) aj_nil)) (R_two.mk _ _ _ _ _ _ B qc (F.qz hlo (by have := of_decide_eq_false hh; omega)) (by decide) (by decide) (by decide))) (ej_dat (d := fq (absQ q)) 3) (shaped_fq _) (shaped_fq _)) (by rw [eqv_fq])))) (fun h => ?_) (fun h => ?_)
  · have h' : high < e ∨ rr ≠ 0 := by
      rcases Bool.or_eq_true_iff.mp h with z | z
      · exact .inl (of_decide_eq_true z)
      · exact .inr fun y => by rw [decide_eq_true (hl.mpr y)] at z; cases z
    rw [if_pos h']
    exact sj_ret ej_non ⟨rfl, rfl⟩
  · have h' := Bool.or_eq_false_iff.mp h
    have he2 := of_decide_eq_false h'.1
    have hr : rr = 0 := hl.mp (by simpa using h'.2)
    rw [if_neg (fun z => z.elim he2 fun z => z hr)]
    exact sj_ret (ej_tupD (ad_cons ej_str (ad_cons (ej_dat 2) (ad_cons (ej_dat 4) (ad_cons (ej_dat 5) ad_nil)))) (Nat.le_of_ble_eq_true rfl)) ⟨rfl, rfl⟩

abbrev s_l_couple : Stmt := topS 40
theorem sc_l_couple : FnScope ["_law_bag_here", "_law_one", "_law_base", "_law_digits", "_law_low", "_law_high", "_law_planted", "_law_near", "_law_cross", "_law_other"] ["_law_bag_here"] (defScope s_l_couple) := ⟨rfl, rfl, rfl, by decide +kernel, rfl, by decide +kernel, by decide +kernel⟩

theorem c_of_l_couple (m_int : mg "int" = none) (c_l_formats : Cal P w K mg base "_law_formats" 6 (R_fmt smallV smallB)) (c_l_take : Cal P w K mg base "_law_take" 4 R_take) (c_l_some : Cal P w K mg base "_law_some" 5 R_some)
    (T : At K mg "_law_couple" s_l_couple ["_law_bag_here"]) : CalE P w K mg base "_law_couple" 7 Pre_cpl Post_cpl2 :=
  cale_at T sc_l_couple fun Γ B hpre => by
  obtain ⟨rfl, hc⟩ := hpre
  have r1 := R_fmt.mk (f := smallV) (g := smallB) B hc
  have ok1 := smallB_ok hc
  have hm := smallV_mem B
  generalize smallV B = t1 at *
  generalize smallB B = B1 at *
  have Ft := fm_of (List.all_eq_true.mp small_ok _ hm)
  have Nt := List.all_eq_true.mp near_fm _ hm
  have r2 := R_take.mk B1 4 (by decide) (by unfold Bd; decide +kernel) ok1
  have ok2 := tkB_ok ok1 4
  obtain ⟨b, p, low, high⟩ := t1
  have F : Fm b p low high := Ft
  refine ⟨rfl, ?_⟩
  have pre : ∀ (r : PyData) (B' : Bag), (∀ (f : Addr) (cdv : Value) (A : Around) (out : List Env) (s : Shared) (H : Hp) (E0 : XK),
      Gx 6 (cxOf CX0 P w K mg base ["_law_bag_here", "_law_one", "_law_base", "_law_digits", "_law_low", "_law_high", "_law_planted", "_law_near", "_law_cross", "_law_other"] "_law_couple" (defScope s_l_couple) f cdv A out s H E0).nox →
      SJ (cxOf CX0 P w K mg base ["_law_bag_here", "_law_one", "_law_base", "_law_digits", "_law_low", "_law_high", "_law_planted", "_law_near", "_law_cross", "_law_other"] "_law_couple" (defScope s_l_couple) f cdv A out s H E0).nox [.bag, .da (fmP b p low high), .da (.int b), .da (.int p), .da (.int low), .da (.int high), .da (.list ((plantF.take 6).map cplD)), .no, .no, .no] B1 ((defBody s_l_couple).drop 4) { nx := fun _ B2 => r = .none ∧ B2 = B', rt := fun d B2 => d = r ∧ B2 = B' }) →
      ∀ (f : Addr) (cdv : Value) (A : Around) (out : List Env) (s : Shared) (H : Hp) (E0 : XK),
      Gx 6 (cxOf CX0 P w K mg base ["_law_bag_here", "_law_one", "_law_base", "_law_digits", "_law_low", "_law_high", "_law_planted", "_law_near", "_law_cross", "_law_other"] "_law_couple" (defScope s_l_couple) f cdv A out s H E0).nox →
      SJ (cxOf CX0 P w K mg base ["_law_bag_here", "_law_one", "_law_base", "_law_digits", "_law_low", "_law_high", "_law_planted", "_law_near", "_law_cross", "_law_other"] "_law_couple" (defScope s_l_couple) f cdv A out s H E0).nox ([.bag] ++ List.replicate (10 - 1) .no) B (defBody s_l_couple) { nx := fun _ B2 => r = .none ∧ B2 = B', rt := fun d B2 => d = r ∧ B2 = B' } := fun r B' k f cdv A out s H E0 G => by
    refine sj_set 1 (d := .da (fmP b p low high)) G.nd (ej_call c_l_formats (G.le (by decide)) (aj_cons (ej_bag 0) aj_nil) (r1)) ?_
    refine sj_unpack [2, 3, 4, 5] G.calm (ej_dat (d := .tuple [.int b, .int p, .int low, .int high]) 1) (pgs_cons (pgN 2 G.nd) (pgs_cons (pgN 3 G.nd) (pgs_cons (pgN 4 G.nd) (pgs_cons (pgN 5 G.nd) pgs_nil)))) rfl ?_
    refine sj_set 6 (d := .da (.list ((plantF.take 3).map cplD))) G.nd (ej_is (ej_lstD (ad_cons (ej_tupD (ad_cons (ej_tupD (ad_cons ej_int (ad_cons ej_int (ad_cons ej_int (ad_cons ej_int ad_nil)))) (Nat.le_of_ble_eq_true rfl)) (ad_cons (ej_tupD (ad_cons ej_int (ad_cons ej_int (ad_cons ej_int (ad_cons ej_int ad_nil)))) (Nat.le_of_ble_eq_true rfl)) ad_nil)) (Nat.le_of_ble_eq_true rfl)) (ad_cons (ej_tupD (ad_cons (ej_tupD (ad_cons ej_int (ad_cons ej_int (ad_cons ej_int (ad_cons ej_int ad_nil)))) (Nat.le_of_ble_eq_true rfl)) (ad_cons (ej_tupD (ad_cons ej_int (ad_cons ej_int (ad_cons (ej_neg ej_int) (ad_cons ej_int ad_nil)))) (Nat.le_of_ble_eq_true rfl)) ad_nil)) (Nat.le_of_ble_eq_true rfl)) (ad_cons (ej_tupD (ad_cons (ej_tupD (ad_cons ej_int (ad_cons ej_int (ad_cons ej_int (ad_cons ej_int ad_nil)))) (Nat.le_of_ble_eq_true rfl)) (ad_cons (ej_tupD (ad_cons ej_int (ad_cons ej_int (ad_cons (ej_neg ej_int) (ad_cons ej_int ad_nil)))) (Nat.le_of_ble_eq_true rfl)) ad_nil)) (Nat.le_of_ble_eq_true rfl)) ad_nil))) (Nat.le_of_ble_eq_true rfl)) rfl) ?_
    refine sj_set 6 (d := .da (.list ((plantF.take 6).map cplD))) G.nd (ej_is (ej_catL (ej_dat (d := .list ((plantF.take 3).map cplD)) 6) (ej_lstD (ad_cons (ej_tupD (ad_cons (ej_tupD (ad_cons ej_int (ad_cons ej_int (ad_cons ej_int (ad_cons ej_int ad_nil)))) (Nat.le_of_ble_eq_true rfl)) (ad_cons (ej_tupD (ad_cons ej_int (ad_cons ej_int (ad_cons (ej_neg ej_int) (ad_cons ej_int ad_nil)))) (Nat.le_of_ble_eq_true rfl)) ad_nil)) (Nat.le_of_ble_eq_true rfl)) (ad_cons (ej_tupD (ad_cons (ej_tupD (ad_cons ej_int (ad_cons ej_int (ad_cons ej_int (ad_cons ej_int ad_nil)))) (Nat.le_of_ble_eq_true rfl)) (ad_cons (ej_tupD (ad_cons ej_int (ad_cons ej_int (ad_cons (ej_neg ej_int) (ad_cons ej_int ad_nil)))) (Nat.le_of_ble_eq_true rfl)) ad_nil)) (Nat.le_of_ble_eq_true rfl)) (ad_cons (ej_tupD (ad_cons (ej_tupD (ad_cons ej_int (ad_cons ej_int (ad_cons ej_int (ad_cons ej_int ad_nil)))) (Nat.le_of_ble_eq_true rfl)) (ad_cons (ej_tupD (ad_cons ej_int (ad_cons ej_int (ad_cons ej_int (ad_cons ej_int ad_nil)))) (Nat.le_of_ble_eq_true rfl)) ad_nil)) (Nat.le_of_ble_eq_true rfl)) ad_nil))) (Nat.le_of_ble_eq_true rfl)) (Nat.le_of_ble_eq_true rfl)) rfl) ?_
    exact k f cdv A out s H E0 G
  by_cases h4 : tkV B1 4 = 0
  · have ra := R_some.mk (tkB B1 4) (plantF.map cplD) (Nat.le_of_ble_eq_true rfl) (Nat.le_of_ble_eq_true rfl) ok2
    obtain ⟨tt, htt, hp⟩ := pick_map plantF cplD (tkB B1 4) (Nat.le_of_ble_eq_true rfl)
    rw [hp] at ra
    have hf := List.all_eq_true.mp plant_fm _ htt
    rw [Bool.and_eq_true] at hf
    refine ⟨cplD tt, _, ⟨tkB_ok ok2 8, tt, rfl, ⟨fm_of hf.1, fm_of hf.2⟩, .inl (of_decide_eq_true (List.all_eq_true.mp plant_cnt _ htt))⟩, pre _ _ fun f cdv A out s H E0 G => ?_⟩
    refine sj_when (x := true) (tj_is (tj_eqI G.hu (ej_call c_l_take (G.le (by decide)) (aj_cons (ej_bag 0) (aj_cons ej_int aj_nil)) (r2)) ej_int) (decide_eq_true h4)) (fun _ => ?_) (fun h => Bool.noConfusion h)
    exact sj_ret (ej_call c_l_some (G.le (by decide)) (aj_cons (ej_bag 0) (aj_cons (ej_is (y := .list (plantF.map cplD)) (ej_catL (ej_dat (d := .list ((plantF.take 6).map cplD)) 6) (ej_lstD (ad_cons (ej_tupD (ad_cons (ej_tupD (ad_cons ej_int (ad_cons ej_int (ad_cons ej_int (ad_cons ej_int ad_nil)))) (Nat.le_of_ble_eq_true rfl)) (ad_cons (ej_tupD (ad_cons ej_int (ad_cons ej_int (ad_cons (ej_neg ej_int) (ad_cons ej_int ad_nil)))) (Nat.le_of_ble_eq_true rfl)) ad_nil)) (Nat.le_of_ble_eq_true rfl)) (ad_cons (ej_tupD (ad_cons (ej_tupD (ad_cons ej_int (ad_cons ej_int (ad_cons ej_int (ad_cons ej_int ad_nil)))) (Nat.le_of_ble_eq_true rfl)) (ad_cons (ej_tupD (ad_cons ej_int (ad_cons ej_int (ad_cons (ej_neg ej_int) (ad_cons ej_int ad_nil)))) (Nat.le_of_ble_eq_true rfl)) ad_nil)) (Nat.le_of_ble_eq_true rfl)) ad_nil)) (Nat.le_of_ble_eq_true rfl)) (Nat.le_of_ble_eq_true rfl)) rfl) aj_nil)) (ra)) ⟨rfl, rfl⟩
  have r3 := R_take.mk (tkB B1 4) 2 (by decide) (by unfold Bd; decide +kernel) ok2
  have ok3 := tkB_ok ok2 2
  have oth : ∃ (t2 : F4) (n : Nat), t2.ok ∧ ((tkV (tkB B1 4) 2 = 0 ∧ n = 5 ∧ R_some [.bag, .da (.list ((nearF (b, p, low, high)).map F4.d))] (tkB (tkB B1 4) 2) t2.d (tkB (tkB (tkB B1 4) 2) n)) ∨ (tkV (tkB B1 4) 2 ≠ 0 ∧ n = 10 ∧ R_some [.bag, .da (.list (crossF.map F4.d))] (tkB (tkB B1 4) 2) t2.d (tkB (tkB (tkB B1 4) 2) n))) := by
    by_cases h2 : tkV (tkB B1 4) 2 = 0
    · have ra := R_some.mk (tkB (tkB B1 4) 2) ((nearF (b, p, low, high)).map F4.d) (Nat.le_of_ble_eq_true rfl) (Nat.le_of_ble_eq_true rfl) ok3
      obtain ⟨tt, htt, hp⟩ := pick_map (nearF (b, p, low, high)) F4.d (tkB (tkB B1 4) 2) (Nat.le_of_ble_eq_true rfl)
      rw [hp] at ra
      exact ⟨tt, 5, fm_of (List.all_eq_true.mp Nt _ htt), .inl ⟨h2, rfl, ra⟩⟩
    · have ra := R_some.mk (tkB (tkB B1 4) 2) (crossF.map F4.d) (Nat.le_of_ble_eq_true rfl) (Nat.le_of_ble_eq_true rfl) ok3
      obtain ⟨tt, htt, hp⟩ := pick_map crossF F4.d (tkB (tkB B1 4) 2) (Nat.le_of_ble_eq_true rfl)
      rw [hp] at ra
      exact ⟨tt, 10, fm_of (List.all_eq_true.mp cross_fm _ htt), .inr ⟨h2, rfl, ra⟩⟩
  obtain ⟨t2, n, ok_t2, hoth⟩ := oth
  have ok4 : Bok (tkB (tkB (tkB B1 4) 2) n) := tkB_ok ok3 n
  generalize hB4 : tkB (tkB (tkB B1 4) 2) n = B4 at *
  have r5 := R_take.mk B4 2 (by decide) (by unfold Bd; decide +kernel) ok4
  have ok5 := tkB_ok ok4 2
  have rest : ∀ (r : PyData), (r = if tkV B4 2 = 0 then cplD ((b, p, low, high), t2) else cplD (t2, (b, p, low, high))) → ∀ (f : Addr) (cdv : Value) (A : Around) (out : List Env) (s : Shared) (H : Hp) (E0 : XK),
      Gx 6 (cxOf CX0 P w K mg base ["_law_bag_here", "_law_one", "_law_base", "_law_digits", "_law_low", "_law_high", "_law_planted", "_law_near", "_law_cross", "_law_other"] "_law_couple" (defScope s_l_couple) f cdv A out s H E0).nox →
      SJ (cxOf CX0 P w K mg base ["_law_bag_here", "_law_one", "_law_base", "_law_digits", "_law_low", "_law_high", "_law_planted", "_law_near", "_law_cross", "_law_other"] "_law_couple" (defScope s_l_couple) f cdv A out s H E0).nox [.bag, .da (fmP b p low high), .da (.int b), .da (.int p), .da (.int low), .da (.int high), .da (.list ((plantF.take 6).map cplD)), .no, .no, .no] B1 ((defBody s_l_couple).drop 4) { nx := fun _ B2 => r = .none ∧ B2 = tkB B4 2, rt := fun d B2 => d = r ∧ B2 = tkB B4 2 } := fun r hr f cdv A out s H E0 G => by
    refine sj_when (x := false) (tj_is (tj_eqI G.hu (ej_call c_l_take (G.le (by decide)) (aj_cons (ej_bag 0) (aj_cons ej_int aj_nil)) (r2)) ej_int) (decide_eq_false h4)) (fun h => Bool.noConfusion h) (fun _ => ?_)
    refine sj_set 7 (d := .da (.list (((nearF (b, p, low, high)).take 3).map F4.d))) G.nd (ej_is (ej_lstD (ad_cons (ej_tupD (ad_cons (ej_dat 2) (ad_cons (ej_add (ej_dat 3) ej_int) (ad_cons (ej_dat 4) (ad_cons (ej_dat 5) ad_nil)))) (Nat.le_of_ble_eq_true rfl)) (ad_cons (ej_tupD (ad_cons (ej_dat 2) (ad_cons (ej_dat 3) (ad_cons (ej_sub (ej_dat 4) ej_int) (ad_cons (ej_dat 5) ad_nil)))) (Nat.le_of_ble_eq_true rfl)) (ad_cons (ej_tupD (ad_cons (ej_dat 2) (ad_cons (ej_dat 3) (ad_cons (ej_dat 4) (ad_cons (ej_add (ej_dat 5) ej_int) ad_nil)))) (Nat.le_of_ble_eq_true rfl)) ad_nil))) (Nat.le_of_ble_eq_true rfl)) rfl) ?_
    refine sj_set 7 (d := .da (.list ((nearF (b, p, low, high)).map F4.d))) G.nd (ej_is (ej_catL (ej_dat (d := .list (((nearF (b, p, low, high)).take 3).map F4.d)) 7) (ej_lstD (ad_cons (ej_tupD (ad_cons (ej_dat 2) (ad_cons (ej_add (ej_dat 3) ej_int) (ad_cons (ej_sub (ej_dat 4) ej_int) (ad_cons (ej_sub (ej_dat 5) (ej_intB m_int (ej_gt (ej_dat 5) (ej_dat 4)))) ad_nil)))) (Nat.le_of_ble_eq_true rfl)) (ad_cons (ej_tupD (ad_cons (ej_dat 2) (ad_cons (ej_dat 3) (ad_cons (ej_dat 4) (ad_cons (ej_dat 5) ad_nil)))) (Nat.le_of_ble_eq_true rfl)) ad_nil)) (Nat.le_of_ble_eq_true rfl)) (Nat.le_of_ble_eq_true rfl)) rfl) ?_
    refine sj_set 8 (d := .da (.list ((crossF.take 6).map F4.d))) G.nd (ej_is (ej_lstD (ad_cons (ej_tupD (ad_cons ej_int (ad_cons ej_int (ad_cons (ej_neg ej_int) (ad_cons ej_int ad_nil)))) (Nat.le_of_ble_eq_true rfl)) (ad_cons (ej_tupD (ad_cons ej_int (ad_cons ej_int (ad_cons (ej_neg ej_int) (ad_cons ej_int ad_nil)))) (Nat.le_of_ble_eq_true rfl)) (ad_cons (ej_tupD (ad_cons ej_int (ad_cons ej_int (ad_cons (ej_neg ej_int) (ad_cons ej_int ad_nil)))) (Nat.le_of_ble_eq_true rfl)) (ad_cons (ej_tupD (ad_cons ej_int (ad_cons ej_int (ad_cons (ej_neg ej_int) (ad_cons ej_int ad_nil)))) (Nat.le_of_ble_eq_true rfl)) (ad_cons (ej_tupD (ad_cons ej_int (ad_cons ej_int (ad_cons ej_int (ad_cons ej_int ad_nil)))) (Nat.le_of_ble_eq_true rfl)) (ad_cons (ej_tupD (ad_cons ej_int (ad_cons ej_int (ad_cons (ej_neg ej_int) (ad_cons ej_int ad_nil)))) (Nat.le_of_ble_eq_true rfl)) ad_nil)))))) (Nat.le_of_ble_eq_true rfl)) rfl) ?_
    refine sj_set 8 (d := .da (.list ((crossF.take 8).map F4.d))) G.nd (ej_is (ej_catL (ej_dat (d := .list ((crossF.take 6).map F4.d)) 8) (ej_lstD (ad_cons (ej_tupD (ad_cons ej_int (ad_cons ej_int (ad_cons ej_int (ad_cons ej_int ad_nil)))) (Nat.le_of_ble_eq_true rfl)) (ad_cons (ej_tupD (ad_cons ej_int (ad_cons ej_int (ad_cons (ej_neg ej_int) (ad_cons ej_int ad_nil)))) (Nat.le_of_ble_eq_true rfl)) ad_nil)) (Nat.le_of_ble_eq_true rfl)) (Nat.le_of_ble_eq_true rfl)) rfl) ?_
    refine sj_set 9 (d := .da t2.d) (B1 := B4) G.nd ?_ ?_
    · rcases hoth with ⟨h2, hn, ra⟩ | ⟨h2, hn, ra⟩
      · refine ej_ifT (tj_is (tj_eqI G.hu (ej_call c_l_take (G.le (by decide)) (aj_cons (ej_bag 0) (aj_cons ej_int aj_nil)) (r3)) ej_int) (decide_eq_true h2)) ?_
        exact (ej_call c_l_some (G.le (by decide)) (aj_cons (ej_bag 0) (aj_cons (ej_dat (d := .list ((nearF (b, p, low, high)).map F4.d)) 7) aj_nil)) (ra))
      · refine ej_ifF (tj_is (tj_eqI G.hu (ej_call c_l_take (G.le (by decide)) (aj_cons (ej_bag 0) (aj_cons ej_int aj_nil)) (r3)) ej_int) (decide_eq_false h2)) ?_
        exact (ej_call c_l_some (G.le (by decide)) (aj_cons (ej_bag 0) (aj_cons (ej_is (y := .list (crossF.map F4.d)) (ej_catL (ej_dat (d := .list ((crossF.take 8).map F4.d)) 8) (ej_lstD (ad_cons (ej_tupD (ad_cons ej_int (ad_cons ej_int (ad_cons (ej_neg ej_int) (ad_cons ej_int ad_nil)))) (Nat.le_of_ble_eq_true rfl)) (ad_cons (ej_tupD (ad_cons ej_int (ad_cons ej_int (ad_cons (ej_neg ej_int) (ad_cons ej_int ad_nil)))) (Nat.le_of_ble_eq_true rfl)) ad_nil)) (Nat.le_of_ble_eq_true rfl)) (Nat.le_of_ble_eq_true rfl)) rfl) aj_nil)) (ra))
    · refine sj_ret (ej_if (d := .da r) (B2 := tkB B4 2) (tj_eqI G.hu (ej_call c_l_take (G.le (by decide)) (aj_cons (ej_bag 0) (aj_cons ej_int aj_nil)) (r5)) ej_int) (fun h => ?_) (fun h => ?_)) ⟨rfl, rfl⟩
      · rw [hr, if_pos (of_decide_eq_true h)]
        exact (ej_tupD (ad_cons (ej_dat (d := fmP b p low high) 1) (ad_cons (ej_dat (d := t2.d) 9) ad_nil)) (Nat.le_of_ble_eq_true rfl))
      · rw [hr, if_neg (of_decide_eq_false h)]
        exact (ej_tupD (ad_cons (ej_dat (d := t2.d) 9) (ad_cons (ej_dat (d := fmP b p low high) 1) ad_nil)) (Nat.le_of_ble_eq_true rfl))
  have sc : cntI (b, p, low, high) < 800 := of_decide_eq_true (List.all_eq_true.mp small_cnt _ hm)
  refine ⟨_, tkB B4 2, ⟨ok5, if tkV B4 2 = 0 then ((b, p, low, high), t2) else (t2, (b, p, low, high)), rfl, ?_, ?_⟩, pre _ _ (rest _ (by split <;> rfl))⟩
  · split; exact ⟨Ft, ok_t2⟩; exact ⟨ok_t2, Ft⟩
  · split; exact .inl sc; exact .inr sc

abbrev s_l_lost : Stmt := topS 41
theorem sc_l_lost : FnScope ["_law_form", "_law_other", "_law_number"] ["_law_form", "_law_other"] (defScope s_l_lost) := ⟨rfl, rfl, rfl, by decide +kernel, rfl, by decide +kernel, by decide +kernel⟩

theorem c_of_l_lost (c_l_numbers : Cal P w K mg base "_law_numbers" 5 R_numbers) (c_l_worth : Cal P w K mg base "_law_worth" 7 R_worth) (c_l_number_of : Cal P w K mg base "_law_number_of" 8 R_numof) (T : At K mg "_law_lost" s_l_lost ["_law_form", "_law_other"]) : Cal P w K mg base "_law_lost" 9 R_lawlost :=
  cal_at T sc_l_lost (by rintro _ _ _ _ ⟨⟩; rfl) fun f cd0 A out s H E0 G Γ B r B' hR => by
  obtain ⟨b, p, low, high, b', p', low', high', B, F, F', hN⟩ := hR
  have lh := F.lh
  have al := lost_all F F'
  refine sj_ret (ej_is (ej_ne G.hu (x := onesD ((numsK b p low (high - low).toNat).filter fun v => !decide (exQ b' p' low' high' (v.wQ b)))) (y := .list []) (ej_lcF1 (j := 2) (x := "_law_number") G.nd G.calm (blkOk_by (N := ["_law_form", "_law_other", "_law_number"]) (sc := defScope s_l_lost) (by decide +kernel)) (fun _ _ _ _ _ => pg_name (i := 2) G.nd rfl (Or.inl rfl))
    (rj_lcF1 (numsK b p low (high - low).toNat) Va.d (fun _ => PyData.int 1) (fun v => !decide (exQ b' p' low' high' (v.wQ b))) (ej_call c_l_numbers (G.le (by decide)) (aj_cons (ej_dat 0) aj_nil) (R_numbers.mk b p low high B F hN)) (by rw [numsK_len]; exact hN) (fun v hv s0 H0 C cl fp => ?_) (fun v hv hf s0 H0 C cl fp => ej_int))) (ej_lstD ad_nil (Nat.le_of_ble_eq_true rfl)) ?_ rfl) ?_) ⟨rfl, rfl⟩
  · obtain ⟨c, e, rfl, hok, _⟩ := numsK_ok F (high - low).toNat (by omega) v hv
    exact tj_is (tj_isN (ej_call c_l_number_of ⟨G.gd, G.rm.mono (by decide), G.nd, G.calm⟩ (aj_cons (ej_dat 1) (aj_cons (ej_call c_l_worth ⟨G.gd, G.rm.mono (by decide), G.nd, G.calm⟩ (aj_cons (ej_dat 0) (aj_cons (ej_dat (d := (Va.num 0 c e).d) 2) aj_nil)) (R_worth.mk b p low high 0 c e B F hok)) aj_nil)) (R_numof.mk b' p' low' high' _ 3040 2341 B F' (F.wz hok) (by decide) (by decide)))) (numof_none F' _)
  · exact ones_shaped _
  · rw [lostD_none, ones_eqv]
    congr 1
    generalize ((numsK b p low (high - low).toNat).filter fun v => !decide (exQ b' p' low' high' (v.wQ b))) = l at *
    cases hl : lostV b p low high b' p' low' high' with
    | none => rw [al.mpr hl]; rfl
    | some ce =>
      cases l with
      | nil => rw [al.mp rfl] at hl; cases hl
      | cons v l => rfl

abbrev s_l_count : Stmt := topS 42
theorem sc_l_count : FnScope ["_law_form", "_law_base", "_law_digits", "_law_low", "_law_high", "_law_whole", "_law_lead"] ["_law_form"] (defScope s_l_count) := ⟨rfl, rfl, rfl, by decide +kernel, rfl, by decide +kernel, by decide +kernel⟩

theorem c_of_l_count (c_l_to : Cal P w K mg base "_law_to" 4 R_pow) (T : At K mg "_law_count" s_l_count ["_law_form"]) : Cal P w K mg base "_law_count" 5 (R_form fun b p low high => .int (2 * (((b ^ p : Nat) : Int) + (high - low) * (((b ^ p : Nat) : Int) - ((b ^ (p - 1) : Nat) : Int))))) :=
  cal_at T sc_l_count (by rintro _ _ _ _ ⟨⟩; rfl) fun f cd0 A out s H E0 G Γ B r B' hR => by
  obtain ⟨b, p, low, high, B, F⟩ := hR
  have p7 := F.p7; have flo := F.lo; have fhi := F.hi; have lh := F.lh; have p2 := F.p2; have bp := F.bp
  have Pw := F.pows; have pl2 := Pw.l2; have ge := Pw.ge
  have e1 : (p : Int) - 1 = ((p - 1 : Nat) : Int) := by omega
  refine sj_unpack [1, 2, 3, 4] G.calm (ej_dat (d := .tuple [.int b, .int p, .int low, .int high]) 0) (pgs_cons (pgN 1 G.nd) (pgs_cons (pgN 2 G.nd) (pgs_cons (pgN 3 G.nd) (pgs_cons (pgN 4 G.nd) pgs_nil)))) rfl ?_
  refine sj_par 5 6 G.nd G.calm (aj_cons (ej_call c_l_to (G.le (by decide)) (aj_cons (ej_dat 1) (aj_cons (ej_dat 2) aj_nil)) (R_pow.mk b p B F.b6 (by omega))) (aj_cons (ej_call c_l_to (G.le (by decide)) (aj_cons (ej_dat 1) (aj_cons (ej_is (ej_sub (ej_dat 2) ej_int) (congrArg PyData.int e1)) aj_nil)) (R_pow.mk b (p - 1) B F.b6 (by omega))) aj_nil)) ?_ (by decide) (by rfl)
  have h1 : Bd 12 (high - low) := by unfold Bd; omega
  have h2 : Bd 701 (((b ^ p : Nat) : Int) - ((b ^ (p - 1) : Nat) : Int)) := by unfold Bd; omega
  have h3 : Bd 715 (((b ^ p : Nat) : Int) + (high - low) * (((b ^ p : Nat) : Int) - ((b ^ (p - 1) : Nat) : Int))) := by
    have := h1.mul h2
    have h4 : Bd 714 ((high - low) * (((b ^ p : Nat) : Int) - ((b ^ (p - 1) : Nat) : Int))) := this.le (by decide)
    unfold Bd at h4 ⊢
    omega
  exact sj_ret (ej_mul ej_int (ej_add (ej_dat 5) (ej_mul (ej_sub (ej_dat 4) (ej_dat 3)) (ej_sub (ej_dat 5) (ej_dat 6)) (cm h1 h2 (by decide)))) (cm (show Bd 4 (2 : Int) by unfold Bd; decide) h3 (by decide))) ⟨rfl, rfl⟩

abbrev s_l_is_lost_right : Stmt := topS 43
theorem sc_l_is_lost_right : FnScope ["_law_form", "_law_other", "_law_is_in", "_law_lost_here"] ["_law_form", "_law_other", "_law_is_in"] (defScope s_l_is_lost_right) := ⟨rfl, rfl, rfl, by decide +kernel, rfl, by decide +kernel, by decide +kernel⟩

theorem c_of_l_is_lost_right /-H-/ (c_lost_number : Cal P w K mg base "lost_number" 7 R_lost) (c_l_alike : Cal P w K mg base "_law_alike" 4 R_alikeA) (c_is_within : Cal P w K mg base "is_within" 8 R_isin) (c_l_is_number : Cal P w K mg base "_law_is_number" 5 R_isnum) (c_l_number_of : Cal P w K mg base "_law_number_of" 8 R_numof) (c_l_worth : Cal P w K mg base "_law_worth" 7 R_worth) /-E-/ (T : At K mg "_law_is_lost_right" s_l_is_lost_right ["_law_form", "_law_other", "_law_is_in"]) : Cal P w K mg base "_law_is_lost_right" 9 R_lright :=
  cal_at T sc_l_is_lost_right (by rintro _ _ _ _ ⟨⟩; rfl) fun f cd0 A out s0 H E0 G Γ B r B' hR => by
  obtain ⟨b, p, low, high, b', p', low', high', B, F, F'⟩ := hR
  have RL := R_lost.mk b p low high b' p' low' high' B F F'
  have RI := R_isin.mk b p low high b' p' low' high' B F F'
  have RA := fun v : Bool => R_alikeA.mk (.list [.bool v, .bool v]) B (by cases v <;> exact ⟨by decide +kernel, by decide +kernel, by decide +kernel⟩) (.inl rfl)
  have l_some := fun c e h => lost_some F F' (c := c) (e := e) h
  unfold isInB
  generalize lostV b p low high b' p' low' high' = L at *
  cases L with
  | none =>
    refine sj_set 3 (d := .da .none) (B1 := B) G.nd (ej_call c_lost_number (G.le (by decide)) (aj_cons (ej_dat 0) (aj_cons (ej_dat 1) aj_nil)) (RL)) ?_
    refine sj_when (x := false) (tj_not (x := true) (tj_val (ej_call c_l_alike (G.le (by decide)) (aj_cons (ej_lstD (ad_cons (ej_call c_is_within (G.le (by decide)) (aj_cons (ej_dat 0) (aj_cons (ej_dat 1) aj_nil)) (RI)) (ad_cons (ej_isN (ej_dat (d := .none) 3)) ad_nil)) (Nat.le_of_ble_eq_true rfl)) (aj_cons (ej_lstD (ad_cons (ej_dat (d := .bool true) 2) (ad_cons (ej_dat (d := .bool true) 2) ad_nil)) (Nat.le_of_ble_eq_true rfl)) aj_nil)) (RA true)))) (fun h => Bool.noConfusion h) (fun _ => ?_)
    exact sj_when (x := true) (tj_is (tj_isN (ej_dat (d := .none) 3)) rfl) (fun _ => sj_ret ej_bl ⟨rfl, rfl⟩) (fun h => Bool.noConfusion h)
  | some ce =>
    obtain ⟨c, e⟩ := ce
    obtain ⟨hv, hcan, hne⟩ := l_some c e rfl
    refine sj_set 3 (d := .da (Va.num 0 c e).d) (B1 := B) G.nd (ej_call c_lost_number (G.le (by decide)) (aj_cons (ej_dat 0) (aj_cons (ej_dat 1) aj_nil)) (RL)) ?_
    refine sj_when (x := false) (tj_not (x := true) (tj_val (ej_call c_l_alike (G.le (by decide)) (aj_cons (ej_lstD (ad_cons (ej_call c_is_within (G.le (by decide)) (aj_cons (ej_dat 0) (aj_cons (ej_dat 1) aj_nil)) (RI)) (ad_cons (ej_isN (ej_dat (d := (Va.num 0 c e).d) 3)) ad_nil)) (Nat.le_of_ble_eq_true rfl)) (aj_cons (ej_lstD (ad_cons (ej_dat (d := .bool false) 2) (ad_cons (ej_dat (d := .bool false) 2) ad_nil)) (Nat.le_of_ble_eq_true rfl)) aj_nil)) (RA false)))) (fun h => Bool.noConfusion h) (fun _ => ?_)
    refine sj_when (x := false) (tj_is (tj_isN (ej_dat (d := (Va.num 0 c e).d) 3)) rfl) (fun h => Bool.noConfusion h) (fun _ => ?_)
    refine sj_ret (ej_and (x := true) (y := true) (ej_call c_l_is_number (G.le (by decide)) (aj_cons (ej_dat 0) (aj_cons (ej_dat (d := (Va.num 0 c e).d) 3) aj_nil)) (R_isnum.mk b p low high 0 c e B F ⟨.inl rfl, hcan, hv.2.2.2.2⟩)) fun _ => ej_one (ej_is (ej_isN (ej_call c_l_number_of (G.le (by decide)) (aj_cons (ej_dat 1) (aj_cons (ej_call c_l_worth (G.le (by decide)) (aj_cons (ej_dat 0) (aj_cons (ej_dat (d := (Va.num 0 c e).d) 3) aj_nil)) (R_worth.mk b p low high 0 c e B F hv)) aj_nil)) (R_numof.mk b' p' low' high' _ 3040 2341 B F' (F.wz hv) (by decide) (by decide)))) ?_)) ⟨rfl, rfl⟩
    rw [numof_none F', decide_eq_false hne]; rfl

abbrev s_l_one_base : Stmt := topS 44
theorem sc_l_one_base : FnScope ["_law_one", "_law_other"] ["_law_one", "_law_other"] (defScope s_l_one_base) := ⟨rfl, rfl, rfl, by decide +kernel, rfl, by decide +kernel, by decide +kernel⟩

theorem c_of_l_one_base /-H-/  /-E-/ (T : At K mg "_law_one_base" s_l_one_base ["_law_one", "_law_other"]) : Cal P w K mg base "_law_one_base" 4 R_onebase :=
  cal_at T sc_l_one_base (by rintro _ _ _ _ ⟨⟩; rfl) fun f cd0 A out s0 H E0 G Γ B r B' hR => by
  obtain ⟨b, p, low, high, b', p', low', high', B⟩ := hR
  refine sj_ret (ej_is (ej_and (ej_le (ej_at (y := .int p) (ej_dat 0)) (ej_at (y := .int p') (ej_dat 1))) fun _ => (ej_and (ej_ge (ej_at (y := .int low) (ej_dat 0)) (ej_at (y := .int low') (ej_dat 1))) fun _ => (ej_one (ej_le (ej_add (ej_at (y := .int p) (ej_dat 0)) (ej_at (y := .int high) (ej_dat 0))) (ej_add (ej_at (y := .int p') (ej_dat 1)) (ej_at (y := .int high') (ej_dat 1))))))) ?_) ⟨rfl, rfl⟩
  refine congrArg PyData.bool ?_
  rw [← Bool.decide_and, ← Bool.decide_and]
  exact decide_eq_decide.mpr ⟨fun ⟨h1, h2, h3⟩ => ⟨by omega, h2, h3⟩, fun ⟨h1, h2, h3⟩ => ⟨by omega, h2, h3⟩⟩

abbrev s_l_unlike_couple : Stmt := topS 45
theorem sc_l_unlike_couple : FnScope ["_law_bag_here", "_law_n", "_law_digits", "_law_low", "_law_one", "_law_less"] ["_law_bag_here"] (defScope s_l_unlike_couple) := ⟨rfl, rfl, rfl, by decide +kernel, rfl, by decide +kernel, by decide +kernel⟩

theorem c_of_l_unlike_couple /-H-/ (c_l_some : Cal P w K mg base "_law_some" 5 R_some) (c_l_take : Cal P w K mg base "_law_take" 4 R_take) (c_l_to : Cal P w K mg base "_law_to" 4 R_pow) /-E-/ (T : At K mg "_law_unlike_couple" s_l_unlike_couple ["_law_bag_here"]) : CalX P w K mg base "_law_unlike_couple" 6 Pre_cpl Post_cin :=
  calx_at T sc_l_unlike_couple (by rintro _ _ ⟨rfl, _⟩; rfl) fun f cd0 A out s0 H E0 G Γ B hPre => by
  obtain ⟨rfl, ok0⟩ := hPre
  obtain ⟨n, hn, B1, ra, ok1⟩ := sm_ex ([2, 4] : List Nat) (fun n => PyData.int n) (by decide) ok0 (by decide)
  replace ra : R_some [.bag, .da (.list [.int 2, .int 4])] B (.int n) B1 := ra
  obtain ⟨D, hD, B2, rb, ok2⟩ := sm_ex ([5, 9, 12, 3] : List Nat) (fun n => PyData.int n) (by decide) ok1 (by decide)
  replace rb : R_some [.bag, .da (.list [.int 5, .int 9, .int 12, .int 3])] B1 (.int D) B2 := rb
  obtain ⟨x, B3, rc, x0, x1, ok3⟩ := tk_ex ok2 7 (by decide) (by decide)
  obtain ⟨y, B4, rd, y0, y1, ok4⟩ := tk_ex ok3 4 (by decide) (by decide)
  obtain ⟨z, B5, re, z0, z1, ok5⟩ := tk_ex ok4 4 (by decide) (by decide)
  have hn' : n = 2 ∨ n = 4 := by simpa using hn
  have hD' : D = 5 ∨ D = 9 ∨ D = 12 ∨ D = 3 := by simpa using hD
  refine sj_par3 1 2 3 G.nd G.calm (aj_cons (ej_call c_l_some (G.le (by decide)) (aj_cons (ej_bag 0) (aj_cons (ej_lstD (ad_cons ej_int (ad_cons ej_int ad_nil)) (Nat.le_of_ble_eq_true rfl)) aj_nil)) (ra)) (aj_cons (ej_call c_l_some (G.le (by decide)) (aj_cons (ej_bag 0) (aj_cons (ej_lstD (ad_cons ej_int (ad_cons ej_int (ad_cons ej_int (ad_cons ej_int ad_nil)))) (Nat.le_of_ble_eq_true rfl)) aj_nil)) (rb)) (aj_cons (ej_sub ej_int (ej_call c_l_take (G.le (by decide)) (aj_cons (ej_bag 0) (aj_cons ej_int aj_nil)) (rc))) aj_nil))) ?_ (by decide) (by decide) (by decide) (by rfl)
  have hu : ∃ u : Int, u = 2 - x := ⟨_, rfl⟩
  obtain ⟨u, hu⟩ := hu
  rw [← hu]
  refine sj_set 4 (d := .da (fmP (2 ^ n) D u (u + 1 + y))) G.nd (ej_tupD (ad_cons (ej_call c_l_to (G.le (by decide)) (aj_cons ej_int (aj_cons (ej_dat 1) aj_nil)) (R_pow.mk 2 n B3 (by decide) (by omega))) (ad_cons (ej_dat 2) (ad_cons (ej_dat 3) (ad_cons (ej_add (ej_add (ej_dat 3) ej_int) (ej_call c_l_take (G.le (by decide)) (aj_cons (ej_bag 0) (aj_cons ej_int aj_nil)) (rd))) ad_nil)))) (Nat.le_of_ble_eq_true rfl)) ?_
  have F1 : Fm (2 ^ n) D u (u + 1 + y) := by
    rcases hn' with rfl | rfl <;> exact fm_small (by decide) (by decide) (by omega) (by omega) (by omega) (by omega) (by omega)
  by_cases hz : z = 0
  · obtain ⟨b, hb, B6, rf, ok6⟩ := sm_ex ([6, 14] : List Nat) (fun n => PyData.int n) (by decide) ok5 (by decide)
    replace rf : R_some [.bag, .da (.list [.int 6, .int 14])] B5 (.int b) B6 := rf
    obtain ⟨v, B7, rg, v0, v1, ok7⟩ := tk_ex ok6 4 (by decide) (by decide)
    obtain ⟨c, hc, B8, rh, ok8⟩ := sm_ex ([2, 10] : List Nat) (fun n => PyData.int n) (by decide) ok7 (by decide)
    replace rh : R_some [.bag, .da (.list [.int 2, .int 10])] B7 (.int c) B8 := rh
    have hb' : b = 6 ∨ b = 14 := by simpa using hb
    have hc' : c = 2 ∨ c = 10 := by simpa using hc
    refine sj_when (x := true) (tj_is (tj_eqI G.hu (ej_call c_l_take (G.le (by decide)) (aj_cons (ej_bag 0) (aj_cons ej_int aj_nil)) (re)) ej_int) (decide_eq_true hz)) (fun _ => ?_) (fun h => Bool.noConfusion h)
    refine sj_set 4 (d := .da (fmP b D (-1 - v) 2)) G.nd (ej_tupD (ad_cons (ej_call c_l_some (G.le (by decide)) (aj_cons (ej_bag 0) (aj_cons (ej_lstD (ad_cons ej_int (ad_cons ej_int ad_nil)) (Nat.le_of_ble_eq_true rfl)) aj_nil)) (rf)) (ad_cons (ej_dat 2) (ad_cons (ej_sub (ej_neg ej_int) (ej_call c_l_take (G.le (by decide)) (aj_cons (ej_bag 0) (aj_cons ej_int aj_nil)) (rg))) (ad_cons ej_int ad_nil)))) (Nat.le_of_ble_eq_true rfl)) ?_
    refine sj_ret (ej_tupD (ad_cons (ej_dat (d := fmP b D (-1 - v) 2) 4) (ad_cons (ej_tupD (ad_cons (ej_call c_l_some (G.le (by decide)) (aj_cons (ej_bag 0) (aj_cons (ej_lstD (ad_cons ej_int (ad_cons ej_int ad_nil)) (Nat.le_of_ble_eq_true rfl)) aj_nil)) (rh)) (ad_cons ej_int (ad_cons (ej_neg ej_int) (ad_cons ej_int ad_nil)))) (Nat.le_of_ble_eq_true rfl)) (ad_cons ej_bl ad_nil))) (Nat.le_of_ble_eq_true rfl)) ?_
    have F2 : Fm b D (-1 - v) 2 := by
      exact fm_small (by omega) (by omega) (by omega) (by omega) (by omega) (by omega) (by omega)
    have F3 : Fm c 40 (-60) 40 := by
      exact fm_small (by omega) (by omega) (by omega) (by omega) (by omega) (by omega) (by omega)
    refine cin_mk (Γ := [.bag]) (B := B) (q := False) ok8 F2 F3 rfl ⟨fun h => ?_, False.elim⟩
    rcases hb' with rfl | rfl
    · exact out_in (q := 3) F2 F3 (by decide) (by decide) (by rcases hc' with rfl | rfl <;> decide) (by omega) h
    · exact out_in (q := 7) F2 F3 (by decide) (by decide) (by rcases hc' with rfl | rfl <;> decide) (by omega) h
  refine sj_when (x := false) (tj_is (tj_eqI G.hu (ej_call c_l_take (G.le (by decide)) (aj_cons (ej_bag 0) (aj_cons ej_int aj_nil)) (re)) ej_int) (decide_eq_false hz)) (fun h => Bool.noConfusion h) (fun _ => ?_)
  obtain ⟨⟨a, b, c⟩, hl, B6, rf, ok6⟩ := sm_ex ([(0, 0, 0), (0, 0, 0), (1, 0, 0), (0, 1, 0), (0, 0, 1)] : List (Int × Int × Int)) d3 (by decide) ok5 (by decide)
  replace rf : R_some [.bag, .da (.list [.tuple [.int 0, .int 0, .int 0], .tuple [.int 0, .int 0, .int 0], .tuple [.int 1, .int 0, .int 0], .tuple [.int 0, .int 1, .int 0], .tuple [.int 0, .int 0, .int 1]])] B5 (d3 (a, b, c)) B6 := rf
  have hl' : (a = 0 ∧ b = 0 ∧ c = 0) ∨ (a = 1 ∧ b = 0 ∧ c = 0) ∨ (a = 0 ∧ b = 1 ∧ c = 0) ∨ (a = 0 ∧ b = 0 ∧ c = 1) := by simpa using hl
  refine sj_set 5 (d := .da (d3 (a, b, c))) G.nd (ej_call c_l_some (G.le (by decide)) (aj_cons (ej_bag 0) (aj_cons (ej_lstD (ad_cons (ej_tupD (ad_cons ej_int (ad_cons ej_int (ad_cons ej_int ad_nil))) (Nat.le_of_ble_eq_true rfl)) (ad_cons (ej_tupD (ad_cons ej_int (ad_cons ej_int (ad_cons ej_int ad_nil))) (Nat.le_of_ble_eq_true rfl)) (ad_cons (ej_tupD (ad_cons ej_int (ad_cons ej_int (ad_cons ej_int ad_nil))) (Nat.le_of_ble_eq_true rfl)) (ad_cons (ej_tupD (ad_cons ej_int (ad_cons ej_int (ad_cons ej_int ad_nil))) (Nat.le_of_ble_eq_true rfl)) (ad_cons (ej_tupD (ad_cons ej_int (ad_cons ej_int (ad_cons ej_int ad_nil))) (Nat.le_of_ble_eq_true rfl)) ad_nil))))) (Nat.le_of_ble_eq_true rfl)) aj_nil)) (rf)) ?_
  have bd : ∀ i : Int, -1000 ≤ i → i ≤ 1000 → Bd 60 i := fun i h1 h2 => by unfold Bd; omega
  have cn := bd n (by omega) (by omega)
  refine sj_ret (ej_tupD (ad_cons (ej_dat (d := fmP (2 ^ n) D u (u + 1 + y)) 4) (ad_cons (ej_tupD (ad_cons ej_int (ad_cons (ej_sub (ej_mul (ej_dat 1) (ej_dat 2) (cm cn (bd D (by omega) (by omega)))) (ej_at (y := .int a) (ej_dat (d := d3 (a, b, c)) 5))) (ad_cons (ej_add (ej_mul (ej_dat 1) (ej_dat 3) (cm cn (bd u (by omega) (by omega)))) (ej_at (y := .int b) (ej_dat (d := d3 (a, b, c)) 5))) (ad_cons (ej_sub (ej_mul (ej_dat 1) (ej_at (y := .int (u + 1 + y)) (ej_dat (d := fmP (2 ^ n) D u (u + 1 + y)) 4)) (cm cn (bd _ (by omega) (by omega)))) (ej_at (y := .int c) (ej_dat (d := d3 (a, b, c)) 5))) ad_nil)))) (Nat.le_of_ble_eq_true rfl)) (ad_cons (ej_eq G.hu (ej_dat (d := d3 (a, b, c)) 5) (ej_tupD (ad_cons ej_int (ad_cons ej_int (ad_cons ej_int ad_nil))) (Nat.le_of_ble_eq_true rfl)) (by rcases hl' with ⟨rfl, rfl, rfl⟩ | ⟨rfl, rfl, rfl⟩ | ⟨rfl, rfl, rfl⟩ | ⟨rfl, rfl, rfl⟩ <;> decide +kernel) (by decide +kernel)) ad_nil))) (Nat.le_of_ble_eq_true rfl)) ?_
  obtain ⟨p', hp⟩ : ∃ p' : Nat, (n : Int) * D - a = p' := ⟨((n : Int) * D - a).toNat, by rcases hn' with rfl | rfl <;> omega⟩
  rw [hp]
  have F2 : Fm (2 ^ 1) p' (n * u + b) (n * (u + 1 + y) - c) := by
    rcases hn' with rfl | rfl <;> exact fm_small (by decide) (by decide) (by omega) (by omega) (by omega) (by omega) (by omega)
  refine cin_mk (Γ := [.bag]) (B := B) (q := a = 0 ∧ b = 0 ∧ c = 0) ok6 F1 F2 ?_ ?_
  · refine congrArg (fun v => PyData.tuple [_, _, PyData.bool v]) ?_
    rcases hl' with ⟨rfl, rfl, rfl⟩ | ⟨rfl, rfl, rfl⟩ | ⟨rfl, rfl, rfl⟩ | ⟨rfl, rfl, rfl⟩ <;> decide +kernel
  rw [two_in (by omega) (by omega) F1 F2]
  constructor
  · intro h
    have h1 := h u (by omega) (by omega)
    have h2 := h (u + 1 + y) (by omega) (by omega)
    obtain ⟨m, a1, a2, a3, a4⟩ := h1
    obtain ⟨m', b1, b2, b3, b4⟩ := h2
    rcases hn' with rfl | rfl <;> omega
  · rintro ⟨rfl, rfl, rfl⟩ e e1 e2
    refine ⟨n * e, ?_, ?_, by omega, by omega⟩
    · rcases hn' with rfl | rfl <;> omega
    · rcases hn' with rfl | rfl <;> omega

abbrev s_l_in_powers : Stmt := topS 46
theorem sc_l_in_powers : FnScope ["_law_bag_here", "_law_n", "_law_most", "_law_low", "_law_digits", "_law_high", "_law_least", "_law_last", "_law_is_in", "_law_far", "_law_e"] ["_law_bag_here"] (defScope s_l_in_powers) := ⟨rfl, rfl, rfl, by decide +kernel, rfl, by decide +kernel, by decide +kernel⟩

theorem c_of_l_in_powers /-H-/ (m_max : mg "max" = none) (m_range : mg "range" = none) (c_l_take : Cal P w K mg base "_law_take" 4 R_take) (c_l_some : Cal P w K mg base "_law_some" 5 R_some) (c_l_to : Cal P w K mg base "_law_to" 4 R_pow) /-E-/ (T : At K mg "_law_in_powers" s_l_in_powers ["_law_bag_here"]) : CalX P w K mg base "_law_in_powers" 6 Pre_cpl Post_cin :=
  calx_at T sc_l_in_powers (by rintro _ _ ⟨rfl, _⟩; rfl) fun f cd0 A out s0 H E0 G Γ B hPre => by
  obtain ⟨rfl, ok0⟩ := hPre
  obtain ⟨v1, B1, ra, a0, a1, ok1⟩ := tk_ex ok0 4 (by decide) (by decide)
  obtain ⟨v2, B2, rb, b0, b1, ok2⟩ := tk_ex ok1 4 (by decide) (by decide)
  obtain ⟨v3, B3, rc, c0, c1, ok3⟩ := tk_ex ok2 9 (by decide) (by decide)
  obtain ⟨n, hn⟩ : ∃ n : Nat, 2 + v1 = (n : Int) := ⟨(2 + v1).toNat, by omega⟩
  obtain ⟨M, hM⟩ : ∃ M : Nat, 2 + v2 = (M : Int) := ⟨(2 + v2).toNat, by omega⟩
  obtain ⟨u, hu⟩ : ∃ u : Int, 3 - v3 = u := ⟨_, rfl⟩
  refine sj_unpack [1, 2, 3] (ds := [.int n, .int M, .int u]) G.calm (ej_tupD (ad_cons (ej_is (ej_add ej_int (ej_call c_l_take (G.le (by decide)) (aj_cons (ej_bag 0) (aj_cons ej_int aj_nil)) (ra))) (congrArg PyData.int hn)) (ad_cons (ej_is (ej_add ej_int (ej_call c_l_take (G.le (by decide)) (aj_cons (ej_bag 0) (aj_cons ej_int aj_nil)) (rb))) (congrArg PyData.int hM)) (ad_cons (ej_is (ej_sub ej_int (ej_call c_l_take (G.le (by decide)) (aj_cons (ej_bag 0) (aj_cons ej_int aj_nil)) (rc))) (congrArg PyData.int hu)) ad_nil))) (Nat.le_of_ble_eq_true rfl)) (pgs_cons (pgN 1 G.nd) (pgs_cons (pgN 2 G.nd) (pgs_cons (pgN 3 G.nd) pgs_nil))) rfl ?_
  have hn' : (n : Int) = 2 ∨ (n : Int) = 3 ∨ (n : Int) = 4 ∨ (n : Int) = 5 := by omega
  have bd : ∀ i : Int, -1000 ≤ i → i ≤ 1000 → Bd 60 i := fun i h1 h2 => by unfold Bd; omega
  have dv : ∀ i : Int, CDivW i n := fun i => cdv (bd n (by omega) (by omega)) (by omega)
  obtain ⟨v4, B4, rd, d0, d1, ok4⟩ := tk_ex ok3 ((n : Int) + 1) (by omega) (by omega)
  obtain ⟨v5, B5, re, e0, e1, ok5⟩ := tk_ex ok4 6 (by decide) (by decide)
  have nM : (n : Int) * M ≤ 25 := by rcases hn' with h | h | h | h <;> rw [h] <;> omega
  have nM' : 0 ≤ (n : Int) * M := by rcases hn' with h | h | h | h <;> rw [h] <;> omega
  obtain ⟨D, hD⟩ : ∃ D : Nat, max 2 ((n : Int) * M - v4) = (D : Int) := ⟨(max 2 ((n : Int) * M - v4)).toNat, by omega⟩
  obtain ⟨t, ht⟩ : ∃ t : Int, u + v5 = t := ⟨_, rfl⟩
  refine sj_unpack [4, 5] (ds := [.int D, .int t]) G.calm (ej_tupD (ad_cons (ej_is (ej_max G.calm m_max ej_int (ej_sub (ej_mul (ej_dat 1) (ej_dat 2) (cm (bd n (by omega) (by omega)) (bd M (by omega) (by omega)))) (ej_call c_l_take (G.le (by decide)) (aj_cons (ej_bag 0) (aj_cons (ej_add (ej_dat 1) ej_int) aj_nil)) (rd)))) (congrArg PyData.int hD)) (ad_cons (ej_is (ej_add (ej_dat 3) (ej_call c_l_take (G.le (by decide)) (aj_cons (ej_bag 0) (aj_cons ej_int aj_nil)) (re))) (congrArg PyData.int ht)) ad_nil)) (Nat.le_of_ble_eq_true rfl)) (pgs_cons (pgN 4 G.nd) (pgs_cons (pgN 5 G.nd) pgs_nil)) rfl ?_
  have hD1 : D ≤ 25 := by omega
  have hD2 : 2 ≤ D := by omega
  clear hD nM nM'
  obtain ⟨s1, hs1, B6, rf, ok6⟩ := sm_ex ([0, 1, 0, -1] : List Int) (fun n => PyData.int n) (by decide) ok5 (by decide)
  replace rf : R_some [.bag, .da (.list [.int 0, .int 1, .int 0, .int (-1)])] B5 (.int s1) B6 := rf
  have hs1' : -1 ≤ s1 ∧ s1 ≤ 1 := by
    have : s1 = 0 ∨ s1 = 1 ∨ s1 = 0 ∨ s1 = -1 := by simpa using hs1
    omega
  obtain ⟨l', hl⟩ : ∃ l' : Int, u / n - s1 = l' := ⟨_, rfl⟩
  refine sj_set 6 (d := .da (.int l')) (B1 := B6) G.nd (ej_is (ej_sub (ej_fdiv (ej_dat 3) (ej_dat 1) (dv _)) (ej_call c_l_some (G.le (by decide)) (aj_cons (ej_bag 0) (aj_cons (ej_lstD (ad_cons ej_int (ad_cons ej_int (ad_cons ej_int (ad_cons (ej_neg ej_int) ad_nil)))) (Nat.le_of_ble_eq_true rfl)) aj_nil)) (rf))) (congrArg PyData.int hl)) ?_
  obtain ⟨s2, hs2, B7, rg, ok7⟩ := sm_ex ([0, 0, -1, 1] : List Int) (fun n => PyData.int n) (by decide) ok6 (by decide)
  replace rg : R_some [.bag, .da (.list [.int 0, .int 0, .int (-1), .int 1])] B6 (.int s2) B7 := rg
  have hs2' : -1 ≤ s2 ∧ s2 ≤ 1 := by
    have : s2 = 0 ∨ s2 = -1 ∨ s2 = 1 := by simpa using hs2
    omega
  obtain ⟨h', hh⟩ : ∃ h' : Int, max l' ((t + D - 1) / n + 1 - M - s2) = h' := ⟨_, rfl⟩
  refine sj_set 7 (d := .da (.int h')) (B1 := B7) G.nd (ej_is (ej_max G.calm m_max (ej_dat 6) (ej_sub (ej_sub (ej_add (ej_fdiv (ej_sub (ej_add (ej_dat 5) (ej_dat 4)) ej_int) (ej_dat 1) (dv _)) ej_int) (ej_dat 2)) (ej_call c_l_some (G.le (by decide)) (aj_cons (ej_bag 0) (aj_cons (ej_lstD (ad_cons ej_int (ad_cons ej_int (ad_cons (ej_neg ej_int) (ad_cons ej_int ad_nil)))) (Nat.le_of_ble_eq_true rfl)) aj_nil)) (rg)))) (congrArg PyData.int hh)) ?_
  have bl : -60 ≤ l' ∧ l' ≤ h' ∧ h' ≤ 60 := by
    subst hl
    subst hh
    rcases hn' with h | h | h | h <;> rw [h] <;> omega
  refine sj_set 8 (d := .da (.bool (decide (l' ≤ u / n) && decide ((t + D - 1) / n ≤ h' + M - 1)))) (B1 := B7) G.nd (ej_and (ej_ge (ej_fdiv (ej_dat 3) (ej_dat 1) (dv _)) (ej_dat 6)) fun _ => (ej_one (ej_le (ej_fdiv (ej_sub (ej_add (ej_dat 5) (ej_dat 4)) ej_int) (ej_dat 1) (dv _)) (ej_sub (ej_add (ej_dat 7) (ej_dat 2)) ej_int)))) ?_
  obtain ⟨N, hN⟩ : ∃ N : Nat, (t + 1 - u).toNat = N := ⟨_, rfl⟩
  obtain ⟨L, hL⟩ : ∃ L : List Int, ((List.range N).map fun k : Nat => u + (k : Int)).filter (fun e => decide ((M : Int) ≤ (e + D - 1) / n - e / n)) = L := ⟨_, rfl⟩
  refine sj_setLcR2F (j := 10) 9 (d := .da (.list (L.map PyData.int))) (B1 := B7) G.nd G.calm m_range (blkOk_by (N := ["_law_bag_here", "_law_n", "_law_most", "_law_low", "_law_digits", "_law_high", "_law_least", "_law_last", "_law_is_in", "_law_far", "_law_e"]) (sc := defScope s_l_in_powers) (by decide +kernel)) (fun _ _ _ _ _ => pg_name (i := 10) G.nd rfl (Or.inl rfl)) (sw_true rfl rfl rfl (by decide +kernel)) ?_ ?_
  · rw [← hL]
    refine rj_lcR2F (lo := u) (hi' := t + 1) (n := N) PyData.int (fun e => decide ((M : Int) ≤ (e + D - 1) / n - e / n)) (aj_cons (ej_dat 3) (aj_cons (ej_add (ej_dat 5) ej_int) aj_nil)) (by omega) hN (bd _ (by omega) (by omega)) (bd _ (by omega) (by omega)) (fun k hk s0 H0 C cl fp => ?_) (fun k hk hf s0 H0 C cl fp => ?_)
    · exact tj_ge (ej_sub (ej_fdiv (ej_sub (ej_add (ej_dat (d := .int (u + k)) 10) (ej_dat 4)) ej_int) (ej_dat 1) (dv _)) (ej_fdiv (ej_dat (d := .int (u + k)) 10) (ej_dat 1) (dv _))) (ej_dat 2)
    · exact (ej_dat (d := .int (u + k)) 10)
  refine sj_ret (ej_tupD (ad_cons (ej_tupD (ad_cons ej_int (ad_cons (ej_dat 4) (ad_cons (ej_dat 3) (ad_cons (ej_dat 5) ad_nil)))) (Nat.le_of_ble_eq_true rfl)) (ad_cons (ej_tupD (ad_cons (ej_call c_l_to (G.le (by decide)) (aj_cons ej_int (aj_cons (ej_dat 1) aj_nil)) (R_pow.mk 2 n B7 (by decide) (by omega))) (ad_cons (ej_dat 2) (ad_cons (ej_dat 6) (ad_cons (ej_dat 7) ad_nil)))) (Nat.le_of_ble_eq_true rfl)) (ad_cons (ej_and (ej_dat (d := .bool (decide (l' ≤ u / n) && decide ((t + D - 1) / n ≤ h' + M - 1))) 8) fun _ => (ej_one (ej_eq G.hu (ej_dat (d := .list (L.map PyData.int)) 9) (ej_lstD ad_nil (Nat.le_of_ble_eq_true rfl)) (ints_shaped L) (by decide +kernel)))) ad_nil))) (Nat.le_of_ble_eq_true rfl)) ?_
  have F1 : Fm (2 ^ 1) D u t := fm_small (by decide) (by decide) (by omega) (by omega) (by omega) (by omega) (by omega)
  have F2 : Fm (2 ^ n) M l' h' := by
    have : n = 2 ∨ n = 3 ∨ n = 4 ∨ n = 5 := by omega
    rcases this with rfl | rfl | rfl | rfl <;> exact fm_small (by decide) (by decide) (by omega) (by omega) (by omega) (by omega) (by omega)
  have tw := two_in (by omega) (by omega) F1 F2
  have pi := pow_in hn' (d := D) (most := M) (low := u) (high := t) (least := l') (last := h') (by omega) bl.2.1
  refine cin_mk (Γ := [.bag]) (B := B) (q := (l' ≤ u / n ∧ (t + D - 1) / n ≤ h' + M - 1) ∧ ∀ e, u ≤ e → e ≤ t → (e + D - 1) / n - e / n < M) ok7 F1 F2 ?_ ?_
  · refine congrArg (fun v => PyData.tuple [_, _, PyData.bool v]) ?_
    rw [eqv_nil, ← Bool.decide_and, Bool.eq_iff_iff, Bool.and_eq_true, decide_eq_true_iff, decide_eq_true_iff, List.isEmpty_iff, ← hL, List.filter_eq_nil_iff]
    refine and_congr_right fun _ => ⟨fun h e h1 h2 => ?_, fun h e he => ?_⟩
    · have := h e (List.mem_map.mpr ⟨(e - u).toNat, List.mem_range.mpr (by omega), by omega⟩)
      rw [decide_eq_true_iff] at this
      omega
    · obtain ⟨k, hk, rfl⟩ := List.mem_map.mp he
      have hk := List.mem_range.mp hk
      have := h (u + k) (by omega) (by omega)
      rw [decide_eq_true_iff]
      omega
  · rw [tw, ← pi]
    refine forall_congr' fun e => forall_congr' fun h1 => forall_congr' fun h2 => exists_congr fun m => ?_
    rw [show ((1 : Nat) : Int) = 1 from rfl, Int.one_mul, Int.one_mul]

abbrev s_l_in_integers : Stmt := topS 47
theorem sc_l_in_integers : FnScope ["_law_bag_here", "_law_base", "_law_other", "_law_many", "_law_digits", "_law_turn", "_law_less", "_law_is_in"] ["_law_bag_here"] (defScope s_l_in_integers) := ⟨rfl, rfl, rfl, by decide +kernel, rfl, by decide +kernel, by decide +kernel⟩

theorem c_of_l_in_integers /-H-/ (m_range : mg "range" = none) (m_int : mg "int" = none) (c_l_take : Cal P w K mg base "_law_take" 4 R_take) (c_l_to : Cal P w K mg base "_law_to" 4 R_pow) /-E-/ (T : At K mg "_law_in_integers" s_l_in_integers ["_law_bag_here"]) : CalX P w K mg base "_law_in_integers" 6 Pre_cpl Post_cin :=
  calx_at T sc_l_in_integers (by rintro _ _ ⟨rfl, _⟩; rfl) fun f cd0 A out s0 H E0 G Γ B hPre => by
  obtain ⟨rfl, ok0⟩ := hPre
  obtain ⟨v1, B1, ra, a0, a1, ok1⟩ := tk_ex ok0 18 (by decide) (by decide)
  obtain ⟨v2, B2, rb, b0, b1, ok2⟩ := tk_ex ok1 18 (by decide) (by decide)
  obtain ⟨v3, B3, rc, c0, c1, ok3⟩ := tk_ex ok2 8 (by decide) (by decide)
  obtain ⟨b, hb⟩ : ∃ b : Nat, 2 * (1 + v1) = (b : Int) := ⟨(2 * (1 + v1)).toNat, by omega⟩
  obtain ⟨c, hc⟩ : ∃ c : Nat, 2 * (1 + v2) = (c : Int) := ⟨(2 * (1 + v2)).toNat, by omega⟩
  obtain ⟨M, hM⟩ : ∃ M : Nat, 3 + v3 = (M : Int) := ⟨(3 + v3).toNat, by omega⟩
  have bd : ∀ i : Int, -1000 ≤ i → i ≤ 1000 → Bd 60 i := fun i h1 h2 => by unfold Bd; omega
  refine sj_par3 1 2 3 (d1 := .da (.int b)) (d2 := .da (.int c)) (d3 := .da (.int M)) G.nd G.calm (aj_cons (ej_is (ej_mul ej_int (ej_add ej_int (ej_call c_l_take (G.le (by decide)) (aj_cons (ej_bag 0) (aj_cons ej_int aj_nil)) (ra))) (cm (bd 2 (by decide) (by decide)) (bd (1 + v1) (by omega) (by omega)))) (congrArg PyData.int hb)) (aj_cons (ej_is (ej_mul ej_int (ej_add ej_int (ej_call c_l_take (G.le (by decide)) (aj_cons (ej_bag 0) (aj_cons ej_int aj_nil)) (rb))) (cm (bd 2 (by decide) (by decide)) (bd (1 + v2) (by omega) (by omega)))) (congrArg PyData.int hc)) (aj_cons (ej_is (ej_add ej_int (ej_call c_l_take (G.le (by decide)) (aj_cons (ej_bag 0) (aj_cons ej_int aj_nil)) (rc))) (congrArg PyData.int hM)) aj_nil))) ?_ (by decide) (by decide) (by decide) (by rfl)
  refine sj_set 4 (d := .da (.int 2)) (B1 := B3) G.nd ej_int ?_
  refine sj_forR 5 (n := 120) (B1 := B3) G.nd G.calm m_range (fun k Γ' B' => ∃ (D : Nat) (z : VD), 2 ≤ D ∧ D ≤ 52 ∧ B3 = B' ∧ Γ' = [.bag, .da (.int b), .da (.int c), .da (.int M), .da (.int D), z, .no, .no]) ej_int (by decide) ⟨2, .no, by decide, by decide, rfl, rfl⟩ (fun k Γ' B' hk hP => ?_) (fun Γ' B' hP => ?_)
  · obtain ⟨D, z, d1, d2, rfl, rfl⟩ := hP
    refine sj_augI 4 (m := (D : Int)) (n := if decide (((c ^ D : Nat) : Int) < ((b ^ M : Nat) : Int)) = true then 1 else 0) (B1 := B3) G.nd rfl (ej_intB m_int (ej_lt (ej_call c_l_to (G.le (by decide)) (aj_cons (ej_dat 2) (aj_cons (ej_dat 4) aj_nil)) (R_pow.mk c D B3 (by omega) (by omega))) (ej_call c_l_to (G.le (by decide)) (aj_cons (ej_dat 1) (aj_cons (ej_dat 3) aj_nil)) (R_pow.mk b M B3 (by omega) (by omega))))) (sj_nil ?_)
    by_cases h : c ^ D < b ^ M
    · have h' : decide (((c ^ D : Nat) : Int) < ((b ^ M : Nat) : Int)) = true := decide_eq_true (by omega)
      have := dig_le (b := b) (b' := c) (D := M) (d := D) (by omega) (by omega) (by omega) h
      rw [h']
      exact ⟨D + 1, _, by omega, by omega, rfl, rfl⟩
    · have h' : decide (((c ^ D : Nat) : Int) < ((b ^ M : Nat) : Int)) = false := decide_eq_false (by omega)
      rw [h']
      exact ⟨D, _, d1, d2, rfl, by rw [if_neg (by decide), Int.add_zero]; rfl⟩
  obtain ⟨D, z, d1, d2, rfl, rfl⟩ := hP
  obtain ⟨v4, B4, rd, e0, e1, ok4⟩ := tk_ex ok3 2 (by decide) (by decide)
  obtain ⟨L, hL, L0, L1⟩ : ∃ L : Int, (if decide ((2 : Int) < D) = true then (1 : Int) else 0) * v4 = L ∧ 0 ≤ L ∧ (2 : Int) ≤ D - L := by
    refine ⟨_, rfl, ?_⟩
    by_cases h : (2 : Int) < D
    · rw [decide_eq_true h, if_pos rfl]; omega
    · rw [decide_eq_false h, if_neg (by decide)]; omega
  refine sj_set 6 (d := .da (.int L)) (B1 := B4) G.nd (ej_is (ej_mul (ej_intB m_int (ej_gt (ej_dat 4) ej_int)) (ej_call c_l_take (G.le (by decide)) (aj_cons (ej_bag 0) (aj_cons ej_int aj_nil)) (rd)) (cm (bd _ (by split <;> decide) (by split <;> decide)) (bd v4 (by omega) (by omega)))) (congrArg PyData.int hL)) ?_
  obtain ⟨N, hN⟩ : ∃ N : Nat, (D : Int) - L = (N : Int) := ⟨((D : Int) - L).toNat, by omega⟩
  refine sj_set 7 (d := .da (.bool (decide (b ^ M ≤ c ^ N)))) (B1 := B4) G.nd (ej_is (ej_le (ej_call c_l_to (G.le (by decide)) (aj_cons (ej_dat 1) (aj_cons (ej_dat 3) aj_nil)) (R_pow.mk b M B4 (by omega) (by omega))) (ej_call c_l_to (G.le (by decide)) (aj_cons (ej_dat 2) (aj_cons (ej_is (ej_sub (ej_dat 4) (ej_dat 6)) (congrArg PyData.int hN)) aj_nil)) (R_pow.mk c N B4 (by omega) (by omega)))) (congrArg PyData.bool (decide_eq_decide.mpr Int.ofNat_le))) ?_
  obtain ⟨v5, B5, re, f0, f1, ok5⟩ := tk_ex ok4 4 (by decide) (by decide)
  obtain ⟨v6, B6, rf, g0, g1, ok6⟩ := tk_ex ok5 4 (by decide) (by decide)
  refine sj_ret (ej_tupD (ad_cons (ej_tupD (ad_cons (ej_dat 1) (ad_cons (ej_dat 3) (ad_cons ej_int (ad_cons ej_int ad_nil)))) (Nat.le_of_ble_eq_true rfl)) (ad_cons (ej_tupD (ad_cons (ej_dat 2) (ad_cons (ej_is (ej_sub (ej_dat 4) (ej_dat 6)) (congrArg PyData.int hN)) (ad_cons (ej_neg (ej_call c_l_take (G.le (by decide)) (aj_cons (ej_bag 0) (aj_cons ej_int aj_nil)) (re))) (ad_cons (ej_call c_l_take (G.le (by decide)) (aj_cons (ej_bag 0) (aj_cons ej_int aj_nil)) (rf)) ad_nil)))) (Nat.le_of_ble_eq_true rfl)) (ad_cons (ej_dat 7) ad_nil))) (Nat.le_of_ble_eq_true rfl)) ?_
  have F1 : Fm b M 0 0 := fm_small (by omega) (by omega) (by omega) (by omega) (by omega) (by omega) (by omega)
  have F2 : Fm c N (-v5) v6 := fm_small (by omega) (by omega) (by omega) (by omega) (by omega) (by omega) (by omega)
  exact cin_mk (Γ := [.bag]) (B := B) (q := b ^ M ≤ c ^ N) ok6 F1 F2 rfl (int_in F1 F2 (by omega) (by omega) (by omega) (by omega))

abbrev s_l_in_decimals : Stmt := topS 48
theorem sc_l_in_decimals : FnScope ["_law_bag_here", "_law_digits", "_law_r", "_law_most", "_law_many", "_law_one", "_law_low"] ["_law_bag_here"] (defScope s_l_in_decimals) := ⟨rfl, rfl, rfl, by decide +kernel, rfl, by decide +kernel, by decide +kernel⟩

theorem c_of_l_in_decimals /-H-/ (m_max : mg "max" = none) (m_len : mg "len" = none) (m_str : mg "str" = none) (c_l_take : Cal P w K mg base "_law_take" 4 R_take) (c_l_to : Cal P w K mg base "_law_to" 4 R_pow) /-E-/ (T : At K mg "_law_in_decimals" s_l_in_decimals ["_law_bag_here"]) : CalX P w K mg base "_law_in_decimals" 6 Pre_cpl Post_cin :=
  calx_at T sc_l_in_decimals (by rintro _ _ ⟨rfl, _⟩; rfl) fun f cd0 A out s0 H E0 G Γ B hPre => by
  obtain ⟨rfl, ok0⟩ := hPre
  obtain ⟨v1, B1, ra, a0, a1, ok1⟩ := tk_ex ok0 20 (by decide) (by decide)
  obtain ⟨v2, B2, rb, b0, b1, ok2⟩ := tk_ex ok1 8 (by decide) (by decide)
  obtain ⟨D, hD⟩ : ∃ D : Nat, 2 + v1 = (D : Int) := ⟨(2 + v1).toNat, by omega⟩
  obtain ⟨r, hr⟩ : ∃ r : Nat, 1 + v2 = (r : Int) := ⟨(1 + v2).toNat, by omega⟩
  have bd : ∀ i : Int, -1000 ≤ i → i ≤ 1000 → Bd 60 i := fun i h1 h2 => by unfold Bd; omega
  refine sj_par 1 2 (d1 := .da (.int D)) (d2 := .da (.int r)) G.nd G.calm (aj_cons (ej_is (ej_add ej_int (ej_call c_l_take (G.le (by decide)) (aj_cons (ej_bag 0) (aj_cons ej_int aj_nil)) (ra))) (congrArg PyData.int hD)) (aj_cons (ej_is (ej_add ej_int (ej_call c_l_take (G.le (by decide)) (aj_cons (ej_bag 0) (aj_cons ej_int aj_nil)) (rb))) (congrArg PyData.int hr)) aj_nil)) ?_ (by decide) (by rfl)
  have p5 : 5 ^ r ≤ 5 ^ 8 := Nat.pow_le_pow_right (by decide) (by omega)
  have p2 : 2 ^ D ≤ 2 ^ 21 := Nat.pow_le_pow_right (by decide) (by omega)
  have p1 : 1 ≤ 2 ^ D := Nat.pow_pos (by decide)
  obtain ⟨m, hm⟩ : ∃ m : Nat, ((5 ^ r : Nat) : Int) * (((2 ^ D : Nat) : Int) - 1) = m := ⟨5 ^ r * (2 ^ D - 1), by rw [Int.natCast_mul, Int.natCast_sub p1]; rfl⟩
  have hm' : m = 5 ^ r * (2 ^ D - 1) := by
    have : (m : Int) = ((5 ^ r * (2 ^ D - 1) : Nat) : Int) := by rw [← hm, Int.natCast_mul, Int.natCast_sub p1]; rfl
    exact_mod_cast this
  have mb : m < 10 ^ 13 := by
    have : m ≤ 5 ^ 8 * 2 ^ 21 := by rw [hm']; exact Nat.mul_le_mul p5 (by omega)
    exact Nat.lt_of_le_of_lt this (by decide)
  have ml : ((m : Int).natAbs).log2 < 1920 := PySem.Flt.log2_lt_of (by decide) (Nat.lt_of_lt_of_le (show (m : Int).natAbs < 2 ^ 60 by omega) (Nat.pow_le_pow_right (by decide) (by decide)))
  have tl : (toString (m : Int)).length ≤ 14 := int_text_length_le10 (by decide) (by rw [Int.natAbs_natCast]; exact mb)
  have bn5 : Bd 60 ((5 ^ r : Nat) : Int) := by unfold Bd; rw [Int.natAbs_natCast]; exact Nat.lt_of_le_of_lt p5 (by decide)
  have tS : (toString (m : Int) : Str).length ≤ 14 := by rw [PySem.ofString_length]; exact tl
  have sz : (toString (m : Int) : Str).length ≤ sizeLine := Nat.le_trans tS (by decide)
  refine sj_set 3 (d := .da (.int m)) (B1 := B2) G.nd (ej_is (ej_mul (ej_call c_l_to (G.le (by decide)) (aj_cons ej_int (aj_cons (ej_dat 2) aj_nil)) (R_pow.mk 5 r B2 (by decide) (by omega))) (ej_sub (ej_call c_l_to (G.le (by decide)) (aj_cons ej_int (aj_cons (ej_dat 1) aj_nil)) (R_pow.mk 2 D B2 (by decide) (by omega))) ej_int) (cm bn5 (show Bd 60 _ by unfold Bd; omega))) (congrArg PyData.int hm)) ?_
  obtain ⟨v3, B3, rc, c0, c1, ok3⟩ := tk_ex ok2 2 (by decide) (by decide)
  obtain ⟨N, hN⟩ : ∃ N : Nat, max 2 (((toString (m : Int) : Str).length : Int) - v3) = (N : Int) := ⟨(max 2 (((toString (m : Int) : Str).length : Int) - v3)).toNat, by omega⟩
  refine sj_set 4 (d := .da (.int N)) (B1 := B3) G.nd (ej_is (ej_max G.calm m_max ej_int (ej_sub (ej_lenS (y := toString (m : Int)) sz m_len (ej_strI ml m_str (ej_dat 3))) (ej_call c_l_take (G.le (by decide)) (aj_cons (ej_bag 0) (aj_cons ej_int aj_nil)) (rc)))) (congrArg PyData.int hN)) ?_
  have hN2 : 2 ≤ N ∧ N ≤ 14 := by omega
  obtain ⟨v4, B4, rd, d0, d1, ok4⟩ := tk_ex ok3 (2 * r + 1) (by omega) (by omega)
  obtain ⟨v5, B5, re, e0, e1, ok5⟩ := tk_ex ok4 3 (by decide) (by decide)
  refine sj_par 5 6 (d1 := .da (fmP 2 D (-(r : Int)) (v4 - r))) (d2 := .da (.int (-(r : Int) - v5))) G.nd G.calm (aj_cons (ej_tupD (ad_cons ej_int (ad_cons (ej_dat 1) (ad_cons (ej_neg (ej_dat 2)) (ad_cons (ej_sub (ej_call c_l_take (G.le (by decide)) (aj_cons (ej_bag 0) (aj_cons (ej_add (ej_mul ej_int (ej_dat 2) (cm (bd 2 (by decide) (by decide)) (bd r (by omega) (by omega)))) ej_int) aj_nil)) (rd)) (ej_dat 2)) ad_nil)))) (Nat.le_of_ble_eq_true rfl)) (aj_cons (ej_sub (ej_neg (ej_dat 2)) (ej_call c_l_take (G.le (by decide)) (aj_cons (ej_bag 0) (aj_cons ej_int aj_nil)) (re))) aj_nil)) ?_ (by decide) (by rfl)
  obtain ⟨v6, B6, rf, f0, f1, ok6⟩ := tk_ex ok5 3 (by decide) (by decide)
  refine sj_ret (ej_tupD (ad_cons (ej_dat (d := fmP 2 D (-(r : Int)) (v4 - r)) 5) (ad_cons (ej_tupD (ad_cons ej_int (ad_cons (ej_dat 4) (ad_cons (ej_dat 6) (ad_cons (ej_call c_l_take (G.le (by decide)) (aj_cons (ej_bag 0) (aj_cons ej_int aj_nil)) (rf)) ad_nil)))) (Nat.le_of_ble_eq_true rfl)) (ad_cons (ej_is (y := .bool (decide (m < 10 ^ N))) (ej_lt (ej_dat 3) (ej_call c_l_to (G.le (by decide)) (aj_cons ej_int (aj_cons (ej_dat 4) aj_nil)) (R_pow.mk 10 N B6 (by decide) (by omega)))) (congrArg PyData.bool (decide_eq_decide.mpr Int.ofNat_lt))) ad_nil))) (Nat.le_of_ble_eq_true rfl)) ?_
  have F1 : Fm 2 D (-(r : Int)) (v4 - r) := fm_small (by omega) (by omega) (by omega) (by omega) (by omega) (by omega) (by omega)
  have F2 : Fm 10 N (-(r : Int) - v5) v6 := fm_small (by omega) (by omega) (by omega) (by omega) (by omega) (by omega) (by omega)
  refine cin_mk (Γ := [.bag]) (B := B) (q := m < 10 ^ N) ok6 F1 F2 rfl ?_
  rw [hm']
  exact dec_in F1 F2 (by omega) (by omega) (by omega)

abbrev s_law : Stmt := topS 49
theorem sc_law : FnScope ["_law_script", "_law_bag_here", "_law_way", "_law_one", "_law_other", "_law_is_in", "_law_small", "_law_great", "_law_wide", "_law_base", "_law_digits", "_law_low", "_law_high", "_law_moves", "_law_near", "_law_k"] ["_law_script"] (defScope s_law) := ⟨rfl, rfl, rfl, by decide +kernel, rfl, by decide +kernel, by decide +kernel⟩

theorem ok_law {f : Addr} {fd : FuncData} /-H-/ (m_range : mg "range" = none) (m_min : mg "min" = none) (m_max : mg "max" = none) (c_l_take : Cal P w K mg base "_law_take" 4 R_take) (c_l_is_lost_right : Cal P w K mg base "_law_is_lost_right" 9 R_lright) (c_l_count : Cal P w K mg base "_law_count" 5 (R_form fun b p low high => .int (2 * (((b ^ p : Nat) : Int) + (high - low) * (((b ^ p : Nat) : Int) - ((b ^ (p - 1) : Nat) : Int)))))) (c_l_lost : Cal P w K mg base "_law_lost" 9 R_lawlost) (c_l_wide_format : Cal P w K mg base "_law_wide_format" 6 (R_fmt wideV wideB)) (c_l_one_base : Cal P w K mg base "_law_one_base" 4 R_onebase) (c_l_couple : CalE P w K mg base "_law_couple" 7 Pre_cpl Post_cpl2) (c_l_bag : Cal P w K mg base "_law_bag" 4 R_bag) (c_l_unlike_couple : CalX P w K mg base "_law_unlike_couple" 6 Pre_cpl Post_cin) (c_l_in_powers : CalX P w K mg base "_law_in_powers" 6 Pre_cpl Post_cin) (c_l_in_integers : CalX P w K mg base "_law_in_integers" 6 Pre_cpl Post_cin) (c_l_in_decimals : CalX P w K mg base "_law_in_decimals" 6 Pre_cpl Post_cin) (c_l_some : Cal P w K mg base "_law_some" 5 R_some) /-E-/
    (F : Fun K "law" "law" s_law f fd) : FnG P w K mg base 12 f fd ["_law_script"] (spLaw K) := by
  obtain ⟨RC, c_cpl, hC⟩ := c_l_couple
  refine fnG_of F sc_law (by rintro vs H Q E ⟨a, ns, rfl, _⟩; rfl) fun cd0 A out s H vs Q E G hsp => ?_
  obtain ⟨a, ns, rfl, hS, hlen, q⟩ := hsp
  have Ev : EnvD K none H (L2.start ["_law_script", "_law_bag_here", "_law_way", "_law_one", "_law_other", "_law_is_in", "_law_small", "_law_great", "_law_wide", "_law_base", "_law_digits", "_law_low", "_law_high", "_law_moves", "_law_near", "_law_k"] [.ref a]) ([.scr ns] ++ List.replicate (16 - 1) .no) := start_env (Γ := [.scr ns]) ⟨⟨a, rfl, hS⟩, trivial⟩ (Nat.le_of_ble_eq_true rfl)
  have O : On K none ⟨0, 0, 0, []⟩ H H := ⟨Same.refl _, fun _ _ z => nomatch z⟩
  refine sj_law 1 G.nd (y := 1234567891) (ns := (ns.take 63).map absI) (ej_call c_l_bag (G.le (by decide)) (aj_cons (ej_var 0 (d := .scr ns) rfl (fun z => nomatch z)) aj_nil) (R_bag.mk ns _ hlen)) ?_ (Ev := Ev) (O := O) (q := q)
  generalize hB0 : (⟨0, 1234567891, 0, (ns.take 63).map absI⟩ : Bag) = B0
  have okB : Bok B0 := by rw [← hB0]; show ((ns.take 63).map absI).length ≤ 63; rw [List.length_map, List.length_take]; omega
  clear hB0
  obtain ⟨wy, B1, rw', w0, w1, ok1⟩ := tk_ex okB 4 (by decide) (by decide)
  refine sj_set 2 (d := .da (.int wy)) (B1 := B1) G.nd (ej_call c_l_take (G.le (by decide)) (aj_cons (ej_bag 1) (aj_cons ej_int aj_nil)) (rw')) ?_
  refine sj_ifC (fun Γ' B' => Bok B' ∧ ∃ (b p : Nat) (low high : Int) (b' p' : Nat) (low' high' : Int), Γ' = [.no, .bag, .da (.int wy), .da (fmP b p low high), .da (fmP b' p' low' high'), .da (.bool (isInB b p low high b' p' low' high')), .no, .no, .no, .no, .no, .no, .no, .no, .no, .no] ∧ Fm b p low high ∧ Fm b' p' low' high') (fun cont => tx_tj (tj_lt (ej_dat 2) ej_int) ⟨fun _ => ?_, fun _ => ?_⟩) ?_
  · refine sj_unpackX [3, 4, 5] G.calm (ex_if (tx_tj (tj_eqI G.hu (ej_dat 2) ej_int) ⟨fun _ => ?_, fun _ => ?_⟩)) (pgs_cons (pgN 3 G.nd) (pgs_cons (pgN 4 G.nd) (pgs_cons (pgN 5 G.nd) pgs_nil))) rfl
    · exact ex_call c_l_unlike_couple (G.le (by decide)) (ax_bag 1 (ax_nil ⟨⟨rfl, ok1⟩, fun r B' h => by obtain ⟨ok', b, p, lo, hi, b', p', lo', hi', rfl, F, F'⟩ := h; exact ⟨_, rfl, rfl, sj_nil (cont _ _ ⟨ok', b, p, lo, hi, b', p', lo', hi', rfl, F, F'⟩)⟩⟩))
    · exact ex_call c_l_in_powers (G.le (by decide)) (ax_bag 1 (ax_nil ⟨⟨rfl, ok1⟩, fun r B' h => by obtain ⟨ok', b, p, lo, hi, b', p', lo', hi', rfl, F, F'⟩ := h; exact ⟨_, rfl, rfl, sj_nil (cont _ _ ⟨ok', b, p, lo, hi, b', p', lo', hi', rfl, F, F'⟩)⟩⟩))
  · refine sj_unpackX [3, 4, 5] G.calm (ex_if (tx_tj (tj_eqI G.hu (ej_dat 2) ej_int) ⟨fun _ => ?_, fun _ => ?_⟩)) (pgs_cons (pgN 3 G.nd) (pgs_cons (pgN 4 G.nd) (pgs_cons (pgN 5 G.nd) pgs_nil))) rfl
    · exact ex_call c_l_in_integers (G.le (by decide)) (ax_bag 1 (ax_nil ⟨⟨rfl, ok1⟩, fun r B' h => by obtain ⟨ok', b, p, lo, hi, b', p', lo', hi', rfl, F, F'⟩ := h; exact ⟨_, rfl, rfl, sj_nil (cont _ _ ⟨ok', b, p, lo, hi, b', p', lo', hi', rfl, F, F'⟩)⟩⟩))
    · exact ex_call c_l_in_decimals (G.le (by decide)) (ax_bag 1 (ax_nil ⟨⟨rfl, ok1⟩, fun r B' h => by obtain ⟨ok', b, p, lo, hi, b', p', lo', hi', rfl, F, F'⟩ := h; exact ⟨_, rfl, rfl, sj_nil (cont _ _ ⟨ok', b, p, lo, hi, b', p', lo', hi', rfl, F, F'⟩)⟩⟩))
  rintro Γ' B2 ⟨ok2, b, p, lo, hi, b', p', lo', hi', rfl, F, F'⟩
  refine sj_when (x := false) (tj_not (x := true) (tj_val (ej_call c_l_is_lost_right (G.le (by decide)) (aj_cons (ej_dat (d := fmP b p lo hi) 3) (aj_cons (ej_dat (d := fmP b' p' lo' hi') 4) (aj_cons (ej_dat 5) aj_nil))) (R_lright.mk b p lo hi b' p' lo' hi' B2 F F')))) (fun h => Bool.noConfusion h) (fun _ => ?_)
  clear F F'
  obtain ⟨r0, B3, hRC, ok3, ⟨⟨⟨c, m, l, h⟩, ⟨c', m', l', h'⟩⟩, rfl, ⟨f1, f2⟩, hcnt⟩⟩ := hC [.bag] B2 ⟨rfl, ok2⟩
  have F : Fm c m l h := f1
  have F' : Fm c' m' l' h' := f2
  refine sj_unpack [3, 4] (ds := [fmP c m l h, fmP c' m' l' h']) G.calm (ej_call c_cpl (G.le (by decide)) (aj_cons (ej_bag 1) aj_nil) (hRC)) (pgs_cons (pgN 3 G.nd) (pgs_cons (pgN 4 G.nd) pgs_nil)) rfl ?_
  obtain ⟨s, g, fs, fg, hs, hcase⟩ : ∃ s g : F4, s.ok ∧ g.ok ∧ cntI s < 800 ∧ ((s = (c, m, l, h) ∧ g = (c', m', l', h') ∧ cntI (c, m, l, h) < 800) ∨ (s = (c', m', l', h') ∧ g = (c, m, l, h) ∧ ¬ cntI (c, m, l, h) < 800 ∧ PyData.eqv (fmP c' m' l' h') (fmP c m l h) = false)) := by
    by_cases z : cntI (c, m, l, h) < 800
    · exact ⟨_, _, f1, f2, z, .inl ⟨rfl, rfl, z⟩⟩
    · have z' : cntI (c', m', l', h') < 800 := hcnt.resolve_left z
      refine ⟨_, _, f2, f1, z', .inr ⟨rfl, rfl, z, Bool.eq_false_iff.mpr fun e => z ?_⟩⟩
      simp only [fmP, PyData.eqv, PyData.eqvAll, Bool.and_true, Bool.and_eq_true, beq_iff_eq] at e
      obtain ⟨e1, e2, e3, e4⟩ := e
      obtain rfl : c' = c := by omega
      obtain rfl : m' = m := by omega
      subst e3
      subst e4
      exact z'
  have CT := R_form.mk (f := fun b p low high => .int (2 * (((b ^ p : Nat) : Int) + (high - low) * (((b ^ p : Nat) : Int) - ((b ^ (p - 1) : Nat) : Int))))) c m l h B3 F
  refine sj_set 6 (d := .da s.d) (B1 := B3) G.nd ?_ ?_
  · rcases hcase with ⟨rfl, rfl, z⟩ | ⟨rfl, rfl, z, z'⟩
    · exact ej_ifT (tj_is (tj_lt (ej_call c_l_count (G.le (by decide)) (aj_cons (ej_dat (d := fmP c m l h) 3) aj_nil) (CT)) ej_int) (decide_eq_true z)) (ej_dat (d := fmP c m l h) 3)
    · exact ej_ifF (tj_is (tj_lt (ej_call c_l_count (G.le (by decide)) (aj_cons (ej_dat (d := fmP c m l h) 3) aj_nil) (CT)) ej_int) (decide_eq_false z)) (ej_dat (d := fmP c' m' l' h') 4)
  have shf : ∀ (b p : Nat) (lo hi : Int), SeqAt.shaped (fmP b p lo hi) = true := fun b p lo hi => by simp [SeqAt.shaped, fmP, PyData.canLay0, PyData.canLayAll0, PyData.depth, PyData.depthAll]
  refine sj_set 7 (d := .da g.d) (B1 := B3) G.nd ?_ ?_
  · rcases hcase with ⟨rfl, rfl, z⟩ | ⟨rfl, rfl, z, z'⟩
    · exact ej_ifT (tj_is (tj_eq G.hu (ej_dat (d := fmP c m l h) 6) (ej_dat (d := fmP c m l h) 3) (shf _ _ _ _) (shf _ _ _ _)) (eqv_refl_of (shf _ _ _ _))) (ej_dat (d := fmP c' m' l' h') 4)
    · exact ej_ifF (tj_is (tj_eq G.hu (ej_dat (d := fmP c' m' l' h') 6) (ej_dat (d := fmP c m l h) 3) (shf _ _ _ _) (shf _ _ _ _)) z') (ej_dat (d := fmP c m l h) 3)
  clear hcase CT hcnt F F' f1 f2
  obtain ⟨sb, sp, sl, sh⟩ := s
  obtain ⟨gb, gp, gl, gh⟩ := g
  have Fs : Fm sb sp sl sh := fs
  have Fg : Fm gb gp gl gh := fg
  refine sj_when (x := false) (tj_not (x := true) (tj_val (ej_call c_l_is_lost_right (G.le (by decide)) (aj_cons (ej_dat (d := fmP sb sp sl sh) 6) (aj_cons (ej_dat (d := fmP gb gp gl gh) 7) (aj_cons (ej_is (y := .bool (isInB sb sp sl sh gb gp gl gh)) (ej_not (ej_call c_l_lost (G.le (by decide)) (aj_cons (ej_dat (d := fmP sb sp sl sh) 6) (aj_cons (ej_dat (d := fmP gb gp gl gh) 7) aj_nil)) (R_lawlost.mk sb sp sl sh gb gp gl gh B3 Fs Fg (count_small Fs hs)))) (congrArg PyData.bool (Bool.not_not _))) aj_nil))) (R_lright.mk sb sp sl sh gb gp gl gh B3 Fs Fg)))) (fun h => Bool.noConfusion h) (fun _ => ?_)
  have LR := R_lright.mk sb sp sl sh sb sp sl sh B3 Fs Fs
  rw [isInB_iff.mpr ((one_in Fs Fs).mpr ⟨Nat.le_refl _, Int.le_refl _, Int.le_refl _⟩)] at LR
  refine sj_when (x := false) (tj_not (x := true) (tj_val (ej_call c_l_is_lost_right (G.le (by decide)) (aj_cons (ej_dat (d := fmP sb sp sl sh) 6) (aj_cons (ej_dat (d := fmP sb sp sl sh) 6) (aj_cons ej_bl aj_nil))) (LR)))) (fun h => Bool.noConfusion h) (fun _ => ?_)
  have RWD := R_fmt.mk (f := wideV) (g := wideB) B3 ok3
  have hw := wide4_ok (wide_mem B3)
  have ok4 := wideB_ok ok3
  generalize wideV B3 = W at *
  generalize wideB B3 = B4 at *
  refine sj_set 8 (d := .da W.d) (B1 := B4) G.nd (ej_call c_l_wide_format (G.le (by decide)) (aj_cons (ej_bag 1) aj_nil) (RWD)) ?_
  obtain ⟨wb, wp, wl, wh⟩ := W
  refine sj_set 8 (d := .da (wide4 (wb, wp, wl, wh)).d) (B1 := B4) G.nd ?_ ?_
  · unfold wide4
    by_cases z : wh - wl < 25
    · rw [if_pos z]
      exact ej_ifT (tj_is (tj_lt (ej_sub (ej_at (y := .int wh) (ej_dat (d := fmP wb wp wl wh) 8)) (ej_at (y := .int wl) (ej_dat (d := fmP wb wp wl wh) 8))) ej_int) (decide_eq_true z)) (ej_dat (d := fmP wb wp wl wh) 8)
    · rw [if_neg z]
      exact ej_ifF (tj_is (tj_lt (ej_sub (ej_at (y := .int wh) (ej_dat (d := fmP wb wp wl wh) 8)) (ej_at (y := .int wl) (ej_dat (d := fmP wb wp wl wh) 8))) ej_int) (decide_eq_false z)) (ej_catT (ds := [.int wb, .int wp]) (es' := [.int wl, .int (wl + 20)]) (ej_is (ej_sliceT (ej_dat (d := fmP wb wp wl wh) 8) oj_none (oj_some ej_int)) rfl) (ej_tupD (ad_cons (ej_at (y := .int wl) (ej_dat (d := fmP wb wp wl wh) 8)) (ad_cons (ej_add (ej_at (y := .int wl) (ej_dat (d := fmP wb wp wl wh) 8)) ej_int) ad_nil)) (Nat.le_of_ble_eq_true rfl)) (Nat.le_of_ble_eq_true rfl))
  obtain ⟨F1, F2⟩ := hw
  generalize wide4 (wb, wp, wl, wh) = t at *
  obtain ⟨b, p, lo, hi⟩ := t
  have F1 : Fm b p lo hi := F1
  refine sj_unpack [9, 10, 11, 12] (ds := [.int b, .int p, .int lo, .int hi]) G.calm (ej_dat (d := fmP b p lo hi) 8) (pgs_cons (pgN 9 G.nd) (pgs_cons (pgN 10 G.nd) (pgs_cons (pgN 11 G.nd) (pgs_cons (pgN 12 G.nd) pgs_nil)))) rfl ?_
  have mv : ([PyData.int 0, .int 1, .int (-1)] : List PyData) = ([0, 1, -1] : List Int).map PyData.int := rfl
  refine sj_setLcRX 13 (x := "_law_k") (j := 15) G.nd G.calm m_range (blkOk_by (N := ["_law_script", "_law_bag_here", "_law_way", "_law_one", "_law_other", "_law_is_in", "_law_small", "_law_great", "_law_wide", "_law_base", "_law_digits", "_law_low", "_law_high", "_law_moves", "_law_near", "_law_k"]) (sc := defScope s_law) (by decide +kernel)) (fun _ _ _ _ _ => pg_name (i := 15) G.nd rfl (Or.inl rfl)) (sw_true rfl rfl rfl (by decide +kernel)) (rx_lcR (n := 3) (fun k acc B' => Bok B' ∧ ∃ L : List Int, acc = L.map PyData.int ∧ L.length = k ∧ ∀ v ∈ L, v ∈ ([0, 1, -1] : List Int)) (aj_cons ej_int aj_nil) ⟨ok4, [], rfl, rfl, fun _ h => nomatch h⟩ (by decide) (fun k acc B' hk hl hI => ?_) (fun acc B5 hl hI => ?_))
  · obtain ⟨ok, L, rfl, hL, hv⟩ := hI
    obtain ⟨i, hi, B6, ra, ok6⟩ := sm_ex ([0, 1, -1] : List Int) PyData.int (by decide) ok (by decide)
    replace ra : R_some [.bag, .da (.list [.int 0, .int 1, .int (-1)])] B' (.int i) B6 := ra
    refine fun s0 H0 C cl fp => ex_ej (B1 := B6) (ej_call c_l_some ⟨G.gd, G.rm.mono (by decide), G.nd, G.calm⟩ (aj_cons (ej_bag 1) (aj_cons (ej_lstD (ad_cons ej_int (ad_cons ej_int (ad_cons (ej_neg ej_int) ad_nil))) (Nat.le_of_ble_eq_true rfl)) aj_nil)) ra) ?_
    refine ⟨ok6, L ++ [i], by rw [List.map_append]; rfl, by rw [List.length_append, hL]; rfl, fun v hm => ?_⟩
    rcases List.mem_append.mp hm with z | z
    · exact hv v z
    · rw [List.mem_singleton.mp z]; exact hi
  obtain ⟨ok5, L, rfl, hL, hv⟩ := hI
  obtain ⟨i, j, k, rfl⟩ : ∃ i j k : Int, L = [i, j, k] := by
    rcases L with _ | ⟨i, _ | ⟨j, _ | ⟨k, _ | ⟨z, L⟩⟩⟩⟩
    · cases hL
    · cases hL
    · cases hL
    · exact ⟨i, j, k, rfl⟩
    · simp only [List.length_cons] at hL; omega
  have F2 := F2 i (hv i (by simp)) j (hv j (by simp)) k (hv k (by simp))
  unfold near4 at F2
  have hN : min 120 (max 2 ((p : Int) + i)) = ((min 120 (max 2 ((p : Int) + i))).toNat : Nat) := by omega
  simp only [] at F2
  generalize (min 120 (max 2 ((p : Int) + i))).toNat = N at *
  refine sj_par 10 11 (d1 := .da (.int N)) (d2 := .da (.int (max (-1200) (lo + j)))) (B1 := B5) G.nd G.calm (aj_cons (ej_is (ej_min G.calm m_min ej_int (ej_max G.calm m_max ej_int (ej_add (ej_dat 10) (ej_atL (y := .int i) (ej_dat (d := .list [.int i, .int j, .int k]) 13) rfl)))) (congrArg PyData.int hN)) (aj_cons (ej_max G.calm m_max (ej_neg ej_int) (ej_add (ej_dat 11) (ej_atL (y := .int j) (ej_dat (d := .list [.int i, .int j, .int k]) 13) rfl))) aj_nil)) ?_ (by decide) (by rfl)
  generalize max (-1200) (lo + j) = lo2 at *
  refine sj_set 14 (d := .da (fmP b N lo2 (min 1200 (max lo2 (hi + k))))) (B1 := B5) G.nd (ej_tupD (ad_cons (ej_dat 9) (ad_cons (ej_dat 10) (ad_cons (ej_dat 11) (ad_cons (ej_min G.calm m_min ej_int (ej_max G.calm m_max (ej_dat 11) (ej_add (ej_dat 12) (ej_atL (y := .int k) (ej_dat (d := .list [.int i, .int j, .int k]) 13) rfl)))) ad_nil)))) (Nat.le_of_ble_eq_true rfl)) ?_
  generalize min 1200 (max lo2 (hi + k)) = hi2 at *
  have F2 : Fm b N lo2 hi2 := F2
  refine sj_forTU (ds := [.tuple [fmP b p lo hi, fmP b N lo2 hi2], .tuple [fmP b N lo2 hi2, fmP b p lo hi]]) [3, 4] 2 G.calm (fun _ Γ' B' => B' = B5 ∧ ∃ g3 g4 g5 g6 g7 g9 g10 g11 g12 g13 g15, Γ' = [.no, .bag, .da (.int wy), g3, g4, g5, g6, g7, .da (fmP b p lo hi), g9, g10, g11, g12, g13, .da (fmP b N lo2 hi2), g15]) (ej_tupD (ad_cons (ej_tupD (ad_cons (ej_dat (d := fmP b p lo hi) 8) (ad_cons (ej_dat (d := fmP b N lo2 hi2) 14) ad_nil)) (Nat.le_of_ble_eq_true rfl)) (ad_cons (ej_tupD (ad_cons (ej_dat (d := fmP b N lo2 hi2) 14) (ad_cons (ej_dat (d := fmP b p lo hi) 8) ad_nil)) (Nat.le_of_ble_eq_true rfl)) ad_nil)) (Nat.le_of_ble_eq_true rfl)) ⟨rfl, _, _, _, _, _, _, _, _, _, _, _, rfl⟩ (pgs_cons (pgN 3 G.nd) (pgs_cons (pgN 4 G.nd) pgs_nil)) rfl (fun q y Γ' B' hy hP => ?_) (fun Γ' B' hP => ?_)
  · obtain ⟨rfl, g3, g4, g5, g6, g7, g9, g10, g11, g12, g13, g15, rfl⟩ := hP
    have two : ∃ (b' p' : Nat) (l h : Int) (q' : Nat) (l' h' : Int), y = .tuple [fmP b' p' l h, fmP b' q' l' h'] ∧ Fm b' p' l h ∧ Fm b' q' l' h' := by
      rcases List.mem_cons.mp (List.mem_of_getElem? hy) with z | z
      · exact ⟨_, _, _, _, _, _, _, z, F1, F2⟩
      · exact ⟨_, _, _, _, _, _, _, List.mem_singleton.mp z, F2, F1⟩
    obtain ⟨b', p', l, h, q', l', h', rfl, X1, X2⟩ := two
    refine ⟨_, rfl, rfl, ?_⟩
    refine sj_when (x := false) (tj_not (x := true) (tj_val (ej_call c_l_is_lost_right (G.le (by decide)) (aj_cons (ej_dat (d := fmP b' p' l h) 3) (aj_cons (ej_dat (d := fmP b' q' l' h') 4) (aj_cons (ej_is (y := .bool (isInB b' p' l h b' q' l' h')) (ej_call c_l_one_base (G.le (by decide)) (aj_cons (ej_dat (d := fmP b' p' l h) 3) (aj_cons (ej_dat (d := fmP b' q' l' h') 4) aj_nil)) (R_onebase.mk b' p' l h b' q' l' h' B')) (congrArg PyData.bool (isInB_eq (one_in X1 X2)))) aj_nil))) (R_lright.mk b' p' l h b' q' l' h' B' X1 X2)))) (fun h => Bool.noConfusion h) (fun _ => sj_nil ?_)
    exact ⟨rfl, _, _, _, _, _, _, _, _, _, _, _, rfl⟩
  obtain ⟨rfl, g3, g4, g5, g6, g7, g9, g10, g11, g12, g13, g15, rfl⟩ := hP
  exact sj_ret ej_bl rfl

end K12
namespace Gd
open PySem PySem.Spec PyProof.Rows L2
theorem bltB_ok {K : PySem.W.Frag} {h : Heap} {mg : Str → Option Value} {x : Str} {b : String} (X : K.In h) (G : h.Ns mainGlobals mg) (c : bltB K x b = true) : mg x = some (.builtin b) :=
  PySem.W.mg_of X G (He.eqO_ok c)
theorem ckM_blt {gl : List (Str × PyData)} {bl : List (Str × String)} {K : PySem.W.Frag} {h : Heap} {mg : Str → Option Value} {x : Str} {b : String} (X : K.In h) (G : h.Ns mainGlobals mg) (c : ckM gl bl K = true) (i : Nat) (e : bl[i]? = some (x, b)) : mg x = some (.builtin b) := by
  have c' : (gl.all (fun p => globB K p.1 p.2) && bl.all (fun p => bltB K p.1 p.2)) = true := c
  rw [Bool.and_eq_true] at c'
  exact bltB_ok X G (List.all_eq_true.1 c'.2 _ (List.mem_of_getElem? e))
theorem obM_eq {fa : List He.Fa} {fn : List He.DefD} {ck : PySem.W.Frag → Bool} (s : PySem.W.SharedT) : obM fa fn ck s = (hkM fa fn ck).obs s.abs := by
  have e : HandSHeadRun.getT s = s.abs.heap.get? := funext (HandSHeadRun.getT_eq s)
  unfold obM hkM
  rw [e]
theorem defD_at {K : PySem.W.Frag} {h : Heap} {mg : Str → Option Value} {fa : List He.Fa} {fn : List He.DefD} (X : K.In h) (G : h.Ns mainGlobals mg) (c : He.SaysD fa fn K) {y x : Str} {st : Stmt} (i : Nat) (e : fn[i]? = some (dfD y x st)) (ef : fa[i]? = some (.glo y)) :
    ∃ (f : Addr) (oc : Value) (od an : Option Addr) (osl : Array (Option Value)) (kV doc pm cdv ct : Value), PySem.W.nsIn K mainGlobals y = some (some (.ref f)) ∧
      K.lookup f = some ⟨oc, od, .func (PySem.W.fnOf x x (defArgs st) (defBody st) (defScope st) .none kV doc pm an cdv ct), osl⟩ ∧ PySem.W.codeIn K cdv x = true ∧ PySem.W.keepIn K (.ref f) = true := by
  have g := He.eqO_ok (c.fact i (f := .glo y) ef)
  obtain ⟨fd, ⟨oc, od, dV, kV, doc, pm, an, cdv, ct, osl, e1, e2, e3, e4, e5⟩, kp⟩ := c.def_ i (d := dfD y x st) e
  have d0 : dV = .none := by
    rcases e4 with ⟨_, z⟩ | ⟨z, _⟩
    · exact z
    · exact absurd rfl z
  subst d0 e1
  exact ⟨_, oc, od, an, osl, kV, doc, pm, cdv, ct, g, e2, e3, kp⟩
theorem at_mkH {K : PySem.W.Frag} {h : Heap} {mg : Str → Option Value} {fa : List He.Fa} {fn : List He.DefD} {x : Str} {st : Stmt} (ps : List Str) (X : K.In h) (G : h.Ns mainGlobals mg) (c : He.SaysD fa fn K) (i : Nat) (e : fn[i]? = some (dfD x x st)) (ef : fa[i]? = some (.glo x))
    (b : ∀ (kV doc pm : Value) (an : Option Addr) (cdv ct : Value) (us : List Value), us.length = ps.length → bindArgs (PySem.W.fnOf x x (defArgs st) (defBody st) (defScope st) .none kV doc pm an cdv ct) ⟨us, []⟩ = pure (ps.zip us)) :
    At K mg x st ps :=
  let ⟨_, _, _, _, _, _, _, _, _, _, a, l, d, k⟩ := defD_at X G c i e ef
  at_mk ps X G a l d k b
theorem law_mkH {P : Program} {w : World} {K : PySem.W.Frag} {h : Heap} {mg : Str → Option Value} {fas : List He.Fa} {fn : List He.DefD} {st : Stmt} {fa : Addr} {n : Nat}
    (X : K.In h) (G : h.Ns mainGlobals mg) (hfa : mg "law" = some (.ref fa)) (c : He.SaysD fas fn K) (i : Nat) (e : fn[i]? = some (dfD "law" "law" st)) (ef : fas[i]? = some (.glo "law"))
    (b : ∀ (kV doc pm : Value) (an : Option Addr) (cdv ct : Value) (s : Shared) (v : Value), BindsTo s (PySem.W.fnOf "law" "law" (defArgs st) (defBody st) (defScope st) .none kV doc pm an cdv ct) ⟨[v], []⟩ [("_law_script", v)])
    (H : ∀ (base : Heap) (f : Addr) (fd : FuncData), Fun K "law" "law" st f fd → FnG P w K mg base n f fd ["_law_script"] (spLaw K)) :
    ∃ fd : FuncData, (∀ (s : Shared) (v : Value), BindsTo s fd ⟨[v], []⟩ [("_law_script", v)]) ∧ ∀ base : Heap, K.In base → base.Ns mainGlobals mg → FnG P w K mg base n fa fd ["_law_script"] (spLaw K) :=
  let ⟨_, _, _, _, _, _, _, _, _, _, a, l, d, k⟩ := defD_at X G c i e ef
  law_mk X G hfa a l d k (fun s v => b _ _ _ _ _ _ s v) H
theorem walk_ofGH {l : PySem.W.OpenLaw} {k : Nat} {q : Program} {loose : List Str} {XP : (Str → Option Value) → Heap → Prop} {d : DefRec} {fas : List He.Fa} {fn : List He.DefD} {ck : PySem.W.Frag → Bool} {x : Str}
    (hn : l.most = some 63) (hdf : d.params.defaults = []) (hr : Room k callerA)
    (F : ∀ (w : World) (K : PySem.W.Frag) (mg : Str → Option Value) (fa : Addr) (h : Heap), K.In h → h.Ns mainGlobals mg → mg d.name = some (.ref fa) → He.SaysD fas fn K → ck K = true →
      ∃ fd : FuncData, (∀ (s : Shared) (u : Value), BindsTo s fd ⟨[u], []⟩ [(x, u)]) ∧ ∀ base : Heap, K.In base → base.Ns mainGlobals mg → FnG l.prog w K mg base k fa fd [x] (spLaw K)) :
    PySem.W.WalkO q loose XP (hkM fas fn ck).says l.row.toRowW d [] fun f vs => PySem.call f vs := by
  refine Att.attach_call hn hdf fun w sw sx mg mb fa o pm cd doc a vs ns G Y ho hd hcd hmg hobj hints hlen hg => ?_
  obtain ⟨K, KI, c1, c2⟩ := Y
  have ⟨fd, hb, hF⟩ := F w K mg fa _ KI G.T.g hmg c1 c2
  exact law_callG KI G.T.g G.T.b G.T.builtins G.T.nolimit hg hobj hints (Nat.le_trans hlen (by decide)) hr hF hb fun H hS => ⟨a, ns, rfl, hS, hlen, fun _ => rfl⟩
end Gd
namespace Gd
open PySem PySem.Spec PyProof.Rows
theorem endG_ok {M : Nat} {p : Program} {w : World} {s0 : Shared} {s : PySem.W.SharedT} (h : endG (PySem.W.stepT (denote treeTable) p w) M p s0 = some s) :
    PySem.W.topRun treeTable p w s0.heap.objs.size (s0.heap.nsMap mainGlobals (Str.ofString "__annotations__")) M s0 (PySem.W.topStub p) = some s.abs := by
  unfold endG at h
  split at h
  · rename_i t n e
    rw [HandSHeadRun.frNat_eq] at h
    have q := HandSHeadRun.goF_ok h
    have eh := HandSHeadRun.putAll_heap e
    have en : s0.heap.objs.size = n := by rw [← eh]; exact PySem.W.absHeap_size _ _ _
    rw [en]
    have eb : (PySem.W.SharedT.mk t n s0.heap.life s0.gens s0.drawn s0.toks s0.os).abs = s0 := by
      unfold PySem.W.SharedT.abs
      rw [eh]
    rw [eb] at q
    exact q
  · cases h
theorem endG_eq (M : Nat) (p : Program) (w : World) (s0 : Shared) : endG (PySem.W.stepT (denote treeTable) p w) M p s0 = endG (HandSHeadRun.stepQ (HandSHeadRun.denQ HandSHeadRun.tabQ) p w) M p s0 := by
  rw [HandSHeadRun.stepQ_eq, HandSHeadRun.denQ_eq, HandSHeadRun.tabQ_eq]
theorem goI_ok {tb : String → Option Builtin} {p : Program} {w : World} : ∀ (m : Nat) (s s' : PySem.W.SharedT) (t : Thread), goI (PySem.W.stepT (denote tb) p w) m s t = some s' → importEnds tb p w m s.abs t = some s'.abs
  | 0, _, _, _, h => by cases h
  | m + 1, s, s', t, h => by
    unfold goI at h
    unfold importEnds
    split at h
    · rename_i e
      rw [e]
      cases h
      rfl
    · cases h
    · rename_i e
      rw [e]
      split at h
      · rename_i s2 t2 e2
        rw [HandSHeadRun.frS_eq] at h
        have q := PySem.W.stepT_spec e2
        show (match step (denote tb) p w s.abs t with | .go s' t' => importEnds tb p w m s' t' | .halt _ _ => none) = _
        rw [q]
        exact goI_ok m _ _ _ h
      · cases h
theorem openI_ok {N : Nat} {p : Program} {w : World} {s0 : Shared} (h : openI (PySem.W.stepT (denote treeTable) (PySem.W.opening p) w) N p = some s0) : PySem.W.fencedOpening treeTable p w N = some s0 := by
  obtain ⟨s, a, b⟩ := Option.bind_eq_some_iff.mp h
  have q := goI_ok _ _ _ _ a
  unfold PySem.W.fencedOpening
  have e : (PySem.W.SharedT.mk PySem.W.BT.nil 0 {} #[] {} 1 (start (PySem.W.opening p)).1.os).abs = (start (PySem.W.opening p)).1 := by
    unfold PySem.W.SharedT.abs PySem.start
    simp only [HandSHeadRun.abs_nil]
  rw [e] at q
  rw [q]
  exact b
theorem left_two {r : PySem.W.OpenRow} {q : Program} {H : PySem.W.Hook} {ob : PySem.W.SharedT → H.α} {N M : Nat} {loose : List Str} (ho : ∀ s, ob s = H.obs s.abs) (le : M ≤ N) (runA : ∀ w, RunA r q N M loose w) (runB : ∀ w, RunB r H ob N M w) :
    PySem.W.LeftO r.prog q loose (fun s => PySem.W.xlAt q [] s && PySem.W.recOk r.records s) (fun s => H.obs s) H.val N := fun w => by
  obtain ⟨⟨s0, s⟩, hr, hv⟩ := Option.map_eq_some_iff.mp (runA w)
  have l3 : ob s = H.val w := by
    have z := runB w
    unfold RunB at z
    rw [hr] at z
    injection z
  obtain ⟨l1, l2⟩ : ((s0.heap.isNs mainGlobals && s0.gens.size == 0) && HandSHeadRun.looksF r.prog s0.heap s.abs) = true ∧ HandSHeadRun.seenQ q loose (importedModules r.prog.main.body) (fun s => PySem.W.xlAt q [] s && PySem.W.recOk r.records s) s.abs = PySem.W.openGood q loose := by
    injection hv with h1 h2
    exact ⟨h1, h2⟩
  unfold runI at hr
  obtain ⟨s0', a, b⟩ := Option.bind_eq_some_iff.mp hr
  obtain ⟨s', hs, hz⟩ := Option.map_eq_some_iff.mp b
  cases hz
  rw [← endG_eq] at hs
  have a' : openI (PySem.W.stepT (denote treeTable) (PySem.W.opening r.prog) w) N r.prog = some s0 := by
    rw [HandSHeadRun.stepQ_eq, HandSHeadRun.denQ_eq, HandSHeadRun.tabQ_eq]
    exact a
  have a := openI_ok a'
  have t0 := endG_ok hs
  have t1 := PySem.W.topRun_mono (N - M) M _ _ _ t0
  rw [show M + (N - M) = N by omega] at t1
  rw [Bool.and_eq_true] at l1
  have l1' : (PySem.W.staticsOk (importedModules r.prog.main.body) s0.heap s.abs.heap && PySem.W.namesBound r.prog s.abs.heap && PySem.W.gensDone s.abs && PySem.W.laidKept s0.heap s.abs.heap) = true := l1.2
  have tt : PySem.W.topFrom treeTable r.prog w N s0 = some s.abs := by
    unfold PySem.W.topFrom
    rw [l1.1]
    show (PySem.W.topRun _ _ _ _ _ _ _ _).bind _ = _
    rw [t1]
    show (match _ with | true => _ | false => _) = _
    rw [l1']
  show Option.map _ (PySem.W.openEnds treeTable r.prog w N) = _
  unfold PySem.W.openEnds
  rw [a]
  show Option.map _ (PySem.W.topFrom treeTable r.prog w N s0) = _
  rw [tt]
  show some (PySem.W.openSeen q loose _ _ true s.abs, H.obs s.abs) = _
  rw [HandSHeadRun.seenQ_eq, l2, ← ho s, l3]
theorem head_two {r : PySem.W.OpenRow} {q : Program} {H : PySem.W.Hook} {ob : PySem.W.SharedT → H.α} {N M : Nat} {loose : List Str} {d : DefRec} {kwd : List (Str × Expr)} (ho : ∀ s, ob s = H.obs s.abs) (le : M ≤ N) (runA : ∀ w, RunA r q N M loose w) (runB : ∀ w, RunB r H ob N M w)
    (hdef : PySem.W.defOf q r.name = some (d, kwd)) (hp : r.prog.theDef r.name = some (d.params, d.body, d.scope)) (hk : PySem.W.kwWritten? d.params.kwonlyargs d.params.kw_defaults = some kwd)
    (hwr : (!r.writes || List.isEmpty r.records) = true) (k1 : r.wellSaid = true) (ok : (PySem.W.chainsOk q && PySem.W.opensWell r.prog && (PySem.W.frees r.toRowW && r.within.isEmpty)) = true) (hb : r.prog.bare) (hw : r.promised)
    (call : PySem.W.WalkO q loose (PySem.W.XL q []) H.says r.toRowW d kwd fun f vs => PySem.call f vs) : r.Holds :=
  PySem.W.holds_open (left_two ho le runA runB) H.of H.keeps (fun s z => PySem.W.xl_of s (Bool.and_eq_true_iff.mp z).left) PySem.W.XL.keeps hdef hp hk
    (fun s z => PySem.W.recFacts_of (Bool.and_eq_true_iff.mp z).right) hwr k1 ok hb hw call
end Gd
namespace Gd
open PySem PySem.Spec PyProof.Rows L2
end Gd
namespace K12
open PySem PySem.Spec PyProof.Rows L2 Gd Lw K12H
theorem all_mk {w : World} {K : PySem.W.Frag} {h : Heap} {mg : Str → Option Value} {fa : Addr} (X : K.In h) (G : h.Ns mainGlobals mg) (hfa : mg "law" = some (.ref fa)) (c : He.SaysD fas fn K) (kk : ck K = true) :
    ∃ fd : FuncData, (∀ (s : Shared) (v : Value), BindsTo s fd ⟨[v], []⟩ [("_law_script", v)]) ∧ ∀ base : Heap, K.In base → base.Ns mainGlobals mg → FnG PySem.Challenge.pw_nearestheld_k12_whole_one_format_in_anot w K mg base 12 fa fd ["_law_script"] (spLaw K) := by
  have T_integer_power : At K mg "integer_power" s_integer_power ["base", "e"] := at_mkH ["base", "e"] X G c 0 rfl rfl (fun _ _ _ _ _ _ us hl => match us, hl with | [_, _], _ => rfl)
  have T_reduced : At K mg "reduced" s_reduced ["n", "d"] := at_mkH ["n", "d"] X G c 1 rfl rfl (fun _ _ _ _ _ _ us hl => match us, hl with | [_, _], _ => rfl)
  have T_times : At K mg "times" s_times ["one", "other"] := at_mkH ["one", "other"] X G c 2 rfl rfl (fun _ _ _ _ _ _ us hl => match us, hl with | [_, _], _ => rfl)
  have T_size_of : At K mg "size_of" s_size_of ["one"] := at_mkH ["one"] X G c 3 rfl rfl (fun _ _ _ _ _ _ us hl => match us, hl with | [_], _ => rfl)
  have T_power_of : At K mg "power_of" s_power_of ["base", "e"] := at_mkH ["base", "e"] X G c 4 rfl rfl (fun _ _ _ _ _ _ us hl => match us, hl with | [_, _], _ => rfl)
  have T_sign_of_fraction : At K mg "sign_of_fraction" s_sign_of_fraction ["one"] := at_mkH ["one"] X G c 5 rfl rfl (fun _ _ _ _ _ _ us hl => match us, hl with | [_], _ => rfl)
  have T_power_below : At K mg "power_below" s_power_below ["base", "one"] := at_mkH ["base", "one"] X G c 6 rfl rfl (fun _ _ _ _ _ _ us hl => match us, hl with | [_, _], _ => rfl)
  have T_u_power_within : At K mg "_power_within" s_u_power_within ["base", "whole"] := at_mkH ["base", "whole"] X G c 7 rfl rfl (fun _ _ _ _ _ _ us hl => match us, hl with | [_, _], _ => rfl)
  have T_u_twos_in : At K mg "_twos_in" s_u_twos_in ["n"] := at_mkH ["n"] X G c 8 rfl rfl (fun _ _ _ _ _ _ us hl => match us, hl with | [_], _ => rfl)
  have T_worth : At K mg "worth" s_worth ["form", "number"] := at_mkH ["form", "number"] X G c 9 rfl rfl (fun _ _ _ _ _ _ us hl => match us, hl with | [_, _], _ => rfl)
  have T_number_of : At K mg "number_of" s_number_of ["form", "fraction"] := at_mkH ["form", "fraction"] X G c 10 rfl rfl (fun _ _ _ _ _ _ us hl => match us, hl with | [_, _], _ => rfl)
  have T_zero : At K mg "zero" s_zero ["form", "s"] := at_mkH ["form", "s"] X G c 11 rfl rfl (fun _ _ _ _ _ _ us hl => match us, hl with | [_, _], _ => rfl)
  have T_is_within : At K mg "is_within" s_is_within ["form", "other"] := at_mkH ["form", "other"] X G c 12 rfl rfl (fun _ _ _ _ _ _ us hl => match us, hl with | [_, _], _ => rfl)
  have T_lost_number : At K mg "lost_number" s_lost_number ["form", "other"] := at_mkH ["form", "other"] X G c 13 rfl rfl (fun _ _ _ _ _ _ us hl => match us, hl with | [_, _], _ => rfl)
  have T_l_bag : At K mg "_law_bag" s_l_bag ["_law_script"] := at_mkH ["_law_script"] X G c 14 rfl rfl (fun _ _ _ _ _ _ us hl => match us, hl with | [_], _ => rfl)
  have T_l_take : At K mg "_law_take" s_l_take ["_law_bag_here", "_law_many"] := at_mkH ["_law_bag_here", "_law_many"] X G c 15 rfl rfl (fun _ _ _ _ _ _ us hl => match us, hl with | [_, _], _ => rfl)
  have T_l_some : At K mg "_law_some" s_l_some ["_law_bag_here", "_law_things"] := at_mkH ["_law_bag_here", "_law_things"] X G c 16 rfl rfl (fun _ _ _ _ _ _ us hl => match us, hl with | [_, _], _ => rfl)
  have T_l_alike : At K mg "_law_alike" s_l_alike ["_law_found", "_law_due"] := at_mkH ["_law_found", "_law_due"] X G c 17 rfl rfl (fun _ _ _ _ _ _ us hl => match us, hl with | [_, _], _ => rfl)
  have T_l_is_int : At K mg "_law_is_int" s_l_is_int ["_law_thing"] := at_mkH ["_law_thing"] X G c 18 rfl rfl (fun _ _ _ _ _ _ us hl => match us, hl with | [_], _ => rfl)
  have T_l_common : At K mg "_law_common" s_l_common ["_law_one", "_law_other"] := at_mkH ["_law_one", "_law_other"] X G c 19 rfl rfl (fun _ _ _ _ _ _ us hl => match us, hl with | [_, _], _ => rfl)
  have T_l_to : At K mg "_law_to" s_l_to ["_law_base", "_law_n"] := at_mkH ["_law_base", "_law_n"] X G c 20 rfl rfl (fun _ _ _ _ _ _ us hl => match us, hl with | [_, _], _ => rfl)
  have T_l_over : At K mg "_law_over" s_l_over ["_law_n", "_law_d"] := at_mkH ["_law_n", "_law_d"] X G c 21 rfl rfl (fun _ _ _ _ _ _ us hl => match us, hl with | [_, _], _ => rfl)
  have T_l_multiplied : At K mg "_law_multiplied" s_l_multiplied ["_law_x", "_law_y"] := at_mkH ["_law_x", "_law_y"] X G c 22 rfl rfl (fun _ _ _ _ _ _ us hl => match us, hl with | [_, _], _ => rfl)
  have T_l_is_below : At K mg "_law_is_below" s_l_is_below ["_law_x", "_law_y"] := at_mkH ["_law_x", "_law_y"] X G c 23 rfl rfl (fun _ _ _ _ _ _ us hl => match us, hl with | [_, _], _ => rfl)
  have T_l_sized : At K mg "_law_sized" s_l_sized ["_law_x"] := at_mkH ["_law_x"] X G c 24 rfl rfl (fun _ _ _ _ _ _ us hl => match us, hl with | [_], _ => rfl)
  have T_l_power : At K mg "_law_power" s_l_power ["_law_base", "_law_e"] := at_mkH ["_law_base", "_law_e"] X G c 25 rfl rfl (fun _ _ _ _ _ _ us hl => match us, hl with | [_, _], _ => rfl)
  have T_l_worth : At K mg "_law_worth" s_l_worth ["_law_form", "_law_number"] := at_mkH ["_law_form", "_law_number"] X G c 26 rfl rfl (fun _ _ _ _ _ _ us hl => match us, hl with | [_, _], _ => rfl)
  have T_l_formats : At K mg "_law_formats" s_l_formats ["_law_bag_here"] := at_mkH ["_law_bag_here"] X G c 27 rfl rfl (fun _ _ _ _ _ _ us hl => match us, hl with | [_], _ => rfl)
  have T_l_wide_format : At K mg "_law_wide_format" s_l_wide_format ["_law_bag_here"] := at_mkH ["_law_bag_here"] X G c 28 rfl rfl (fun _ _ _ _ _ _ us hl => match us, hl with | [_], _ => rfl)
  have T_l_numbers : At K mg "_law_numbers" s_l_numbers ["_law_form"] := at_mkH ["_law_form"] X G c 29 rfl rfl (fun _ _ _ _ _ _ us hl => match us, hl with | [_], _ => rfl)
  have T_l_grid : At K mg "_law_grid" s_l_grid ["_law_form", "_law_x"] := at_mkH ["_law_form", "_law_x"] X G c 30 rfl rfl (fun _ _ _ _ _ _ us hl => match us, hl with | [_, _], _ => rfl)
  have T_l_greatest : At K mg "_law_greatest" s_l_greatest ["_law_form"] := at_mkH ["_law_form"] X G c 31 rfl rfl (fun _ _ _ _ _ _ us hl => match us, hl with | [_], _ => rfl)
  have T_l_is_number : At K mg "_law_is_number" s_l_is_number ["_law_form", "_law_thing"] := at_mkH ["_law_form", "_law_thing"] X G c 32 rfl rfl (fun _ _ _ _ _ _ us hl => match us, hl with | [_, _], _ => rfl)
  have T_l_number_of : At K mg "_law_number_of" s_l_number_of ["_law_form", "_law_x"] := at_mkH ["_law_form", "_law_x"] X G c 33 rfl rfl (fun _ _ _ _ _ _ us hl => match us, hl with | [_, _], _ => rfl)
  have T_l_couple : At K mg "_law_couple" s_l_couple ["_law_bag_here"] := at_mkH ["_law_bag_here"] X G c 34 rfl rfl (fun _ _ _ _ _ _ us hl => match us, hl with | [_], _ => rfl)
  have T_l_lost : At K mg "_law_lost" s_l_lost ["_law_form", "_law_other"] := at_mkH ["_law_form", "_law_other"] X G c 35 rfl rfl (fun _ _ _ _ _ _ us hl => match us, hl with | [_, _], _ => rfl)
  have T_l_count : At K mg "_law_count" s_l_count ["_law_form"] := at_mkH ["_law_form"] X G c 36 rfl rfl (fun _ _ _ _ _ _ us hl => match us, hl with | [_], _ => rfl)
  have T_l_is_lost_right : At K mg "_law_is_lost_right" s_l_is_lost_right ["_law_form", "_law_other", "_law_is_in"] := at_mkH ["_law_form", "_law_other", "_law_is_in"] X G c 37 rfl rfl (fun _ _ _ _ _ _ us hl => match us, hl with | [_, _, _], _ => rfl)
  have T_l_one_base : At K mg "_law_one_base" s_l_one_base ["_law_one", "_law_other"] := at_mkH ["_law_one", "_law_other"] X G c 38 rfl rfl (fun _ _ _ _ _ _ us hl => match us, hl with | [_, _], _ => rfl)
  have T_l_unlike_couple : At K mg "_law_unlike_couple" s_l_unlike_couple ["_law_bag_here"] := at_mkH ["_law_bag_here"] X G c 39 rfl rfl (fun _ _ _ _ _ _ us hl => match us, hl with | [_], _ => rfl)
  have T_l_in_powers : At K mg "_law_in_powers" s_l_in_powers ["_law_bag_here"] := at_mkH ["_law_bag_here"] X G c 40 rfl rfl (fun _ _ _ _ _ _ us hl => match us, hl with | [_], _ => rfl)
  have T_l_in_integers : At K mg "_law_in_integers" s_l_in_integers ["_law_bag_here"] := at_mkH ["_law_bag_here"] X G c 41 rfl rfl (fun _ _ _ _ _ _ us hl => match us, hl with | [_], _ => rfl)
  have T_l_in_decimals : At K mg "_law_in_decimals" s_l_in_decimals ["_law_bag_here"] := at_mkH ["_law_bag_here"] X G c 42 rfl rfl (fun _ _ _ _ _ _ us hl => match us, hl with | [_], _ => rfl)
  have m_abs : mg "abs" = none := He.free_ok X G (c.fact 44 (f := .free "abs") rfl)
  have m_bool : mg "bool" = none := He.free_ok X G (c.fact 45 (f := .free "bool") rfl)
  have m_int : mg "int" = none := He.free_ok X G (c.fact 46 (f := .free "int") rfl)
  have m_isinstance : mg "isinstance" = none := He.free_ok X G (c.fact 47 (f := .free "isinstance") rfl)
  have m_len : mg "len" = none := He.free_ok X G (c.fact 48 (f := .free "len") rfl)
  have m_max : mg "max" = none := He.free_ok X G (c.fact 49 (f := .free "max") rfl)
  have m_min : mg "min" = none := He.free_ok X G (c.fact 50 (f := .free "min") rfl)
  have m_range : mg "range" = none := He.free_ok X G (c.fact 51 (f := .free "range") rfl)
  have m_repr : mg "repr" = none := He.free_ok X G (c.fact 52 (f := .free "repr") rfl)
  have m_rev : mg "reversed" = none := He.free_ok X G (c.fact 53 (f := .free "reversed") rfl)
  have m_str : mg "str" = none := He.free_ok X G (c.fact 54 (f := .free "str") rfl)
  have m_tuple : mg "tuple" = none := He.free_ok X G (c.fact 55 (f := .free "tuple") rfl)
  have m_gcd : mg "gcd" = some (.builtin "math.gcd") := ckM_blt X G kk 0 rfl
  refine law_mkH (st := s_law) (n := 12) X G hfa c 43 rfl rfl (fun _ _ _ _ _ _ _ _ => .of_eq rfl) (fun base f fd F => ?_)
  have c_l_take := c_of_l_take (P := PySem.Challenge.pw_nearestheld_k12_whole_one_format_in_anot) (w := w) (base := base) m_int T_l_take
  have c_integer_power := c_of_integer_power (P := PySem.Challenge.pw_nearestheld_k12_whole_one_format_in_anot) (w := w) (base := base) T_integer_power
  have c_u_twos_in := c_of_u_twos_in (P := PySem.Challenge.pw_nearestheld_k12_whole_one_format_in_anot) (w := w) (base := base) T_u_twos_in
  have c_reduced := c_of_reduced (P := PySem.Challenge.pw_nearestheld_k12_whole_one_format_in_anot) (w := w) (base := base) m_gcd m_min c_u_twos_in T_reduced
  have c_times := c_of_times (P := PySem.Challenge.pw_nearestheld_k12_whole_one_format_in_anot) (w := w) (base := base) c_reduced T_times
  have c_power_of := c_of_power_of (P := PySem.Challenge.pw_nearestheld_k12_whole_one_format_in_anot) (w := w) (base := base) c_integer_power T_power_of
  have c_worth := c_of_worth (P := PySem.Challenge.pw_nearestheld_k12_whole_one_format_in_anot) (w := w) (base := base) c_times c_power_of T_worth
  have c_zero := c_of_zero (P := PySem.Challenge.pw_nearestheld_k12_whole_one_format_in_anot) (w := w) (base := base) T_zero
  have c_size_of := c_of_size_of (P := PySem.Challenge.pw_nearestheld_k12_whole_one_format_in_anot) (w := w) (base := base) m_abs T_size_of
  have c_u_power_within := c_of_u_power_within (P := PySem.Challenge.pw_nearestheld_k12_whole_one_format_in_anot) (w := w) (base := base) m_rev T_u_power_within
  have c_power_below := c_of_power_below (P := PySem.Challenge.pw_nearestheld_k12_whole_one_format_in_anot) (w := w) (base := base) c_u_power_within T_power_below
  have c_sign_of_fraction := c_of_sign_of_fraction (P := PySem.Challenge.pw_nearestheld_k12_whole_one_format_in_anot) (w := w) (base := base) T_sign_of_fraction
  have c_number_of := c_of_number_of (P := PySem.Challenge.pw_nearestheld_k12_whole_one_format_in_anot) (w := w) (base := base) m_max c_zero c_size_of c_power_below c_times c_power_of c_sign_of_fraction T_number_of
  have c_lost_number := c_of_lost_number (P := PySem.Challenge.pw_nearestheld_k12_whole_one_format_in_anot) (w := w) (base := base) m_range c_integer_power c_worth c_number_of T_lost_number
  have c_l_alike := c_of_l_alike (P := PySem.Challenge.pw_nearestheld_k12_whole_one_format_in_anot) (w := w) (base := base) m_repr T_l_alike
  have c_is_within := c_of_is_within (P := PySem.Challenge.pw_nearestheld_k12_whole_one_format_in_anot) (w := w) (base := base) c_lost_number T_is_within
  have c_l_is_int := c_of_l_is_int (P := PySem.Challenge.pw_nearestheld_k12_whole_one_format_in_anot) (w := w) (base := base) m_isinstance m_int m_bool T_l_is_int
  have c_l_to := c_of_l_to (P := PySem.Challenge.pw_nearestheld_k12_whole_one_format_in_anot) (w := w) (base := base) m_int T_l_to
  have c_l_is_number := c_of_l_is_number (P := PySem.Challenge.pw_nearestheld_k12_whole_one_format_in_anot) (w := w) (base := base) m_isinstance m_tuple m_str m_len c_l_is_int c_l_to T_l_is_number
  have c_l_sized := c_of_l_sized (P := PySem.Challenge.pw_nearestheld_k12_whole_one_format_in_anot) (w := w) (base := base) m_abs T_l_sized
  have c_l_is_below := c_of_l_is_below (P := PySem.Challenge.pw_nearestheld_k12_whole_one_format_in_anot) (w := w) (base := base) T_l_is_below
  have c_l_common := c_of_l_common (P := PySem.Challenge.pw_nearestheld_k12_whole_one_format_in_anot) (w := w) (base := base) m_abs m_int T_l_common
  have c_l_over := c_of_l_over (P := PySem.Challenge.pw_nearestheld_k12_whole_one_format_in_anot) (w := w) (base := base) m_int c_l_common T_l_over
  have c_l_multiplied := c_of_l_multiplied (P := PySem.Challenge.pw_nearestheld_k12_whole_one_format_in_anot) (w := w) (base := base) c_l_over T_l_multiplied
  have c_l_power := c_of_l_power (P := PySem.Challenge.pw_nearestheld_k12_whole_one_format_in_anot) (w := w) (base := base) c_l_to T_l_power
  have c_l_greatest := c_of_l_greatest (P := PySem.Challenge.pw_nearestheld_k12_whole_one_format_in_anot) (w := w) (base := base) c_l_to c_l_power c_l_multiplied T_l_greatest
  have c_l_grid := c_of_l_grid (P := PySem.Challenge.pw_nearestheld_k12_whole_one_format_in_anot) (w := w) (base := base) m_int m_max c_l_to T_l_grid
  have c_l_number_of := c_of_l_number_of (P := PySem.Challenge.pw_nearestheld_k12_whole_one_format_in_anot) (w := w) (base := base) m_int c_l_sized c_l_is_below c_l_multiplied c_l_greatest c_l_grid c_l_power T_l_number_of
  have c_l_worth := c_of_l_worth (P := PySem.Challenge.pw_nearestheld_k12_whole_one_format_in_anot) (w := w) (base := base) c_l_multiplied c_l_power T_l_worth
  have c_l_is_lost_right := c_of_l_is_lost_right (P := PySem.Challenge.pw_nearestheld_k12_whole_one_format_in_anot) (w := w) (base := base) c_lost_number c_l_alike c_is_within c_l_is_number c_l_number_of c_l_worth T_l_is_lost_right
  have c_l_count := c_of_l_count (P := PySem.Challenge.pw_nearestheld_k12_whole_one_format_in_anot) (w := w) (base := base) c_l_to T_l_count
  have c_l_numbers := c_of_l_numbers (P := PySem.Challenge.pw_nearestheld_k12_whole_one_format_in_anot) (w := w) (base := base) m_range c_l_to T_l_numbers
  have c_l_lost := c_of_l_lost (P := PySem.Challenge.pw_nearestheld_k12_whole_one_format_in_anot) (w := w) (base := base) c_l_numbers c_l_worth c_l_number_of T_l_lost
  have c_l_some := c_of_l_some (P := PySem.Challenge.pw_nearestheld_k12_whole_one_format_in_anot) (w := w) (base := base) m_len c_l_take T_l_some
  have c_l_wide_format := c_of_l_wide_format (P := PySem.Challenge.pw_nearestheld_k12_whole_one_format_in_anot) (w := w) (base := base) c_l_some c_l_take T_l_wide_format
  have c_l_one_base := c_of_l_one_base (P := PySem.Challenge.pw_nearestheld_k12_whole_one_format_in_anot) (w := w) (base := base) T_l_one_base
  have c_l_formats := c_of_l_formats (P := PySem.Challenge.pw_nearestheld_k12_whole_one_format_in_anot) (w := w) (base := base) c_l_some T_l_formats
  have c_l_couple := c_of_l_couple (P := PySem.Challenge.pw_nearestheld_k12_whole_one_format_in_anot) (w := w) (base := base) m_int c_l_formats c_l_take c_l_some T_l_couple
  have c_l_bag := c_of_l_bag (P := PySem.Challenge.pw_nearestheld_k12_whole_one_format_in_anot) (w := w) (base := base) m_abs T_l_bag
  have c_l_unlike_couple := c_of_l_unlike_couple (P := PySem.Challenge.pw_nearestheld_k12_whole_one_format_in_anot) (w := w) (base := base) c_l_some c_l_take c_l_to T_l_unlike_couple
  have c_l_in_powers := c_of_l_in_powers (P := PySem.Challenge.pw_nearestheld_k12_whole_one_format_in_anot) (w := w) (base := base) m_max m_range c_l_take c_l_some c_l_to T_l_in_powers
  have c_l_in_integers := c_of_l_in_integers (P := PySem.Challenge.pw_nearestheld_k12_whole_one_format_in_anot) (w := w) (base := base) m_range m_int c_l_take c_l_to T_l_in_integers
  have c_l_in_decimals := c_of_l_in_decimals (P := PySem.Challenge.pw_nearestheld_k12_whole_one_format_in_anot) (w := w) (base := base) m_max m_len m_str c_l_take c_l_to T_l_in_decimals
  exact ok_law m_range m_min m_max c_l_take c_l_is_lost_right c_l_count c_l_lost c_l_wide_format c_l_one_base c_l_couple c_l_bag c_l_unlike_couple c_l_in_powers c_l_in_integers c_l_in_decimals c_l_some F
end K12
open PySem PySem.W PySem.Calls PyProof.Rows
set_option maxRecDepth 100000 in
set_option maxHeartbeats 0 in
theorem PySem.Challenge.cw_nearestheld_k12_whole_one_format_in_anot_holds : PySem.Challenge.rw_nearestheld_k12_whole_one_format_in_anot.Holds := by
  w_on; o_law
  refine Gd.head_two (r := OpenLaw.row PySem.Challenge.rw_nearestheld_k12_whole_one_format_in_anot) (q := view (OpenLaw.row PySem.Challenge.rw_nearestheld_k12_whole_one_format_in_anot).prog [49]) (H := Gd.hkM K12H.fas K12H.fn K12H.ck) (ob := Gd.obM K12H.fas K12H.fn K12H.ck) (N := 8000) (M := 8000) (loose := K12H.loose) (d := HandSHeadRun.topDef (OpenLaw.row PySem.Challenge.rw_nearestheld_k12_whole_one_format_in_anot).prog 49) (kwd := []) Gd.obM_eq (Nat.le_refl _)
    K12H.runA K12H.runB K12H.hdefT K12H.hpT K12H.hkT (by rfl) (by first | assumption | decide +kernel) K12H.okT K12H.hbT ?hw ?hc
  case hw => w_witness2
  case hc =>
    refine Gd.walk_ofGH (l := PySem.Challenge.rw_nearestheld_k12_whole_one_format_in_anot) (k := 12) (x := "_law_script") (ck := K12H.ck) (fas := K12H.fas) (fn := K12H.fn) rfl rfl ⟨rfl, by decide, by decide⟩ ?F
    intro w K mg fa h KX G hmg c kk
    have hl : mg ("law" : PySem.Str) = some (.ref fa) := by
      have e : (HandSHeadRun.topDef (OpenLaw.row PySem.Challenge.rw_nearestheld_k12_whole_one_format_in_anot).prog 49).name = ("law" : PySem.Str) := K12H.nameT
      rw [← e]
      exact hmg
    exact K12.all_mk KX G hl c kk
