import PyProof.Rows.All
import Wide.All
import OpenK.AllK
import Wide.FinOn
import HandS.ForMost
import HandS.Head0
import HandS.Head1
import HandS.Head2
import HandS.HeadEnd
import HandS.HeadHook1
import HandS.HeadHook2
import HandS.Wide
import HandS.WideBits
import HandS.Gcd
import HandS.TupAny
import HandS.Flow
import HandS.Set
import HandS.SetFor
import HandS.Strs
import HandS.Rev
import HandS.Style
import HandS.TryOnly
import HandS.RaiseMore
import HandS.Deep
import HandS.TupMul
import HandS.Flt
import HandS.Zip
import HandS.IsInst
import HandS.Dict
import KE.KBits
import KE.DataMinMax
import HandS.SortKw
import HandS.More
import KE.GoesEnum
import HandS.Walk
import PyProof.ToksMono
import KE.DataMinKey
import KE.KMathG
import Flt.RightSqrt
import HandS.TupLe
import HandS.Comp
import HandS.CallLocal
import PyProof.AutoSeq1
import HandS.Star
import HandS.IterVal
import HandS.Conv
import KE.KRevSl
import HandS.DictTup
import HandS.Text
import KE.KDictDisplayH
import PyProof.TupleOfSeq
import KE.SortData
import KE.SortKeyHeap
import KE.KSortKey
import HandS.List
import PyProof.Rows.StrOr
import PySem.Challenge.RW_nearestheld_k45_whole_long_texts_that_ti
set_option Elab.async false
set_option linter.all false
set_option maxRecDepth 100000
set_option maxHeartbeats 4000001
namespace Gd
open PySem PySem.Spec PyProof.Rows L2
def repAll (f : Value → PyData → Bool) : List Value → List PyData → Bool
  | [], [] => true
  | v :: vs, d :: ds => f v d && repAll f vs ds
  | _, _ => false
def repB (K : PySem.W.Frag) : Nat → Value → PyData → Bool
  | 0, _, _ => false
  | n + 1, .str y _, .str x => decide (y = x)
  | n + 1, .int j _, .int i => decide (j = i)
  | n + 1, .ref a, .tuple ds => match K.lookup a with
    | some ⟨c, _, .seq its _, _⟩ => decide (c = .type "tuple") && (Nat.ble its.size 60 && repAll (repB K n) its.toList ds)
    | _ => false
  | _ + 1, _, _ => false
def globB (K : PySem.W.Frag) (x : Str) (d : PyData) : Bool := match PySem.W.nsIn K mainGlobals x with
  | some (some v) => repB K 5 v d
  | _ => false
def bltB (K : PySem.W.Frag) (x : Str) (b : String) : Bool := He.eqO (PySem.W.nsIn K mainGlobals x) (some (some (.builtin b)))
def ckM (gl : List (Str × PyData)) (bl : List (Str × String)) (K : PySem.W.Frag) : Bool := gl.all (fun p => globB K p.1 p.2) && bl.all (fun p => bltB K p.1 p.2)
def refsAt (g : Addr → Option Obj) (a : Addr) : List Addr := match g a with
  | some o => He.refsO o
  | none => []
def asM (g : Addr → Option Obj) : List Addr := sysModules :: mainGlobals :: (refsAt g mainGlobals ++ (refsAt g mainGlobals).flatMap (refsAt g))
def hkM (fa : List He.Fa) (fn : List He.DefD) (ck : PySem.W.Frag → Bool) : PySem.W.Hook where
  α := He.AlD × Bool
  obs s := (fun K => (He.obsD fa fn K, ck K)) (He.frG s.heap.get? (asM s.heap.get?))
  val _ := (He.valD fn, true)
  says _ h := ∃ K : PySem.W.Frag, K.In h ∧ He.SaysD fa fn K ∧ ck K = true
  of w s h := ⟨_, He.frG_in, congrArg Prod.fst h, congrArg Prod.snd h⟩
  keeps w h h' := fun ⟨K, k, a, b⟩ up => ⟨K, fun x o e => up x o (k x o e), a, b⟩
def obM (fa : List He.Fa) (fn : List He.DefD) (ck : PySem.W.Frag → Bool) (s : PySem.W.SharedT) : He.AlD × Bool :=
  (fun K => (He.obsD fa fn K, ck K)) (He.frG (HandSHeadRun.getT s) (asM (HandSHeadRun.getT s)))
abbrev dfD (y x : Str) (st : Stmt) : He.DefD := ⟨(y, .none), x, x, defArgs st, defBody st, defScope st, [], []⟩
noncomputable def endG (st : PySem.W.SharedT → Thread → Option (PySem.W.SharedT × Thread)) (M : Nat) (p : Program) (s0 : Shared) : Option PySem.W.SharedT :=
  match HandSHeadRun.putAll s0.heap.objs.toList PySem.W.BT.nil 0 with
  | some (t, n) => HandSHeadRun.frNat n fun n0 => HandSHeadRun.goF st n0 (s0.heap.nsMap mainGlobals (Str.ofString "__annotations__")) M ⟨t, n0, s0.heap.life, s0.gens, s0.drawn, s0.toks, s0.os⟩ (PySem.W.topStub p)
  | none => none
def goI (st : PySem.W.SharedT → Thread → Option (PySem.W.SharedT × Thread)) : Nat → PySem.W.SharedT → Thread → Option PySem.W.SharedT
  | 0, _, _ => none
  | m + 1, s, t => match t.atExitBegin with
    | some [] => some s
    | some (_ :: _) => none
    | none => match st s t with
      | some (s', t') => HandSHeadRun.frS s' fun s' => goI st m s' t'
      | none => none
noncomputable def openI (st : PySem.W.SharedT → Thread → Option (PySem.W.SharedT × Thread)) (N : Nat) (p : Program) : Option Shared :=
  (goI st N ⟨PySem.W.BT.nil, 0, {}, #[], {}, 1, (start (PySem.W.opening p)).1.os⟩ (start (PySem.W.opening p)).2).bind fun s => fenceModules? p s.abs
noncomputable def runI (p : Program) (w : World) (N M : Nat) : Option (Shared × PySem.W.SharedT) :=
  (openI (HandSHeadRun.stepQ (HandSHeadRun.denQ HandSHeadRun.tabQ) (PySem.W.opening p) w) N p).bind fun s0 => (endG (HandSHeadRun.stepQ (HandSHeadRun.denQ HandSHeadRun.tabQ) p w) M p s0).map fun s => (s0, s)
def RunA (r : PySem.W.OpenRow) (q : Program) (N M : Nat) (loose : List Str) (w : World) : Prop :=
  (runI r.prog w N M).map (fun s => ((s.1.heap.isNs mainGlobals && s.1.gens.size == 0) && HandSHeadRun.looksF r.prog s.1.heap s.2.abs, HandSHeadRun.seenQ q loose (importedModules r.prog.main.body) (fun s => PySem.W.xlAt q [] s && PySem.W.recOk r.records s) s.2.abs)) = some (true, PySem.W.openGood q loose)
def RunB (r : PySem.W.OpenRow) (H : PySem.W.Hook) (ob : PySem.W.SharedT → H.α) (N M : Nat) (w : World) : Prop :=
  (runI r.prog w N M).map (fun s => ob s.2) = some (H.val w)
end Gd
namespace K45H
open PySem PySem.Spec PyProof.Rows L2 Gd
def topH (i : Nat) : Stmt := PySem.Challenge.pw_nearestheld_k45_whole_long_texts_that_ti.main.body.getD i (.Pass ⟨0, 0, 0, 0⟩)
def fn0 : List He.DefD := [dfD "integer_power" "integer_power" (topH 7), dfD "is_integer" "is_integer" (topH 8), dfD "is_format" "is_format" (topH 9), dfD "is_way" "is_way" (topH 10), dfD "reduced" "reduced" (topH 12), dfD "times" "times" (topH 13), dfD "size_of" "size_of" (topH 14), dfD "power_of" "power_of" (topH 15), dfD "sign_of_fraction" "sign_of_fraction" (topH 16), dfD "part_of" "part_of" (topH 17), dfD "is_taken_outward" "is_taken_outward" (topH 18), dfD "power_below" "power_below" (topH 19), dfD "_power_within" "_power_within" (topH 20), dfD "_twos_in" "_twos_in" (topH 21), dfD "zero" "zero" (topH 23), dfD "rounded" "rounded" (topH 25), dfD "_spot" "_spot" (topH 26), dfD "_nearest" "_nearest" (topH 27), dfD "_outcome" "_outcome" (topH 28), dfD "_too_great" "_too_great" (topH 29), dfD "digits_in" "digits_in" (topH 32), dfD "decimal_worth" "decimal_worth" (topH 33), dfD "decimal_of" "decimal_of" (topH 34), dfD "parted_sign" "parted_sign" (topH 35), dfD "_signed_integer" "_signed_integer" (topH 36), dfD "read_decimal" "read_decimal" (topH 38), dfD "read" "read" (topH 39), dfD "_law_bag" "_law_bag" (topH 41), dfD "_law_take" "_law_take" (topH 42), dfD "_law_some" "_law_some" (topH 43)]
def fn1 : List He.DefD := [dfD "_law_alike" "_law_alike" (topH 44), dfD "_law_to" "_law_to" (topH 45), dfD "_law_power" "_law_power" (topH 46), dfD "_law_size" "_law_size" (topH 47), dfD "_law_c" "_law_c" (topH 48), dfD "_law_number" "_law_number" (topH 49), dfD "_law_floor" "_law_floor" (topH 50), dfD "_law_next" "_law_next" (topH 51), dfD "_law_compared" "_law_compared" (topH 52), dfD "_law_is_up" "_law_is_up" (topH 53), dfD "_law_rounded" "_law_rounded" (topH 54), dfD "_law_decimal_size" "_law_decimal_size" (topH 55), dfD "_law_read" "_law_read" (topH 56), dfD "_law_ends" "_law_ends" (topH 57), dfD "_law_divisor_by_ten" "_law_divisor_by_ten" (topH 58), dfD "_law_way" "_law_way" (topH 59), dfD "_law_moved" "_law_moved" (topH 60), dfD "law" "law" (topH 61)]
def fn : List He.DefD := fn0 ++ fn1
def fas0 : List He.Fa := [.glo "integer_power", .glo "is_integer", .glo "is_format", .glo "is_way", .glo "reduced", .glo "times", .glo "size_of", .glo "power_of", .glo "sign_of_fraction", .glo "part_of", .glo "is_taken_outward", .glo "power_below", .glo "_power_within", .glo "_twos_in", .glo "zero", .glo "rounded", .glo "_spot", .glo "_nearest", .glo "_outcome", .glo "_too_great", .glo "digits_in", .glo "decimal_worth", .glo "decimal_of", .glo "parted_sign", .glo "_signed_integer", .glo "read_decimal", .glo "read", .glo "_law_bag", .glo "_law_take", .glo "_law_some"]
def fas1 : List He.Fa := [.glo "_law_alike", .glo "_law_to", .glo "_law_power", .glo "_law_size", .glo "_law_c", .glo "_law_number", .glo "_law_floor", .glo "_law_next", .glo "_law_compared", .glo "_law_is_up", .glo "_law_rounded", .glo "_law_decimal_size", .glo "_law_read", .glo "_law_ends", .glo "_law_divisor_by_ten", .glo "_law_way", .glo "_law_moved", .glo "law", .free "abs", .free "all", .free "bool", .free "divmod", .free "int", .free "isinstance", .free "len", .free "max", .free "min", .free "range", .free "repr", .free "reversed"]
def fas2 : List He.Fa := [.free "str", .free "tuple"]
def fas : List He.Fa := fas0 ++ fas1 ++ fas2
def ck (K : PySem.W.Frag) : Bool := ckM [("WAYS", .tuple [.str "even", .str "away", .str "up", .str "down", .str "zero"]), ("DIGITS", .str "0123456789abcdefghijklmnopqrstuvwxyz")] [("gcd", "math.gcd")] K
def loose0 : List Str := ["gcd", "__name__", "NearError", "NoText", "Wrong", "WAYS", "integer_power", "is_integer", "is_format", "is_way", "reduced", "times", "size_of", "power_of", "sign_of_fraction", "part_of", "is_taken_outward", "power_below", "_power_within", "_twos_in", "zero", "rounded", "_spot", "_nearest", "_outcome", "_too_great", "DIGITS", "digits_in", "decimal_worth", "decimal_of"]
def loose1 : List Str := ["parted_sign", "_signed_integer", "read_decimal", "read", "_law_bag", "_law_take", "_law_some", "_law_alike", "_law_to", "_law_power", "_law_size", "_law_c", "_law_number", "_law_floor", "_law_next", "_law_compared", "_law_is_up", "_law_rounded", "_law_decimal_size", "_law_read", "_law_ends", "_law_divisor_by_ten", "_law_way", "_law_moved"]
def loose : List Str := loose0 ++ loose1
theorem runA (w : World) : RunA (PySem.W.OpenLaw.row PySem.Challenge.rw_nearestheld_k45_whole_long_texts_that_ti) (PySem.W.view (PySem.W.OpenLaw.row PySem.Challenge.rw_nearestheld_k45_whole_long_texts_that_ti).prog [61]) 8000 8000 loose w := by
  unfold RunA
  kernel_rfl
theorem runB (w : World) : RunB (PySem.W.OpenLaw.row PySem.Challenge.rw_nearestheld_k45_whole_long_texts_that_ti) (hkM fas fn ck) (obM fas fn ck) 8000 8000 w := by
  unfold RunB
  kernel_rfl
theorem hdefT : PySem.W.defOf (PySem.W.view (PySem.W.OpenLaw.row PySem.Challenge.rw_nearestheld_k45_whole_long_texts_that_ti).prog [61]) (PySem.W.OpenLaw.row PySem.Challenge.rw_nearestheld_k45_whole_long_texts_that_ti).name = some ((HandSHeadRun.topDef (PySem.W.OpenLaw.row PySem.Challenge.rw_nearestheld_k45_whole_long_texts_that_ti).prog 61), []) := by kernel_rfl
theorem hpT : (PySem.W.OpenLaw.row PySem.Challenge.rw_nearestheld_k45_whole_long_texts_that_ti).prog.theDef (PySem.W.OpenLaw.row PySem.Challenge.rw_nearestheld_k45_whole_long_texts_that_ti).name = some ((HandSHeadRun.topDef (PySem.W.OpenLaw.row PySem.Challenge.rw_nearestheld_k45_whole_long_texts_that_ti).prog 61).params, (HandSHeadRun.topDef (PySem.W.OpenLaw.row PySem.Challenge.rw_nearestheld_k45_whole_long_texts_that_ti).prog 61).body, (HandSHeadRun.topDef (PySem.W.OpenLaw.row PySem.Challenge.rw_nearestheld_k45_whole_long_texts_that_ti).prog 61).scope) := by kernel_rfl
theorem hkT : PySem.W.kwWritten? (HandSHeadRun.topDef (PySem.W.OpenLaw.row PySem.Challenge.rw_nearestheld_k45_whole_long_texts_that_ti).prog 61).params.kwonlyargs (HandSHeadRun.topDef (PySem.W.OpenLaw.row PySem.Challenge.rw_nearestheld_k45_whole_long_texts_that_ti).prog 61).params.kw_defaults = some [] := by kernel_rfl
theorem okT : (PySem.W.chainsOk (PySem.W.view (PySem.W.OpenLaw.row PySem.Challenge.rw_nearestheld_k45_whole_long_texts_that_ti).prog [61]) && PySem.W.opensWell (PySem.W.OpenLaw.row PySem.Challenge.rw_nearestheld_k45_whole_long_texts_that_ti).prog && (PySem.W.frees (PySem.W.OpenLaw.row PySem.Challenge.rw_nearestheld_k45_whole_long_texts_that_ti).toRowW && (PySem.W.OpenLaw.row PySem.Challenge.rw_nearestheld_k45_whole_long_texts_that_ti).within.isEmpty)) = true := by decide +kernel
theorem hbT : (PySem.W.OpenLaw.row PySem.Challenge.rw_nearestheld_k45_whole_long_texts_that_ti).prog.bare := ⟨rfl, rfl, rfl, rfl, rfl, by decide +kernel⟩
theorem nameT : (HandSHeadRun.topDef (PySem.W.OpenLaw.row PySem.Challenge.rw_nearestheld_k45_whole_long_texts_that_ti).prog 61).name = ("law" : PySem.Str) := by kernel_rfl
end K45H
namespace Gd
open PySem PySem.Spec PyProof.Rows L2
mutual
inductive Rp (K : PySem.W.Frag) (H : Hp) : V → PyData → Prop
  | non : Rp K H .non .none
  | bl (b : Bool) : Rp K H (.bl b) (.bool b)
  | int (i : Int) : Rp K H (.int i) (.int i)
  | str (x : Str) : Rp K H (.str x) (.str x)
  | lst {a xs ds} (h : H a = some (.lst xs)) (r : RpAll K H xs ds) : Rp K H (.ref a) (.list ds)
  | tup {a xs ds} (h : SqT K H a xs) (r : RpAll K H xs ds) : Rp K H (.ref a) (.tuple ds)
  | dct {a} (h : H a = some (.dK [])) : Rp K H (.ref a) (.dict [])
  | dctT {a} (kvs : List (List Int × Int)) (h : H a = some (.dT (kvs.map fun p => (p.1.map .inl, V.int p.2)))) : Rp K H (.ref a) (.dict (kvs.map fun p => (.tuple (p.1.map .int), .int p.2)))
inductive RpAll (K : PySem.W.Frag) (H : Hp) : List V → List PyData → Prop
  | nil : RpAll K H [] []
  | cons {v vs d ds} (h : Rp K H v d) (r : RpAll K H vs ds) : RpAll K H (v :: vs) (d :: ds)
end
section
variable {K : PySem.W.Frag} {H H' : Hp}
theorem seqT (e : Same H H') {a : Addr} {xs : List V} (h : SqT K H a xs) : SqT K H' a xs := by
  rcases h with (hh | ⟨ob, hh⟩) | hh
  · exact .inl (.inl (e _ _ hh))
  · exact .inl (.inr ⟨ob, e _ _ hh⟩)
  · exact .inr hh
mutual
theorem Rp.mono (e : Same H H') : ∀ {v : V} {d : PyData}, Rp K H v d → Rp K H' v d
  | _, _, .non => .non
  | _, _, .bl b => .bl b
  | _, _, .int i => .int i
  | _, _, .str x => .str x
  | _, _, .lst h r => .lst (e _ _ h) (RpAll.mono e r)
  | _, _, .tup h r => .tup (seqT e h) (RpAll.mono e r)
  | _, _, .dct h => .dct (e _ _ h)
  | _, _, .dctT kvs h => .dctT kvs (e _ _ h)
theorem RpAll.mono (e : Same H H') : ∀ {vs : List V} {ds : List PyData}, RpAll K H vs ds → RpAll K H' vs ds
  | _, _, .nil => .nil
  | _, _, .cons h r => .cons (Rp.mono e h) (RpAll.mono e r)
end
mutual
theorem Rp.dp : ∀ {v : V} {d : PyData}, Rp K H v d → d.hasDict = false → Dp K H v d
  | _, _, .non, _ => .non
  | _, _, .bl b, _ => .bl b
  | _, _, .int i, _ => .int i
  | _, _, .str x, _ => .str x
  | _, _, .lst h r, n => .lst (SqL.of h) (RpAll.dp r (by simpa only [PyData.hasDict] using n))
  | _, _, .tup h r, n => .tup h (RpAll.dp r (by simpa only [PyData.hasDict] using n))
  | _, _, .dct h, n => by simp only [PyData.hasDict] at n; cases n
  | _, _, .dctT kvs h, n => by simp only [PyData.hasDict] at n; cases n
theorem RpAll.dp : ∀ {vs : List V} {ds : List PyData}, RpAll K H vs ds → PyData.hasDictAll ds = false → DpAll K H vs ds
  | _, _, .nil, _ => .nil
  | _, _, .cons h r, n => by
    simp only [PyData.hasDictAll, Bool.or_eq_false_iff] at n
    exact .cons (Rp.dp h n.1) (RpAll.dp r n.2)
end
theorem nd_shaped {d : PyData} (h : SeqAt.shaped d = true) : d.hasDict = false := PyData.hasDict_of_canLay d (by unfold SeqAt.shaped at h; exact (Bool.and_eq_true_iff.mp h).1)
theorem RpAll.length : ∀ {vs : List V} {ds : List PyData}, RpAll K H vs ds → vs.length = ds.length
  | _, _, .nil => rfl
  | _, _, .cons _ r => congrArg (· + 1) (RpAll.length r)
theorem RpAll.get : ∀ {vs : List V} {ds : List PyData} {i : Nat} {v : V}, RpAll K H vs ds → vs[i]? = some v → ∃ d, ds[i]? = some d ∧ Rp K H v d
  | _, _, 0, _, .cons h _, e => by cases e; exact ⟨_, rfl, h⟩
  | _, _, i + 1, _, .cons _ r, e => RpAll.get (i := i) r e
  | _, _, i, _, .nil, e => by simp at e
theorem RpAll.getD : ∀ {vs : List V} {ds : List PyData} {i : Nat} {d : PyData}, RpAll K H vs ds → ds[i]? = some d → ∃ v, vs[i]? = some v ∧ Rp K H v d
  | _, _, 0, _, .cons h _, e => by cases e; exact ⟨_, rfl, h⟩
  | _, _, i + 1, _, .cons _ r, e => RpAll.getD (i := i) r e
  | _, _, i, _, .nil, e => by simp at e
theorem RpAll.app : ∀ {vs ws : List V} {ds es : List PyData}, RpAll K H vs ds → RpAll K H ws es → RpAll K H (vs ++ ws) (ds ++ es)
  | _, _, _, _, .nil, q => q
  | _, _, _, _, .cons h r, q => .cons h (RpAll.app r q)
theorem RpAll.take : ∀ {vs : List V} {ds : List PyData} (n : Nat), RpAll K H vs ds → RpAll K H (vs.take n) (ds.take n)
  | _, _, 0, _ => .nil
  | _, _, _ + 1, .nil => .nil
  | _, _, n + 1, .cons h r => .cons h (RpAll.take n r)
theorem RpAll.drop : ∀ {vs : List V} {ds : List PyData} (n : Nat), RpAll K H vs ds → RpAll K H (vs.drop n) (ds.drop n)
  | _, _, 0, r => r
  | _, _, _ + 1, .nil => .nil
  | _, _, n + 1, .cons _ r => RpAll.drop n r
end
structure Bag where
  x : Int
  y : Int
  z : Int
  cs : List Int
abbrev Gh := Option (Addr × Addr)
def bagCells (B : Bag) (l : Addr) : List V := [.int B.x, .int B.y, .int B.z, .ref l]
structure On (K : PySem.W.Frag) (g : Gh) (B : Bag) (H0 H : Hp) : Prop where
  ex : Same H0 H
  bag : ∀ a l, g = some (a, l) → H0 a = none ∧ H a = some (.lst (bagCells B l)) ∧ H0 l = some (.lst (B.cs.map V.int))
def Off (g : Gh) (a : Addr) : Prop := ∀ l, g ≠ some (a, l)
structure To (g : Gh) (H0 H H0' H' : Hp) : Prop where
  ex : Same H0 H0'
  un : ∀ a o, Off g a → H0 a = none → H a = some o → H0' a = none ∧ H' a = some o
theorem To.refl {g : Gh} {H0 H : Hp} : To g H0 H H0 H := ⟨Same.refl _, fun _ _ _ h1 h2 => ⟨h1, h2⟩⟩
theorem To.trans {g : Gh} {H0 H H1 H' H2 H'' : Hp} (s : To g H0 H H1 H') (t : To g H1 H' H2 H'') : To g H0 H H2 H'' :=
  ⟨s.ex.trans t.ex, fun a o f h1 h2 => let ⟨p, q⟩ := s.un a o f h1 h2; t.un a o f p q⟩
inductive VD where
  | no
  | da (d : PyData)
  | bag
  | scr (ns : List Int)
  | dct (kvs : List (Str × PyData))
  | fn (f : Addr)
  | fns (fs : List Addr)
def Rv (K : PySem.W.Frag) (g : Gh) (H0 : Hp) (v : V) : VD → Prop
  | .no => True
  | .da d => Rp K H0 v d
  | .bag => ∃ a l, g = some (a, l) ∧ v = .ref a
  | .scr ns => ∃ a, v = .ref a ∧ SqL K H0 a (ns.map V.int)
  | .dct kvs => ∃ a xs, v = .ref a ∧ H0 a = some (.dK xs) ∧ xs.map (·.1) = kvs.map (fun kv => Sum.inr kv.1) ∧ RpAll K H0 (xs.map (·.2)) (kvs.map (·.2))
  | .fn f => v = .ref f
  | .fns fs => ∃ a, v = .ref a ∧ H0 a = some (.lst (fs.map V.ref))
theorem Rv.mono {K : PySem.W.Frag} {g : Gh} {H0 H1 : Hp} (e : Same H0 H1) {v : V} : ∀ {d : VD}, Rv K g H0 v d → Rv K g H1 v d
  | .no, h => h
  | .da _, h => Rp.mono e h
  | .bag, h => h
  | .scr _, ⟨a, h1, h2⟩ => ⟨a, h1, e.seq h2⟩
  | .dct _, ⟨a, xs, h1, h2, h3, h4⟩ => ⟨a, xs, h1, e _ _ h2, h3, h4.mono e⟩
  | .fn _, h => h
  | .fns _, ⟨a, h1, h2⟩ => ⟨a, h1, e _ _ h2⟩
def RvAll (K : PySem.W.Frag) (g : Gh) (H0 : Hp) : List V → List VD → Prop
  | [], [] => True
  | v :: vs, d :: ds => Rv K g H0 v d ∧ RvAll K g H0 vs ds
  | _, _ => False
theorem RvAll.mono {K : PySem.W.Frag} {g : Gh} {H0 H1 : Hp} (e : Same H0 H1) : ∀ {vs : List V} {ds : List VD}, RvAll K g H0 vs ds → RvAll K g H1 vs ds
  | [], [], h => h
  | _ :: _, _ :: _, h => ⟨h.1.mono e, RvAll.mono e h.2⟩
  | [], _ :: _, h => h.elim
  | _ :: _, [], h => h.elim
theorem RvAll.length {K : PySem.W.Frag} {g : Gh} {H0 : Hp} : ∀ {vs : List V} {ds : List VD}, RvAll K g H0 vs ds → vs.length = ds.length
  | [], [], _ => rfl
  | _ :: _, _ :: _, h => congrArg (· + 1) (RvAll.length h.2)
  | [], _ :: _, h => h.elim
  | _ :: _, [], h => h.elim
structure EnvD (K : PySem.W.Frag) (g : Gh) (H0 : Hp) (σ : L2.St) (Γ : List VD) : Prop where
  len : σ.length = Γ.length
  at' : ∀ (i : Nat) (d : VD), Γ[i]? = some d → d ≠ .no → ∃ v : V, σ[i]? = some (some v) ∧ Rv K g H0 v d
theorem EnvD.mono {K : PySem.W.Frag} {g : Gh} {H0 H1 : Hp} {σ : L2.St} {Γ : List VD} (e : Same H0 H1) (h : EnvD K g H0 σ Γ) : EnvD K g H1 σ Γ :=
  ⟨h.len, fun i d h1 h2 => let ⟨v, p, q⟩ := h.at' i d h1 h2; ⟨v, p, q.mono e⟩⟩
theorem EnvD.set {K : PySem.W.Frag} {g : Gh} {H0 : Hp} {σ : L2.St} {Γ : List VD} {v : V} {d : VD} (h : EnvD K g H0 σ Γ) (i : Nat) (r : Rv K g H0 v d) : EnvD K g H0 (σ.set i (some v)) (Γ.set i d) := by
  refine ⟨by rw [List.length_set, List.length_set, h.len], fun j e h1 h2 => ?_⟩
  by_cases hj : i = j
  · subst hj
    have hi : i < Γ.length := by
      have := (List.getElem?_eq_some_iff.mp h1).1
      rwa [List.length_set] at this
    rw [List.getElem?_set_self hi] at h1
    cases h1
    exact ⟨v, List.getElem?_set_self (by rw [h.len]; exact hi), r⟩
  · rw [List.getElem?_set_ne hj] at h1 ⊢
    exact h.at' j e h1 h2
def WE (X : Cx) (e : Expr) : TE := fun σ H Q => ∃ t, PE X e t ∧ t σ H Q
def WT (X : Cx) (e : Expr) : TT := fun σ H Q => ∃ t, PT X e t ∧ t σ H Q
def WA (X : Cx) (es : List Expr) : TA := fun σ H Q => ∃ t, PA X es t ∧ t σ H Q
def WS (X : Cx) (ss : List Stmt) : TS := fun D σ H => ∃ t, PSs X ss t ∧ t D σ H
theorem we {X : Cx} (e : Expr) : PE X e (WE X e) := ⟨fun p s σ H Q I ⟨_, ht, h⟩ => ht.run p s σ H Q I h⟩
theorem wt {X : Cx} (e : Expr) : PT X e (WT X e) := ⟨fun p s σ H Q I ⟨_, ht, h⟩ => ht.run p s σ H Q I h⟩
theorem wa {X : Cx} (es : List Expr) : PA X es (WA X es) := ⟨fun o p s σ H Q I ⟨_, ht, h⟩ => ht.run o p s σ H Q I h⟩
theorem ws {X : Cx} (ss : List Stmt) : PSs X ss (WS X ss) := ⟨fun p s σ H D I ⟨_, ht, h⟩ => ht.run p s σ H D I h⟩
def EJ (X : Cx) (Γ : List VD) (B : Bag) (e : Expr) (d : VD) (B' : Bag) : Prop :=
  ∀ g σ H0 H, EnvD X.K g H0 σ Γ → On X.K g B H0 H → ∀ Q : VK,
    (∀ v H0' H', To g H0 H H0' H' → On X.K g B' H0' H' → Rv X.K g H0' v d → Q v H') → WE X e σ H Q
def TJ (X : Cx) (Γ : List VD) (B : Bag) (e : Expr) (b : Bool) (B' : Bag) : Prop :=
  ∀ g σ H0 H, EnvD X.K g H0 σ Γ → On X.K g B H0 H → ∀ Q : Bool → Hp → Prop,
    (∀ H0' H', To g H0 H H0' H' → On X.K g B' H0' H' → Q b H') → WT X e σ H Q
def AJ (X : Cx) (Γ : List VD) (B : Bag) (es : List Expr) (ds : List VD) (B' : Bag) : Prop :=
  ∀ g σ H0 H, EnvD X.K g H0 σ Γ → On X.K g B H0 H → ∀ Q : List V → Hp → Prop,
    (∀ vs H0' H', To g H0 H H0' H' → On X.K g B' H0' H' → RvAll X.K g H0' vs ds → Q vs H') → WA X es σ H Q
structure En where
  nx : List VD → Bag → Prop
  rt : PyData → Bag → Prop
  bk : List VD → Bag → Prop := fun _ _ => False
  ct : List VD → Bag → Prop := fun _ _ => False
structure Gets (X : Cx) (E : En) (g : Gh) (H0 H : Hp) (D : Ends) : Prop where
  nx : ∀ Γ B σ H1 H', E.nx Γ B → To g H0 H H1 H' → EnvD X.K g H1 σ Γ → On X.K g B H1 H' → D.nx σ H'
  rt : ∀ r B v H1 H', E.rt r B → To g H0 H H1 H' → On X.K g B H1 H' → Rp X.K H1 v r → D.rt v H'
  bk : ∀ Γ B σ H1 H', E.bk Γ B → To g H0 H H1 H' → EnvD X.K g H1 σ Γ → On X.K g B H1 H' → D.bk σ H'
  ct : ∀ Γ B σ H1 H', E.ct Γ B → To g H0 H H1 H' → EnvD X.K g H1 σ Γ → On X.K g B H1 H' → D.ct σ H'
theorem Gets.on {X : Cx} {E : En} {g : Gh} {H0 H H1 H' : Hp} {D : Ends} (G : Gets X E g H0 H D) (t : To g H0 H H1 H') : Gets X E g H1 H' D :=
  ⟨fun Γ B σ a b e u => G.nx Γ B σ a b e (t.trans u), fun r B v a b e u => G.rt r B v a b e (t.trans u),
   fun Γ B σ a b e u => G.bk Γ B σ a b e (t.trans u), fun Γ B σ a b e u => G.ct Γ B σ a b e (t.trans u)⟩
def SJ (X : Cx) (Γ : List VD) (B : Bag) (ss : List Stmt) (E : En) : Prop :=
  ∀ g σ H0 H, EnvD X.K g H0 σ Γ → On X.K g B H0 H → ∀ D : Ends, Gets X E g H0 H D → WS X ss D σ H
section
variable {X : Cx} {Γ : List VD} {B B1 B2 B' : Bag} {e a b c : Expr} {es : List Expr} {d da db dc : VD} {pos p : Pos}
theorem laid {K : PySem.W.Frag} {g : Gh} {B : Bag} {H0 H : Hp} {p : Addr} {o : HO} (O : On K g B H0 H) (n : H p = none) :
    To g H0 H (upd H0 p o) (upd H p o) ∧ On K g B (upd H0 p o) (upd H p o) := by
  have n0 : H0 p = none := O.ex.free n
  refine ⟨⟨fun q u h => ?_, fun q u f h1 h2 => ?_⟩, ⟨fun q u h => ?_, fun q l h => ?_⟩⟩
  · rw [upd_ne (ne_of_none h n0)]; exact h
  · have hq := ne_of_none h2 n
    rw [upd_ne hq, upd_ne hq]; exact ⟨h1, h2⟩
  · by_cases hq : q = p
    · subst hq; rw [upd_same] at h ⊢; exact h
    · rw [upd_ne hq] at h ⊢; exact O.ex _ _ h
  · obtain ⟨h1, h2, h3⟩ := O.bag q l h
    have hq := ne_of_none h2 n
    have hl := ne_of_none h3 n0
    rw [upd_ne hq, upd_ne hq, upd_ne hl]; exact ⟨h1, h2, h3⟩
theorem ej_c {v : V} {d : PyData} (h : PE X e (tC v)) (r : ∀ H0, Rp X.K H0 v d) : EJ X Γ B e (.da d) B :=
  fun g σ H0 H _ O Q q => ⟨_, h, q v H0 H To.refl O (r H0)⟩
theorem ej_int {i : Int} {j} : EJ X Γ B (.Constant (.int i) j pos) (.da (.int i)) B := ej_c pe_int fun _ => .int i
theorem ej_bl {i : Bool} {j} : EJ X Γ B (.Constant (.bool i) j pos) (.da (.bool i)) B := ej_c pe_bl fun _ => .bl i
theorem ej_str {i : Str} {j} : EJ X Γ B (.Constant (.str i) j pos) (.da (.str i)) B := ej_c pe_str fun _ => .str i
theorem ej_non {j} : EJ X Γ B (.Constant .none j pos) (.da .none) B := ej_c pe_non fun _ => .non
theorem ej_var (i : Nat) {x : Str} (h : Γ[i]? = some d) (hd : d ≠ .no) (hN : X.N[i]? = some x := by rfl)
    (hv : Vis X.env.scope x := by first | exact Or.inl rfl | exact Or.inr (Or.inl rfl) | exact Or.inr (Or.inr rfl))
    (h1 : (x == ("__debug__" : Str)) = false := by decide) (h2 : (x == ("__classdict__" : Str)) = false := by decide) : EJ X Γ B (.Name x pos) d B :=
  fun g σ H0 H E O Q q => let ⟨v, hs, r⟩ := E.at' i d h hd; ⟨_, pe_var hN hv h1 h2, v, hs, q v H0 H To.refl O r⟩
theorem ej_dat (i : Nat) {x : Str} {d : PyData} (h : Γ[i]? = some (.da d) := by rfl) (hN : X.N[i]? = some x := by rfl)
    (hv : Vis X.env.scope x := by first | exact Or.inl rfl | exact Or.inr (Or.inl rfl) | exact Or.inr (Or.inr rfl))
    (h1 : (x == ("__debug__" : Str)) = false := by decide) (h2 : (x == ("__classdict__" : Str)) = false := by decide) : EJ X Γ B (.Name x pos) (.da d) B :=
  ej_var i h (fun z => nomatch z) hN hv h1 h2
theorem ej_bag (i : Nat) {x : Str} (h : Γ[i]? = some .bag := by rfl) (hN : X.N[i]? = some x := by rfl)
    (hv : Vis X.env.scope x := by first | exact Or.inl rfl | exact Or.inr (Or.inl rfl) | exact Or.inr (Or.inr rfl))
    (h1 : (x == ("__debug__" : Str)) = false := by decide) (h2 : (x == ("__classdict__" : Str)) = false := by decide) : EJ X Γ B (.Name x pos) .bag B :=
  ej_var i h (fun z => nomatch z) hN hv h1 h2
theorem ej_un {r : V → Hp → VK → Prop} (ha : EJ X Γ B a da B1) (hp : ∀ t, PE X a t → PE X e (tUn r t))
    (hr : ∀ g v H0 H, On X.K g B1 H0 H → Rv X.K g H0 v da → ∀ Q : VK, (∀ z H0' H', To g H0 H H0' H' → On X.K g B1 H0' H' → Rv X.K g H0' z d → Q z H') → r v H Q) :
    EJ X Γ B e d B1 := fun g σ H0 H E O Q q =>
  ⟨_, hp _ (we a), ha g σ H0 H E O _ fun v H1 H' t o rv => hr g v H1 H' o rv Q fun z H2 H'' t2 o2 r2 => q z H2 H'' (t.trans t2) o2 r2⟩
theorem ej_bin {r : R2} (ha : EJ X Γ B a da B1) (hb : EJ X Γ B1 b db B2) (hp : ∀ t u, PE X a t → PE X b u → PE X e (tOp r t u))
    (hr : ∀ g v w H0 H, On X.K g B2 H0 H → Rv X.K g H0 v da → Rv X.K g H0 w db → ∀ Q : VK, (∀ z H0' H', To g H0 H H0' H' → On X.K g B2 H0' H' → Rv X.K g H0' z d → Q z H') → r v w H Q) :
    EJ X Γ B e d B2 := fun g σ H0 H E O Q q =>
  ⟨_, hp _ _ (we a) (we b), ha g σ H0 H E O _ fun v H1 H' t o rv => hb g σ H1 H' (E.mono t.ex) o _ fun w H2 H'' t2 o2 rw' =>
    hr g v w H2 H'' o2 (rv.mono t2.ex) rw' Q fun z H3 H3' t3 o3 r3 => q z H3 H3' ((t.trans t2).trans t3) o3 r3⟩
theorem rvI {K : PySem.W.Frag} {g : Gh} {H0 : Hp} {v : V} {i : Int} (h : Rv K g H0 v (.da (.int i))) : v = .int i := by
  have h : Rp K H0 v (.int i) := h
  cases h; rfl
theorem rvB {K : PySem.W.Frag} {g : Gh} {H0 : Hp} {v : V} {i : Bool} (h : Rv K g H0 v (.da (.bool i))) : v = .bl i := by
  have h : Rp K H0 v (.bool i) := h
  cases h; rfl
theorem rvS {K : PySem.W.Frag} {g : Gh} {H0 : Hp} {v : V} {i : Str} (h : Rv K g H0 v (.da (.str i))) : v = .str i := by
  have h : Rp K H0 v (.str i) := h
  cases h; rfl
theorem rvL {K : PySem.W.Frag} {g : Gh} {H0 : Hp} {v : V} {ds : List PyData} (h : Rv K g H0 v (.da (.list ds))) : ∃ a xs, v = .ref a ∧ H0 a = some (.lst xs) ∧ RpAll K H0 xs ds := by
  have h : Rp K H0 v (.list ds) := h
  cases h with
  | lst h1 r => exact ⟨_, _, rfl, h1, r⟩
theorem rvT {K : PySem.W.Frag} {g : Gh} {H0 : Hp} {v : V} {ds : List PyData} (h : Rv K g H0 v (.da (.tuple ds))) : ∃ a xs, v = .ref a ∧ SqT K H0 a xs ∧ RpAll K H0 xs ds := by
  have h : Rp K H0 v (.tuple ds) := h
  cases h with
  | tup h1 r => exact ⟨_, _, rfl, h1, r⟩
theorem ej_ii {i j : Int} {z : Int → Int → V} {y : PyData} {op : Operator} (ha : EJ X Γ B a (.da (.int i)) B1) (hb : EJ X Γ B1 b (.da (.int j)) B2)
    (ho : OpR X (binaryOp op) (rI0 z)) (hz : ∀ H0, Rp X.K H0 (z i j) y) : EJ X Γ B (.BinOp a op b pos) (.da y) B2 :=
  ej_bin ha hb (fun _ _ h1 h2 => pe_op ho h1 h2) fun g v w H0 H O r1 r2 Q q => ⟨i, j, rvI r1, rvI r2, q _ H0 H To.refl O (hz H0)⟩
theorem ej_iic {i j : Int} {C : Int → Int → Prop} {z : Int → Int → V} {y : PyData} {op : Operator} (ha : EJ X Γ B a (.da (.int i)) B1) (hb : EJ X Γ B1 b (.da (.int j)) B2)
    (ho : OpR X (binaryOp op) (rI C z)) (hc : C i j) (hz : ∀ H0, Rp X.K H0 (z i j) y) : EJ X Γ B (.BinOp a op b pos) (.da y) B2 :=
  ej_bin ha hb (fun _ _ h1 h2 => pe_op ho h1 h2) fun g v w H0 H O r1 r2 Q q => ⟨i, j, rvI r1, rvI r2, hc, q _ H0 H To.refl O (hz H0)⟩
theorem ej_add {i j : Int} (ha : EJ X Γ B a (.da (.int i)) B1) (hb : EJ X Γ B1 b (.da (.int j)) B2) : EJ X Γ B (.BinOp a .Add b pos) (.da (.int (i + j))) B2 :=
  ej_ii ha hb op_add fun _ => .int _
theorem ej_sub {i j : Int} (ha : EJ X Γ B a (.da (.int i)) B1) (hb : EJ X Γ B1 b (.da (.int j)) B2) : EJ X Γ B (.BinOp a .Sub b pos) (.da (.int (i - j))) B2 :=
  ej_ii ha hb op_sub fun _ => .int _
theorem ej_mul {i j : Int} (ha : EJ X Γ B a (.da (.int i)) B1) (hb : EJ X Γ B1 b (.da (.int j)) B2) (hc : CMulW i j) : EJ X Γ B (.BinOp a .Mult b pos) (.da (.int (i * j))) B2 :=
  ej_iic ha hb op_mulW hc fun _ => .int _
theorem ej_fdiv {i j : Int} (ha : EJ X Γ B a (.da (.int i)) B1) (hb : EJ X Γ B1 b (.da (.int j)) B2) (hc : CDivW i j) : EJ X Γ B (.BinOp a .FloorDiv b pos) (.da (.int (i / j))) B2 :=
  ej_iic ha hb op_fdivW hc fun _ => .int _
theorem ej_mod {i j : Int} (ha : EJ X Γ B a (.da (.int i)) B1) (hb : EJ X Γ B1 b (.da (.int j)) B2) (hc : 0 < j) : EJ X Γ B (.BinOp a .Mod b pos) (.da (.int (i % j))) B2 :=
  ej_iic ha hb op_mod hc fun _ => .int _
theorem ej_pow {i j : Int} (ha : EJ X Γ B a (.da (.int i)) B1) (hb : EJ X Γ B1 b (.da (.int j)) B2) (hc : CPow i j) : EJ X Γ B (.BinOp a .Pow b pos) (.da (.int (i ^ j.toNat))) B2 :=
  ej_iic ha hb op_pow hc fun _ => .int _
theorem ej_neg {i : Int} (ha : EJ X Γ B a (.da (.int i)) B1) : EJ X Γ B (.UnaryOp .USub a pos) (.da (.int (-i))) B1 :=
  ej_un ha (fun _ h => pe_un un_neg h) fun g v H0 H O r Q q => ⟨i, rvI r, q _ H0 H To.refl O (Rp.int _)⟩
theorem ej_cmpI {i j : Int} {z : Int → Int → V} {y : PyData} {op : CmpOp} (ha : EJ X Γ B a (.da (.int i)) B1) (hb : EJ X Γ B1 b (.da (.int j)) B2)
    (ho : OpR X (compareOp op) (rI0 z)) (hz : ∀ H0, Rp X.K H0 (z i j) y) (hm : behindInMarks op b = false) : EJ X Γ B (.Compare a [op] [b] pos) (.da y) B2 :=
  ej_bin ha hb (fun _ _ h1 h2 => pe_cmpR ho h1 h2 hm) fun g v w H0 H O r1 r2 Q q => ⟨i, j, rvI r1, rvI r2, q _ H0 H To.refl O (hz H0)⟩
theorem ej_lt {i j : Int} (ha : EJ X Γ B a (.da (.int i)) B1) (hb : EJ X Γ B1 b (.da (.int j)) B2) : EJ X Γ B (.Compare a [.Lt] [b] pos) (.da (.bool (decide (i < j)))) B2 :=
  ej_cmpI ha hb op_lt (fun _ => .bl _) (nomark _)
theorem ej_le {i j : Int} (ha : EJ X Γ B a (.da (.int i)) B1) (hb : EJ X Γ B1 b (.da (.int j)) B2) : EJ X Γ B (.Compare a [.LtE] [b] pos) (.da (.bool (decide (i ≤ j)))) B2 :=
  ej_cmpI ha hb op_le (fun _ => .bl _) (nomark _)
theorem ej_gt {i j : Int} (ha : EJ X Γ B a (.da (.int i)) B1) (hb : EJ X Γ B1 b (.da (.int j)) B2) : EJ X Γ B (.Compare a [.Gt] [b] pos) (.da (.bool (decide (j < i)))) B2 :=
  ej_cmpI ha hb op_gt (fun _ => .bl _) (nomark _)
theorem ej_eq {x y : PyData} (hu : X.A.units + 64 < cLine) (ha : EJ X Γ B a (.da x) B1) (hb : EJ X Γ B1 b (.da y) B2) (hx : SeqAt.shaped x = true) (hy : SeqAt.shaped y = true) :
    EJ X Γ B (.Compare a [.Eq] [b] pos) (.da (.bool (PyData.eqv x y))) B2 :=
  ej_bin ha hb (fun _ _ h1 h2 => pe_cmpR (op_eqD hu) h1 h2 (nomark _)) fun g v w H0 H O r1 r2 Q q =>
    ⟨x, y, (Rp.mono O.ex r1).dp (nd_shaped hx), (Rp.mono O.ex r2).dp (nd_shaped hy), hx, hy, q _ H0 H To.refl O (Rp.bl _)⟩
theorem ej_eqI {i j : Int} (hu : X.A.units + 64 < cLine) (ha : EJ X Γ B a (.da (.int i)) B1) (hb : EJ X Γ B1 b (.da (.int j)) B2) : EJ X Γ B (.Compare a [.Eq] [b] pos) (.da (.bool (decide (i = j)))) B2 := by
  have h := ej_eq (pos := pos) hu ha hb rfl rfl
  have e : PyData.eqv (.int i) (.int j) = decide (i = j) := by simp only [PyData.eqv]; exact Bool.beq_eq_decide_eq i j
  rw [e] at h; exact h
theorem ej_eqS {i j : Str} (ha : EJ X Γ B a (.da (.str i)) B1) (hb : EJ X Γ B1 b (.da (.str j)) B2) : EJ X Γ B (.Compare a [.Eq] [b] pos) (.da (.bool (decide (i = j)))) B2 :=
  ej_bin ha hb (fun _ _ h1 h2 => pe_cmpR op_eq h1 h2 (nomark _)) fun g v w H0 H O r1 r2 Q q => by
    rw [rvS r1, rvS r2]
    have e : decide (V.str i = V.str j) = decide (i = j) := by
      by_cases h : i = j
      · subst h; simp
      · rw [decide_eq_false h, decide_eq_false fun z => h (V.str.inj z)]
    refine ⟨rfl, ?_⟩
    rw [e]; exact q _ H0 H To.refl O (Rp.bl _)
theorem ej_ixT {ds : List PyData} {i : Int} {y : PyData} (ha : EJ X Γ B a (.da (.tuple ds)) B1) (hb : EJ X Γ B1 b (.da (.int i)) B2) (h : atI ds i = some y) (hs : PlainIx b) :
    EJ X Γ B (.Subscript a b pos) (.da y) B2 :=
  ej_bin ha hb (fun _ _ h1 h2 => pe_ix ix_tup h1 h2 hs) fun g v w H0 H O r1 r2 Q q => by
    obtain ⟨p, xs, rfl, hx, rs⟩ := rvT r1
    obtain ⟨j, h1, h2⟩ := Option.bind_eq_some_iff.mp h
    rw [← rs.length] at h1
    obtain ⟨z, h3, h4⟩ := rs.getD h2
    exact ⟨p, xs, i, z, rfl, rvI r2, seqT O.ex hx, Option.bind_eq_some_iff.mpr ⟨j, h1, h3⟩, q z H0 H To.refl O h4⟩
theorem ej_ixL {ds : List PyData} {i : Int} {y : PyData} (ha : EJ X Γ B a (.da (.list ds)) B1) (hb : EJ X Γ B1 b (.da (.int i)) B2) (h : atI ds i = some y) (hs : PlainIx b) :
    EJ X Γ B (.Subscript a b pos) (.da y) B2 :=
  ej_bin ha hb (fun _ _ h1 h2 => pe_ix ix_list h1 h2 hs) fun g v w H0 H O r1 r2 Q q => by
    obtain ⟨p, xs, rfl, hx, rs⟩ := rvL r1
    obtain ⟨j, h1, h2⟩ := Option.bind_eq_some_iff.mp h
    rw [← rs.length] at h1
    obtain ⟨z, h3, h4⟩ := rs.getD h2
    exact ⟨p, xs, i, z, rfl, rvI r2, SqL.of (O.ex _ _ hx), Option.bind_eq_some_iff.mpr ⟨j, h1, h3⟩, q z H0 H To.refl O h4⟩
theorem aj_nil : AJ X Γ B [] [] B := fun g σ H0 H _ O Q q => ⟨_, pa_nil, q [] H0 H To.refl O trivial⟩
theorem aj_cons {ds : List VD} (h : EJ X Γ B e d B1) (r : AJ X Γ B1 es ds B2) (hs : starEach (e :: es) X.env = (false, eval e X.env) :: starEach es X.env := by rfl) :
    AJ X Γ B (e :: es) (d :: ds) B2 := fun g σ H0 H E O Q q =>
  ⟨_, pa_cons (we e) (wa es) hs, h g σ H0 H E O _ fun v H1 H' t o rv => r g σ H1 H' (E.mono t.ex) o _ fun vs H2 H'' t2 o2 rs => q (v :: vs) H2 H'' (t.trans t2) o2 ⟨rv.mono t2.ex, rs⟩⟩
theorem RvAll.dat {K : PySem.W.Frag} {g : Gh} {H0 : Hp} : ∀ {vs : List V} {ds : List PyData}, RvAll K g H0 vs (ds.map .da) → RpAll K H0 vs ds
  | [], [], _ => .nil
  | _ :: _, _ :: _, h => .cons h.1 (RvAll.dat h.2)
  | [], _ :: _, h => h.elim
  | _ :: _, [], h => h.elim
theorem ej_tup {ds : List PyData} {k} (h : AJ X Γ B es (ds.map .da) B1) (hl : ds.length ≤ 1000) : EJ X Γ B (.Tuple es k pos) (.da (.tuple ds)) B1 := fun g σ H0 H E O Q q =>
  ⟨_, pe_tup (wa es), h g σ H0 H E O _ fun vs H1 H' t o rs => by
    have rs := RvAll.dat rs
    refine ⟨by rw [rs.length]; exact Nat.le_of_lt (small1000 hl), fun p n => ?_⟩
    obtain ⟨t2, o2⟩ := laid (o := .tup vs) o n
    exact q _ _ _ (t.trans t2) o2 (Rp.tup (SqT.of upd_same) (rs.mono t2.ex))⟩
theorem ej_lst {ds : List PyData} (h : AJ X Γ B es (ds.map .da) B1) (hl : ds.length ≤ 1000) : EJ X Γ B (.List es pos) (.da (.list ds)) B1 := fun g σ H0 H E O Q q =>
  ⟨_, pe_lst (wa es), h g σ H0 H E O _ fun vs H1 H' t o rs => by
    have rs := RvAll.dat rs
    refine ⟨by rw [rs.length]; exact Nat.le_of_lt (small1000 hl), fun p n => ?_⟩
    obtain ⟨t2, o2⟩ := laid (o := .lst vs) o n
    exact q _ _ _ (t.trans t2) o2 (Rp.lst upd_same (rs.mono t2.ex))⟩
theorem ej_catL {ds es' : List PyData} (ha : EJ X Γ B a (.da (.list ds)) B1) (hb : EJ X Γ B1 b (.da (.list es')) B2) (hl : ds.length + es'.length ≤ 1000) :
    EJ X Γ B (.BinOp a .Add b pos) (.da (.list (ds ++ es'))) B2 :=
  ej_bin ha hb (fun _ _ h1 h2 => pe_op op_cat h1 h2) fun g v w H0 H O r1 r2 Q q => by
    obtain ⟨p, xs, rfl, hx, rs⟩ := rvL r1
    obtain ⟨p2, ys, rfl, hy, rs2⟩ := rvL r2
    refine ⟨p, p2, xs, ys, rfl, rfl, O.ex _ _ hx, O.ex _ _ hy, by rw [rs.length, rs2.length]; exact Nat.le_of_lt (small1000 hl), fun n hn => ?_⟩
    obtain ⟨t2, o2⟩ := laid (o := .lst (xs ++ ys)) O hn
    exact q _ _ _ t2 o2 (Rp.lst upd_same ((rs.app rs2).mono t2.ex))
end
end Gd
namespace Gd
open PySem PySem.Spec PyProof.Rows L2
structure FnG (P : Program) (w : World) (K : PySem.W.Frag) (mg : Str → Option Value)
    (base : Heap) (k : Nat) (f : Addr) (fd : FuncData) (ps : List Str) (sp : Sp) : Prop where
  len : ∀ vs H Q E, sp vs H Q E → List.length vs = ps.length
  run : ∀ (A : Around) (out : List Env) (s : Shared) (H : Hp) (args : Args) (us : List Value) (vs : List V) (Q : VK) (E : XK),
    A.guards = some [] → Room k A → Env0 P w K mg base A out s H → BindsTo s fd args (ps.zip us) →
    Vals vs us → sp vs H Q E → codeAny (model P w) A (.call (.ref f) args) (CR CX0 out P w H s Q E) s
theorem FnG.le {P : Program} {w : World} {K : PySem.W.Frag} {mg : Str → Option Value} {base : Heap} {j k : Nat} {f : Addr} {fd : FuncData} {ps : List Str} {sp : Sp}
    (F : FnG P w K mg base j f fd ps sp) (h : j ≤ k) : FnG P w K mg base k f fd ps sp :=
  ⟨F.len, fun A o s H ar us vs Q E hg hr => F.run A o s H ar us vs Q E hg (hr.mono h)⟩
structure Gx (k : Nat) (X : Cx) : Prop where
  gd : X.A.guards = some []
  rm : Room k X.A
  nd : X.N.Nodup
  calm : X.calm = true
theorem Gx.hu {k : Nat} {X : Cx} (g : Gx k X) : X.A.units + 64 < cLine := g.rm.units
theorem Gx.le {j k : Nat} {X : Cx} (g : Gx k X) (h : j ≤ k) : Gx j X := ⟨g.gd, g.rm.mono h, g.nd, g.calm⟩
theorem runG {X : Cx} {k : Nat} {f : Addr} {fd : FuncData} {ps : List Str} {sp : Sp} {E : XK} {pins : List (Addr × Obj)} {σ : L2.St} {H : Hp} {s : Shared}
    {Q : VK} {us : List Value} {vs : List V} (F : FnG X.prog X.w X.K X.mg X.base k f fd ps sp) (g : Gx k X) (hb : Binds X.K fd ps [])
    (I : Inv X pins σ H s) (r : Vals vs us) (h : sp vs H Q E) : wpAny (model X.prog X.w) X.A (call (.ref f) us) (EP X pins σ Q) X.xe s := by
  have e : us.length = ps.length := r.length.symm.trans (F.len _ _ _ _ h)
  have hz := hb s us I.kIn (by rw [List.append_nil]; exact e)
  rw [List.append_nil] at hz
  have cc := F.run X.A X.stack s H ⟨us, []⟩ us vs Q E g.gd g.rm I.env0 hz r h
  refine wpAny_call (codeAny_mono cc fun res s2 q => ?_)
  match res, q with
  | .ok (.ret _), q => exact I.after q
  | .ok .next, q => exact q.elim
  | .ok .brk, q => exact q.elim
  | .ok .cont, q => exact q.elim
  | .error _, q => exact q.elim
theorem fnG_of {P : Program} {w : World} {K : PySem.W.Frag} {mg : Str → Option Value} {base : Heap} {x qual : Str} {st : Stmt} {f : Addr} {fd : FuncData}
    {N ps : List Str} {k : Nat} {sp : Sp} (F : Fun K x qual st f fd) (S : FnScope N ps (defScope st)) (len : ∀ vs H Q E, sp vs H Q E → vs.length = ps.length)
    (body : ∀ (cdv : Value) (A : Around) (out : List Env) (s : Shared) (H : Hp) (vs : List V) (Q : VK) (E : XK),
      Gx k (cxOf CX0 P w K mg base N qual (defScope st) f cdv A out s H E).nox → sp vs H Q E →
      WS (cxOf CX0 P w K mg base N qual (defScope st) f cdv A out s H E).nox (defBody st) { nx := fun _ H' => Q .non H', rt := Q } (L2.start N vs) H) :
    FnG P w K mg base (k + 1) f fd ps sp := by
  obtain ⟨c1, c2, c3, c4, c5, c6, cdv, c8, c9, rfl, lk, hcd⟩ := F.ex
  refine ⟨len, ?_⟩
  intro A out s H args us vs Q E hg hr e0 hb r hsp
  have up : ∀ b o, base.get? b = some o → s.heap.get? b = some o := fun b o e => (e0.bs b o e).1
  have KX : K.In s.heap := e0.mod.kin.keeps up
  have lim : s.heap.NoLimit := e0.mod.nolimit.keeps up
  have kinds : ∀ y ∈ ps.zip us, (defScope st).names.lookup y.1 = some .local ∨
      ((defScope st).names.lookup y.1 = some .cell ∧ ((cellsFrom (s.heap.objs.size + 1) (defScope st).names []).lookup y.1).isSome = true) := by
    rintro ⟨n, v⟩ hy
    cases S.par n (List.of_mem_zip hy).1 with
    | inl q => exact .inl q
    | inr q => exact .inr ⟨q, PySem.W.cellsFrom_some _ _ _ (.inl q)⟩
  have recd := PySem.W.codeRec_of KX hcd
  refine codeAny_call_function hr.depth (KX _ _ lk) rfl S.co S.gen rfl recd (hb _ _ _ _ ?_)
  refine wpAny_newFunctionEnv_cells S.kind kinds fun env he s1 x1 => ?_
  subst he
  refine ⟨lim.keeps x1.toInCall.keep, codeAny_func ?_⟩
  have I := inv_start (CX := CX0) (E := E) (qual := qual) (f := f) (cd := cdv) S hr.hd e0 (len _ _ _ _ hsp) r x1
  have G : Gx k (cxOf CX0 P w K mg base N qual (defScope st) f cdv A out s H E).nox := ⟨hg, hr.deeper _, S.nd, rfl⟩
  obtain ⟨t, ht, hq⟩ := body cdv A out s H vs Q E G hsp
  refine wpAny_mono (ht.nox.run [] s1 (L2.start N vs) H _ I hq) (fun fl s2 q => ?_) (fun _ _ q => q)
  match fl, q with
  | .ret u, ⟨v, σ', H', J, rv, q⟩ => exact ⟨v, H', J.os, J.bare, J.base, J.hok, rv, q⟩
  | .next, ⟨σ', H', J, q⟩ => exact ⟨.non, H', J.os, J.bare, J.base, J.hok, rfl, q⟩
  | .brk, ⟨_, _, _, q⟩ => exact q.elim
  | .cont, ⟨_, _, _, q⟩ => exact q.elim
abbrev Rel := List VD → Bag → PyData → Bag → Prop
def DefSp (K : PySem.W.Frag) (R : Rel) : Sp := fun vs H Q _ =>
  ∃ g Γ B H0 r B', RvAll K g H0 vs Γ ∧ On K g B H0 H ∧ R Γ B r B' ∧
    ∀ v H0' H', To g H0 H H0' H' → On K g B' H0' H' → Rp K H0' v r → Q v H'
def Cal (P : Program) (w : World) (K : PySem.W.Frag) (mg : Str → Option Value) (base : Heap) (x : Str) (k : Nat) (R : Rel) : Prop :=
  ∃ f fd ps, FnG P w K mg base k f fd ps (DefSp K R) ∧ mg x = some (.ref f) ∧ PySem.W.keepIn K (.ref f) = true ∧ Binds K fd ps []
theorem Cal.imp {P : Program} {w : World} {K : PySem.W.Frag} {mg : Str → Option Value} {base : Heap} {x : Str} {k : Nat} {R R' : Rel}
    (c : Cal P w K mg base x k R) (h : ∀ Γ B r B', R' Γ B r B' → R Γ B r B') : Cal P w K mg base x k R' := by
  obtain ⟨f, fd, ps, F, h1, h2, h3⟩ := c
  refine ⟨f, fd, ps, ⟨?_, ?_⟩, h1, h2, h3⟩
  · rintro vs H Q E ⟨g, Γ, B, H0, r, B', a, b, c, d⟩
    exact F.len vs H Q E ⟨g, Γ, B, H0, r, B', a, b, h _ _ _ _ c, d⟩
  · intro A o s H ar us vs Q E q1 q2 q3 q4 q5 ⟨g, Γ, B, H0, r, B', a, b, c, d⟩
    exact F.run A o s H ar us vs Q E q1 q2 q3 q4 q5 ⟨g, Γ, B, H0, r, B', a, b, h _ _ _ _ c, d⟩
theorem start_env {K : PySem.W.Frag} {g : Gh} {H0 : Hp} {N : List Str} {vs : List V} {Γ : List VD} (h : RvAll K g H0 vs Γ) (hl : Γ.length ≤ N.length) :
    EnvD K g H0 (L2.start N vs) (Γ ++ List.replicate (N.length - Γ.length) .no) := by
  have e := h.length
  refine ⟨?_, ?_⟩
  · unfold L2.start; rw [List.length_append, List.length_append, List.length_map, List.length_replicate, List.length_replicate]; omega
  · have : ∀ (vs : List V) (Γ : List VD) (m n : Nat), RvAll K g H0 vs Γ → ∀ (i : Nat) (d : VD), (Γ ++ List.replicate m .no)[i]? = some d → d ≠ .no →
        ∃ v : V, (vs.map some ++ List.replicate n (none : Option V))[i]? = some (some v) ∧ Rv K g H0 v d := by
      intro vs
      induction vs with
      | nil =>
        intro Γ m n h i d h1 h2
        cases Γ with
        | nil =>
          rw [List.nil_append, List.getElem?_replicate] at h1
          split at h1
          · cases h1; exact absurd rfl h2
          · cases h1
        | cons _ _ => exact h.elim
      | cons v vs ih =>
        intro Γ m n h i d h1 h2
        cases Γ with
        | nil => exact h.elim
        | cons d' Γ =>
          cases i with
          | zero => cases h1; exact ⟨v, rfl, h.1⟩
          | succ i => exact ih Γ m n h.2 i d h1 h2
    unfold L2.start
    exact this vs Γ _ _ h
theorem cal_of {P : Program} {w : World} {K : PySem.W.Frag} {mg : Str → Option Value} {base : Heap} {x qual : Str} {st : Stmt} {f : Addr} {fd : FuncData}
    {N ps : List Str} {k : Nat} {R : Rel} (F : Fun K x qual st f fd) (hm : mg x = some (.ref f)) (hb : Binds K fd ps []) (S : FnScope N ps (defScope st))
    (len : ∀ Γ B r B', R Γ B r B' → Γ.length = ps.length)
    (body : ∀ (cdv : Value) (A : Around) (out : List Env) (s : Shared) (H : Hp) (E : XK),
      Gx k (cxOf CX0 P w K mg base N qual (defScope st) f cdv A out s H E).nox → ∀ Γ B r B', R Γ B r B' →
      SJ (cxOf CX0 P w K mg base N qual (defScope st) f cdv A out s H E).nox (Γ ++ List.replicate (N.length - ps.length) .no) B (defBody st)
        { nx := fun _ B2 => r = .none ∧ B2 = B', rt := fun d B2 => d = r ∧ B2 = B' }) :
    Cal P w K mg base x (k + 1) R := by
  have hpl : ps.length ≤ N.length := by
    have := congrArg List.length S.pre
    rw [List.length_take] at this; omega
  refine ⟨f, fd, ps, fnG_of F S ?_ ?_, hm, F.kp, hb⟩
  · rintro vs H Q E ⟨g, Γ, B, H0, r, B', a, b, c, d⟩
    rw [a.length]; exact len _ _ _ _ c
  · intro cdv A out s H vs Q E G ⟨g, Γ, B, H0, r, B', a, b, c, d⟩
    have hl := len _ _ _ _ c
    have E0' := start_env (N := N) a (by rw [hl]; exact hpl)
    rw [hl] at E0'
    refine body cdv A out s H E G Γ B r B' c g _ H0 H E0' b _ ⟨?_, ?_, ?_, ?_⟩
    · rintro Γ2 B2 σ H1 H' ⟨rfl, rfl⟩ t _ o
      exact d _ _ _ t o .non
    · rintro r2 B2 v H1 H' ⟨rfl, rfl⟩ t o rv
      exact d _ _ _ t o rv
    · intro _ _ _ _ _ z; exact z.elim
    · intro _ _ _ _ _ z; exact z.elim
section
variable {X : Cx} {Γ : List VD} {B B1 B2 B' : Bag} {e a b c : Expr} {es : List Expr} {d da db dc : VD} {pos p pos' : Pos} {rest ss s1 s2 : List Stmt} {E : En}
theorem ej_call {x : Str} {k : Nat} {R : Rel} {ds : List VD} {r : PyData} (c : Cal X.prog X.w X.K X.mg X.base x k R) (g : Gx k X) (ha : AJ X Γ B (e :: es) ds B1) (hR : R ds B1 r B2)
    (hg : Gl X x := by rfl) (hdb : (x == ("__debug__" : Str)) = false := by decide) (he : starEach (e :: es) X.env = (false, eval e X.env) :: starEach es X.env := by rfl)
    (hpl : (backTo pos (starEach es X.env)).any (·.1) = false := by rfl) : EJ X Γ B (.Call (.Name x p) (e :: es) [] pos) (.da r) B2 := by
  obtain ⟨f, fd, ps, F, hm, hk, hb⟩ := c
  intro gh σ H0 H E O Q q
  refine ⟨fun σ H Q => WA X (e :: es) σ H fun vs H1 => DefSp X.K R vs H1 Q E0, ⟨fun pins s σ H Q I h => ?_⟩, ?_⟩
  · refine wpAny_Call_Name_kw (ld_glob I hg hm ?_ hdb)
    refine PySem.W.callWith_K (h₀ := X.base) I.ok.mod.kin hk (thn ((wa (e :: es)).run pos pins s σ H _ I h) ?_) he hpl
    rintro us s1 ⟨vs, H1, I1, r1, q1⟩
    exact ⟨I1.kIn, runG F g hb I1 r1 q1⟩
  · refine ha gh σ H0 H E O _ fun vs H1 H' t o rs => ?_
    exact ⟨gh, ds, B1, H1, r, B2, rs, o, hR, fun v H2 H'' t2 o2 rv => q v H2 H'' (t.trans t2) o2 rv⟩
theorem ej_callB {x : Str} {id : String} {r : List V → Hp → VK → Prop} {ds : List VD} (hc : CallR X (.builtin id) r) (hm : X.mg x = none) (ha : AJ X Γ B (e :: es) ds B1)
    (hr : ∀ g vs H0 H, On X.K g B1 H0 H → RvAll X.K g H0 vs ds → ∀ Q : VK, (∀ z H0' H', To g H0 H H0' H' → On X.K g B1 H0' H' → Rv X.K g H0' z d → Q z H') → r vs H Q)
    (hv : bootBuiltins x = some (.builtin id) := by decide +kernel) (hg : Gl X x := by rfl) (hn : x ≠ "__name__" := by decide) (hdb : (x == ("__debug__" : Str)) = false := by decide)
    (hpl : (backTo pos (starEach es X.env)).any (·.1) = false := by rfl) (he : starEach (e :: es) X.env = (false, eval e X.env) :: starEach es X.env := by rfl) :
    EJ X Γ B (.Call (.Name x p) (e :: es) [] pos) d B1 := fun g σ H0 H E O Q q =>
  ⟨_, pe_callB hc hg hm hv (wa (e :: es)) hn hdb he hpl, ha g σ H0 H E O _ fun vs H1 H' t o rs => hr g vs H1 H' o rs Q fun z H2 H'' t2 o2 rz => q z H2 H'' (t.trans t2) o2 rz⟩
theorem ej_callTy {x : Str} {T : String} {r : List V → Hp → VK → Prop} {ds : List VD} (hc : CallR X (.type T) r) (hm : X.mg x = none) (ha : AJ X Γ B (e :: es) ds B1)
    (hr : ∀ g vs H0 H, On X.K g B1 H0 H → RvAll X.K g H0 vs ds → ∀ Q : VK, (∀ z H0' H', To g H0 H H0' H' → On X.K g B1 H0' H' → Rv X.K g H0' z d → Q z H') → r vs H Q)
    (hv : bootBuiltins x = some (.type T) := by decide +kernel) (hg : Gl X x := by rfl) (hn : x ≠ "__name__" := by decide) (hdb : (x == ("__debug__" : Str)) = false := by decide)
    (hpl : (backTo pos (starEach es X.env)).any (·.1) = false := by rfl) (he : starEach (e :: es) X.env = (false, eval e X.env) :: starEach es X.env := by rfl) :
    EJ X Γ B (.Call (.Name x p) (e :: es) [] pos) d B1 := fun g σ H0 H E O Q q =>
  ⟨_, pe_callTy hc hg hm hv (wa (e :: es)) hn hdb he hpl, ha g σ H0 H E O _ fun vs H1 H' t o rs => hr g vs H1 H' o rs Q fun z H2 H'' t2 o2 rz => q z H2 H'' (t.trans t2) o2 rz⟩
theorem rv1 {K : PySem.W.Frag} {g : Gh} {H0 : Hp} {vs : List V} {d : VD} (h : RvAll K g H0 vs [d]) : ∃ v, vs = [v] ∧ Rv K g H0 v d := by
  match vs, h with
  | [v], h => exact ⟨v, rfl, h.1⟩
theorem rv2 {K : PySem.W.Frag} {g : Gh} {H0 : Hp} {vs : List V} {d d' : VD} (h : RvAll K g H0 vs [d, d']) : ∃ v v', vs = [v, v'] ∧ Rv K g H0 v d ∧ Rv K g H0 v' d' := by
  match vs, h with
  | [v, v'], h => exact ⟨v, v', rfl, h.1, h.2.1⟩
theorem ej_abs {i : Int} (hm : X.mg "abs" = none) (ha : EJ X Γ B a (.da (.int i)) B1) (hs : starEach [a] X.env = [(false, eval a X.env)] := by rfl) (hg : Gl X "abs" := by rfl) :
    EJ X Γ B (.Call (.Name "abs" p) [a] [] pos) (.da (.int (if i < 0 then -i else i))) B1 :=
  ej_callB call_abs hm (aj_cons ha aj_nil hs) (fun g vs H0 H O r Q q => by
    obtain ⟨v, rfl, h⟩ := rv1 r
    exact ⟨i, by rw [rvI h], q _ _ _ To.refl O (Rp.int _)⟩) (hg := hg) (he := hs)
theorem ej_int1 {i : Int} (hm : X.mg "int" = none) (ha : EJ X Γ B a (.da (.int i)) B1) (hs : starEach [a] X.env = [(false, eval a X.env)] := by rfl) (hg : Gl X "int" := by rfl) :
    EJ X Γ B (.Call (.Name "int" p) [a] [] pos) (.da (.int i)) B1 :=
  ej_callTy call_int1 hm (aj_cons ha aj_nil hs) (fun g vs H0 H O r Q q => by
    obtain ⟨v, rfl, h⟩ := rv1 r
    exact .inl ⟨i, by rw [rvI h], q _ _ _ To.refl O (Rp.int _)⟩) (hg := hg) (he := hs)
theorem ej_lenL {ds : List PyData} (hm : X.mg "len" = none) (ha : EJ X Γ B a (.da (.list ds)) B1) (hs : starEach [a] X.env = [(false, eval a X.env)] := by rfl) (hg : Gl X "len" := by rfl) :
    EJ X Γ B (.Call (.Name "len" p) [a] [] pos) (.da (.int ds.length)) B1 :=
  ej_callB call_len_seq hm (aj_cons ha aj_nil hs) (fun g vs H0 H O r Q q => by
    obtain ⟨v, rfl, h⟩ := rv1 r
    obtain ⟨p, xs, rfl, hx, rs⟩ := rvL h
    refine ⟨p, xs, rfl, .inl (SqL.of (O.ex _ _ hx)), ?_⟩
    rw [rs.length]; exact q _ _ _ To.refl O (Rp.int _)) (hg := hg) (he := hs)
theorem ej_lenT {ds : List PyData} (hm : X.mg "len" = none) (ha : EJ X Γ B a (.da (.tuple ds)) B1) (hs : starEach [a] X.env = [(false, eval a X.env)] := by rfl) (hg : Gl X "len" := by rfl) :
    EJ X Γ B (.Call (.Name "len" p) [a] [] pos) (.da (.int ds.length)) B1 :=
  ej_callB call_len_seq hm (aj_cons ha aj_nil hs) (fun g vs H0 H O r Q q => by
    obtain ⟨v, rfl, h⟩ := rv1 r
    obtain ⟨p, xs, rfl, hx, rs⟩ := rvT h
    refine ⟨p, xs, rfl, .inr (seqT O.ex hx), ?_⟩
    rw [rs.length]; exact q _ _ _ To.refl O (Rp.int _)) (hg := hg) (he := hs)
structure Shows (d : PyData) : Prop where
  sh : d.showable = true
  nd : d.hasDict = false
  dp : d.depth ≤ 60
  len : d.shown.length ≤ sizeLine
theorem call_repr {k : Nat} (g : Gx k X) : CallR X (.builtin "repr") (fun xs H Q => ∃ x d, xs = [x] ∧ Dp X.K H x d ∧ (∃ p, x = .ref p) ∧ Shows d ∧ Q (.str d.shown) H) := by
  intro pins s σ H xs us Q I rr h
  obtain ⟨x, d, rfl, hd, ⟨p, rfl⟩, S, q⟩ := h
  obtain ⟨u, rfl, rx⟩ := vals1 rr
  cases (show u = Value.ref p from rx)
  obtain ⟨as, rd⟩ := Dp.reads I d (.ref p) (.ref p) hd rfl
  have hu := g.rm.un
  refine repr_of_reads' rd S.sh (fun z => by rw [S.nd] at z; cases z) g.gd (by have := S.dp; omega) (fun _ _ e => e) (fun h' u tk kp => ?_) S.len
  exact ⟨.str d.shown, H, I.kept (t' := tk) kp, ⟨u, rfl⟩, q⟩
def boxed : PyData → Bool
  | .list _ => true
  | .tuple _ => true
  | _ => false
theorem ej_repr {k : Nat} {y : PyData} (g : Gx k X) (hm : X.mg "repr" = none) (ha : EJ X Γ B a (.da y) B1) (hb : boxed y = true) (S : Shows y)
    (hs : starEach [a] X.env = [(false, eval a X.env)] := by rfl) (hg : Gl X "repr" := by rfl) :
    EJ X Γ B (.Call (.Name "repr" p) [a] [] pos) (.da (.str y.shown)) B1 :=
  ej_callB (call_repr g) hm (aj_cons ha aj_nil hs) (fun gh vs H0 H O r Q q => by
    obtain ⟨v, rfl, h⟩ := rv1 r
    have h : Rp X.K H0 v y := h
    refine ⟨v, y, rfl, (h.mono O.ex).dp S.nd, ?_, S, q _ _ _ To.refl O (Rp.str _)⟩
    cases h with
    | lst _ _ => exact ⟨_, rfl⟩
    | tup _ _ => exact ⟨_, rfl⟩
    | non => cases hb
    | bl _ => cases hb
    | int _ => cases hb
    | str _ => cases hb
    | dct _ => cases hb
    | dctT _ _ => cases hb) (hg := hg) (he := hs)
theorem tj_val {x : Bool} (h : EJ X Γ B e (.da (.bool x)) B1) (he : ∀ whole, isTrue e X.env whole = (do let v ← whole; standAt e.pos; holding [v] (truthy v)) := by intro _; rfl) :
    TJ X Γ B e x B1 := fun g σ H0 H E O Q q => ⟨_, pt_val (we e) he, h g σ H0 H E O _ fun v H1 H' t o r => ⟨x, rvB r, q H1 H' t o⟩⟩
theorem tj_cmp {op : CmpOp} {x : Bool} {r : R2} (ha : EJ X Γ B a da B1) (hb : EJ X Γ B1 b db B2) (ho : OpR X (compareOp op) r) (hm : behindInMarks op b = false)
    (hr : ∀ g v w H0 H, On X.K g B2 H0 H → Rv X.K g H0 v da → Rv X.K g H0 w db → ∀ Q : VK, (∀ H0' H', To g H0 H H0' H' → On X.K g B2 H0' H' → Q (.bl x) H') → r v w H Q) :
    TJ X Γ B (.Compare a [op] [b] pos) x B2 := fun g σ H0 H E O Q q =>
  ⟨_, pt_cmpR ho (we a) (we b) hm, ha g σ H0 H E O _ fun v H1 H' t o rv => hb g σ H1 H' (E.mono t.ex) o _ fun w H2 H'' t2 o2 rw' =>
    hr g v w H2 H'' o2 (rv.mono t2.ex) rw' _ fun H3 H3' t3 o3 => ⟨x, rfl, q H3 H3' ((t.trans t2).trans t3) o3⟩⟩
theorem tj_cmpI {i j : Int} {z : Int → Int → V} {y : Bool} {op : CmpOp} (ha : EJ X Γ B a (.da (.int i)) B1) (hb : EJ X Γ B1 b (.da (.int j)) B2)
    (ho : OpR X (compareOp op) (rI0 z)) (hz : z i j = .bl y) (hm : behindInMarks op b = false) : TJ X Γ B (.Compare a [op] [b] pos) y B2 :=
  tj_cmp ha hb ho hm fun g v w H0 H O r1 r2 Q q => ⟨i, j, rvI r1, rvI r2, by rw [hz]; exact q H0 H To.refl O⟩
theorem tj_lt {i j : Int} (ha : EJ X Γ B a (.da (.int i)) B1) (hb : EJ X Γ B1 b (.da (.int j)) B2) : TJ X Γ B (.Compare a [.Lt] [b] pos) (decide (i < j)) B2 := tj_cmpI ha hb op_lt rfl (nomark _)
theorem tj_le {i j : Int} (ha : EJ X Γ B a (.da (.int i)) B1) (hb : EJ X Γ B1 b (.da (.int j)) B2) : TJ X Γ B (.Compare a [.LtE] [b] pos) (decide (i ≤ j)) B2 := tj_cmpI ha hb op_le rfl (nomark _)
theorem tj_gt {i j : Int} (ha : EJ X Γ B a (.da (.int i)) B1) (hb : EJ X Γ B1 b (.da (.int j)) B2) : TJ X Γ B (.Compare a [.Gt] [b] pos) (decide (j < i)) B2 := tj_cmpI ha hb op_gt rfl (nomark _)
theorem tj_ge {i j : Int} (ha : EJ X Γ B a (.da (.int i)) B1) (hb : EJ X Γ B1 b (.da (.int j)) B2) : TJ X Γ B (.Compare a [.GtE] [b] pos) (decide (j ≤ i)) B2 := tj_cmpI ha hb op_ge rfl (nomark _)
theorem tj_eq {x y : PyData} (hu : X.A.units + 64 < cLine) (ha : EJ X Γ B a (.da x) B1) (hb : EJ X Γ B1 b (.da y) B2) (hx : SeqAt.shaped x = true) (hy : SeqAt.shaped y = true) :
    TJ X Γ B (.Compare a [.Eq] [b] pos) (PyData.eqv x y) B2 :=
  tj_cmp ha hb (op_eqD hu) (nomark _) fun g v w H0 H O r1 r2 Q q => ⟨x, y, (Rp.mono O.ex r1).dp (nd_shaped hx), (Rp.mono O.ex r2).dp (nd_shaped hy), hx, hy, q H0 H To.refl O⟩
theorem tj_ne {x y : PyData} (hu : X.A.units + 64 < cLine) (ha : EJ X Γ B a (.da x) B1) (hb : EJ X Γ B1 b (.da y) B2) (hx : SeqAt.shaped x = true) (hy : SeqAt.shaped y = true) :
    TJ X Γ B (.Compare a [.NotEq] [b] pos) (!PyData.eqv x y) B2 :=
  tj_cmp ha hb (op_neD hu) (nomark _) fun g v w H0 H O r1 r2 Q q => ⟨x, y, (Rp.mono O.ex r1).dp (nd_shaped hx), (Rp.mono O.ex r2).dp (nd_shaped hy), hx, hy, q H0 H To.refl O⟩
theorem eqv_int (i j : Int) : PyData.eqv (.int i) (.int j) = decide (i = j) := by
  simp only [PyData.eqv]; exact Bool.beq_eq_decide_eq i j
theorem tj_eqI {i j : Int} (hu : X.A.units + 64 < cLine) (ha : EJ X Γ B a (.da (.int i)) B1) (hb : EJ X Γ B1 b (.da (.int j)) B2) : TJ X Γ B (.Compare a [.Eq] [b] pos) (decide (i = j)) B2 := by
  rw [← eqv_int]; exact tj_eq hu ha hb rfl rfl
theorem tj_neI {i j : Int} (hu : X.A.units + 64 < cLine) (ha : EJ X Γ B a (.da (.int i)) B1) (hb : EJ X Γ B1 b (.da (.int j)) B2) : TJ X Γ B (.Compare a [.NotEq] [b] pos) (!decide (i = j)) B2 := by
  rw [← eqv_int]; exact tj_ne hu ha hb rfl rfl
theorem tj_eqS {i j : Str} (ha : EJ X Γ B a (.da (.str i)) B1) (hb : EJ X Γ B1 b (.da (.str j)) B2) : TJ X Γ B (.Compare a [.Eq] [b] pos) (decide (i = j)) B2 :=
  tj_cmp ha hb op_eq (nomark _) fun g v w H0 H O r1 r2 Q q => by
    rw [rvS r1, rvS r2]
    have e : decide (V.str i = V.str j) = decide (i = j) := by
      by_cases h : i = j
      · subst h; simp
      · rw [decide_eq_false h, decide_eq_false fun z => h (V.str.inj z)]
    refine ⟨rfl, ?_⟩
    rw [e]; exact q H0 H To.refl O
theorem tj_is {x y : Bool} (h : TJ X Γ B e x B1) (hxy : x = y) : TJ X Γ B e y B1 := hxy ▸ h
theorem ej_is {x y : PyData} (h : EJ X Γ B e (.da x) B1) (hxy : x = y) : EJ X Γ B e (.da y) B1 := hxy ▸ h
theorem tj_not {x : Bool} (h : TJ X Γ B e x B1) : TJ X Γ B (.UnaryOp .Not e pos) (!x) B1 := fun g σ H0 H E O Q q =>
  ⟨_, pt_not (wt e), h g σ H0 H E O _ fun H1 H' t o => q H1 H' t o⟩
def WW (X : Cx) (e : Expr) : TT := fun σ H Q => ∃ t, PW X e t ∧ t σ H Q
theorem ww {X : Cx} (e : Expr) : PW X e (WW X e) := ⟨fun w p s σ H Q I ⟨_, ht, h⟩ => ht.run w p s σ H Q I h⟩
def WJ (X : Cx) (Γ : List VD) (B : Bag) (e : Expr) (b : Bool) (B' : Bag) : Prop :=
  ∀ g σ H0 H, EnvD X.K g H0 σ Γ → On X.K g B H0 H → ∀ Q : Bool → Hp → Prop, (∀ H0' H', To g H0 H H0' H' → On X.K g B' H0' H' → Q b H') → WW X e σ H Q
theorem tj_w {x : Bool} (h : WJ X Γ B e x B1) : TJ X Γ B e x B1 := fun g σ H0 H E O Q q => let ⟨t, h1, h2⟩ := h g σ H0 H E O Q q; ⟨t, h1.pt, h2⟩
theorem wj_and1 {x : Bool} (h : TJ X Γ B e x B1) : WJ X Γ B (.BoolOp .And [e] pos) x B1 := fun g σ H0 H E O Q q => ⟨_, pw_and1 (wt e), h g σ H0 H E O Q q⟩
theorem wj_or1 {x : Bool} (h : TJ X Γ B e x B1) : WJ X Γ B (.BoolOp .Or [e] pos) x B1 := fun g σ H0 H E O Q q => ⟨_, pw_or1 (wt e), h g σ H0 H E O Q q⟩
theorem wj_and {x y : Bool} (h : TJ X Γ B e x B) (hr : x = true → WJ X Γ B (.BoolOp .And (a :: es) pos) y B) : WJ X Γ B (.BoolOp .And (e :: a :: es) pos) (x && y) B := fun g σ H0 H E O Q q =>
  ⟨_, pw_and (wt e) (ww _), h g σ H0 H E O _ fun H1 H' t o => by
    cases x with
    | true => exact iteT (hr rfl g σ H1 H' (E.mono t.ex) o Q fun H2 H'' t2 o2 => q H2 H'' (t.trans t2) o2)
    | false => exact iteF (q H1 H' t o)⟩
theorem wj_or {x y : Bool} (h : TJ X Γ B e x B) (hr : x = false → WJ X Γ B (.BoolOp .Or (a :: es) pos) y B) : WJ X Γ B (.BoolOp .Or (e :: a :: es) pos) (x || y) B := fun g σ H0 H E O Q q =>
  ⟨_, pw_or (wt e) (ww _), h g σ H0 H E O _ fun H1 H' t o => by
    cases x with
    | true => exact iteT (q H1 H' t o)
    | false => exact iteF (hr rfl g σ H1 H' (E.mono t.ex) o Q fun H2 H'' t2 o2 => q H2 H'' (t.trans t2) o2)⟩
theorem ej_one {op} (h : EJ X Γ B e d B1) : EJ X Γ B (.BoolOp op [e] pos) d B1 := fun g σ H0 H E O Q q => ⟨_, pe_one (we e), h g σ H0 H E O Q q⟩
theorem ej_and {x y : Bool} (h : EJ X Γ B e (.da (.bool x)) B1) (hr : x = true → EJ X Γ B1 (.BoolOp .And (a :: es) pos) (.da (.bool y)) B1) : EJ X Γ B (.BoolOp .And (e :: a :: es) pos) (.da (.bool (x && y))) B1 := fun g σ H0 H E O Q q =>
  ⟨_, pe_and (we e) (we _), h g σ H0 H E O _ fun v H1 H' t o r => ⟨x, rvB r, by
    cases x with
    | true => exact iteT (hr rfl g σ H1 H' (E.mono t.ex) o Q fun z H2 H'' t2 o2 r2 => q z H2 H'' (t.trans t2) o2 r2)
    | false => exact iteF (q _ H1 H' t o (Rp.bl _))⟩⟩
theorem ej_or {x y : Bool} (h : EJ X Γ B e (.da (.bool x)) B1) (hr : x = false → EJ X Γ B1 (.BoolOp .Or (a :: es) pos) (.da (.bool y)) B1) : EJ X Γ B (.BoolOp .Or (e :: a :: es) pos) (.da (.bool (x || y))) B1 := fun g σ H0 H E O Q q =>
  ⟨_, pe_or (we e) (we _), h g σ H0 H E O _ fun v H1 H' t o r => ⟨x, rvB r, by
    cases x with
    | true => exact iteT (q _ H1 H' t o (Rp.bl _))
    | false => exact iteF (hr rfl g σ H1 H' (E.mono t.ex) o Q fun z H2 H'' t2 o2 r2 => q z H2 H'' (t.trans t2) o2 r2)⟩⟩
theorem ej_not {x : Bool} (h : EJ X Γ B e (.da (.bool x)) B1) : EJ X Γ B (.UnaryOp .Not e pos) (.da (.bool (!x))) B1 := fun g σ H0 H E O Q q =>
  ⟨_, pe_not (we e), h g σ H0 H E O _ fun v H1 H' t o r => ⟨x, rvB r, q _ H1 H' t o (Rp.bl _)⟩⟩
theorem ej_if {x : Bool} (h : TJ X Γ B c x B1) (h1 : x = true → EJ X Γ B1 a d B2) (h2 : x = false → EJ X Γ B1 b d B2) : EJ X Γ B (.IfExp c a b pos) d B2 := fun g σ H0 H E O Q q =>
  ⟨_, pe_ifExp (wt c) (we a) (we b), h g σ H0 H E O _ fun H1 H' t o => by
    cases x with
    | true => exact iteT (h1 rfl g σ H1 H' (E.mono t.ex) o Q fun z H2 H'' t2 o2 r2 => q z H2 H'' (t.trans t2) o2 r2)
    | false => exact iteF (h2 rfl g σ H1 H' (E.mono t.ex) o Q fun z H2 H'' t2 o2 r2 => q z H2 H'' (t.trans t2) o2 r2)⟩
theorem sj_nil (h : E.nx Γ B) : SJ X Γ B [] E := fun g σ H0 H Ev O D G => ⟨_, pss_nil, G.nx Γ B σ H0 H h To.refl Ev O⟩
theorem sj_ret (h : EJ X Γ B e (.da da') B1) (hr : E.rt da' B1) : SJ X Γ B (.Return (some e) pos :: rest) E := fun g σ H0 H Ev O D G =>
  ⟨_, pss_cons (ps_ret (we e)) (ws rest), h g σ H0 H Ev O _ fun v H1 H' t o r => G.rt _ B1 v H1 H' hr t o r⟩
theorem sj_set (i : Nat) {x : Str} (nd : X.N.Nodup) (h : EJ X Γ B e d B1) (k : SJ X (Γ.set i d) B1 rest E) (hi : X.N[i]? = some x := by rfl)
    (hx : Loc X.env.scope x := by first | exact Or.inl rfl | exact Or.inr rfl) (hs : swapsWith e (some (.Name x pos')) pos.line X.env = pure false := by rfl)
    (hf : X.fn x = true ∨ X.env.scope.names.lookup x = some .local := by first | exact Or.inl rfl | exact Or.inr rfl) : SJ X Γ B (.Assign [.Name x pos'] e pos :: rest) E := fun g σ H0 H Ev O D G =>
  ⟨_, pss_cons (ps_set nd hi hx (we e) hs hf) (ws rest), h g σ H0 H Ev O _ fun v H1 H' t o r => k g _ H1 H' ((Ev.mono t.ex).set i r) o D (G.on t)⟩
theorem sj_if {x : Bool} (h : TJ X Γ B c x B1) (h1 : x = true → SJ X Γ B1 s1 { E with nx := fun Γ' B' => SJ X Γ' B' rest E }) (h2 : x = false → SJ X Γ B1 s2 { E with nx := fun Γ' B' => SJ X Γ' B' rest E }) :
    SJ X Γ B (.If c s1 s2 pos :: rest) E := fun g σ H0 H Ev O D G =>
  ⟨_, pss_cons (ps_if (wt c) (ws s1) (ws s2)) (ws rest), h g σ H0 H Ev O _ fun H1 H' t o => by
    have G' : Gets X { E with nx := fun Γ' B' => SJ X Γ' B' rest E } g H1 H' { D with nx := WS X rest D } :=
      ⟨fun Γ2 B2 σ2 H2 H'' q t2 ev o2 => q g σ2 H2 H'' ev o2 D (G.on (t.trans t2)), (G.on t).rt, (G.on t).bk, (G.on t).ct⟩
    cases x with
    | true => exact iteT (h1 rfl g σ H1 H' (Ev.mono t.ex) o _ G')
    | false => exact iteF (h2 rfl g σ H1 H' (Ev.mono t.ex) o _ G')⟩
theorem sj_when {x : Bool} (h : TJ X Γ B c x B1) (h1 : x = true → SJ X Γ B1 s1 { E with nx := fun Γ' B' => SJ X Γ' B' rest E }) (h2 : x = false → SJ X Γ B1 rest E) :
    SJ X Γ B (.If c s1 [] pos :: rest) E := sj_if h h1 fun e => sj_nil (h2 e)
theorem sj_mono {E' : En} (h : SJ X Γ B ss E) (h1 : ∀ Γ B, E.nx Γ B → E'.nx Γ B) (h2 : ∀ r B, E.rt r B → E'.rt r B) (h3 : ∀ Γ B, E.bk Γ B → E'.bk Γ B) (h4 : ∀ Γ B, E.ct Γ B → E'.ct Γ B) : SJ X Γ B ss E' :=
  fun g σ H0 H Ev O D G => h g σ H0 H Ev O D ⟨fun Γ B σ a b q => G.nx Γ B σ a b (h1 _ _ q), fun r B v a b q => G.rt r B v a b (h2 _ _ q), fun Γ B σ a b q => G.bk Γ B σ a b (h3 _ _ q), fun Γ B σ a b q => G.ct Γ B σ a b (h4 _ _ q)⟩
end
end Gd
namespace Gd
open PySem PySem.Spec PyProof.Rows L2
def cutP (ds : List PyData) (lo hi : Option Int) : List PyData := (ds.drop (HT.sIx ds.length 0 lo)).take (HT.sIx ds.length ds.length hi - HT.sIx ds.length 0 lo)
theorem RpAll.cut {K : PySem.W.Frag} {H : Hp} {xs : List V} {ds : List PyData} (r : RpAll K H xs ds) (lo hi : Option Int) : RpAll K H (cutV xs lo hi) (cutP ds lo hi) := by
  unfold cutV cutP
  rw [r.length]
  exact (r.drop _).take _
theorem RpAll.ints {K : PySem.W.Frag} {H : Hp} : ∀ ns : List Int, RpAll K H (ns.map V.int) (ns.map PyData.int)
  | [] => .nil
  | n :: ns => .cons (.int n) (RpAll.ints ns)
theorem RpAll.ints_of {K : PySem.W.Frag} {H : Hp} : ∀ {xs : List V} {ns : List Int}, RpAll K H xs (ns.map PyData.int) → xs = ns.map V.int
  | [], [], _ => rfl
  | _ :: _, n :: ns, .cons h r => by
    cases h
    rw [RpAll.ints_of r]; rfl
section
variable {X : Cx} {Γ : List VD} {B B1 B2 B3 B' : Bag} {e a b c : Expr} {es : List Expr} {d da db dc : VD} {pos p pos' : Pos} {rest ss s1 s2 : List Stmt} {E : En}
def OJ (X : Cx) (Γ : List VD) (B : Bag) (o : Option Expr) (v : Option Int) (B' : Bag) : Prop :=
  ∀ g σ H0 H, EnvD X.K g H0 σ Γ → On X.K g B H0 H → ∀ Q : Option Int → Hp → Prop,
    (∀ H0' H', To g H0 H H0' H' → On X.K g B' H0' H' → Q v H') → ∃ t, PO X o t ∧ t σ H Q
theorem oj_none : OJ X Γ B none none B := fun g σ H0 H _ O Q q => ⟨_, po_none, q H0 H To.refl O⟩
theorem oj_some {i : Int} (h : EJ X Γ B e (.da (.int i)) B1) : OJ X Γ B (some e) (some i) B1 := fun g σ H0 H E O Q q =>
  ⟨_, po_some (we e), h g σ H0 H E O _ fun v H1 H' t o r => ⟨i, rvI r, q H1 H' t o⟩⟩
def WO (X : Cx) (o : Option Expr) : TO := fun σ H Q => ∃ t, PO X o t ∧ t σ H Q
theorem wo (o : Option Expr) : PO X o (WO X o) := ⟨fun p s σ H Q I ⟨_, ht, h⟩ => ht.run p s σ H Q I h⟩
theorem ej_slice {r : V → Option Int → Option Int → Hp → VK → Prop} {lo hi : Option Expr} {l u : Option Int} {p2 : Pos} (hr : SlR X r) (ha : EJ X Γ B a da B1) (hl : OJ X Γ B1 lo l B2) (hu : OJ X Γ B2 hi u B3)
    (k : ∀ g v H0 H, On X.K g B3 H0 H → Rv X.K g H0 v da → ∀ Q : VK, (∀ z H0' H', To g H0 H H0' H' → On X.K g B3 H0' H' → Rv X.K g H0' z d → Q z H') → r v l u H Q) :
    EJ X Γ B (.Subscript a (.Slice lo hi none p2) pos) d B3 := fun g σ H0 H E O Q q =>
  ⟨_, pe_slice hr (we a) (wo lo) (wo hi), ha g σ H0 H E O _ fun v H1 H' t o rv => hl g σ H1 H' (E.mono t.ex) o _ fun H2 H'' t2 o2 =>
    hu g σ H2 H'' (E.mono (t.trans t2).ex) o2 _ fun H3 H3' t3 o3 => k g v H3 H3' o3 (rv.mono (t2.trans t3).ex) Q fun z H4 H4' t4 o4 r4 => q z H4 H4' (((t.trans t2).trans t3).trans t4) o4 r4⟩
theorem ej_sliceL {lo hi : Option Expr} {l u : Option Int} {p2 : Pos} {ds : List PyData} (ha : EJ X Γ B a (.da (.list ds)) B1) (hl : OJ X Γ B1 lo l B2) (hu : OJ X Γ B2 hi u B3) :
    EJ X Γ B (.Subscript a (.Slice lo hi none p2) pos) (.da (.list (cutP ds l u))) B3 :=
  ej_slice sl_list ha hl hu fun g v H0 H O r Q q => by
    obtain ⟨p, xs, rfl, hx, rs⟩ := rvL r
    refine ⟨p, xs, rfl, SqL.of (O.ex _ _ hx), fun n hn => ?_⟩
    obtain ⟨t2, o2⟩ := laid (o := .lst (cutV xs l u)) O hn
    exact q _ _ _ t2 o2 (Rp.lst upd_same ((rs.cut l u).mono t2.ex))
theorem ej_sliceT {lo hi : Option Expr} {l u : Option Int} {p2 : Pos} {ds : List PyData} (ha : EJ X Γ B a (.da (.tuple ds)) B1) (hl : OJ X Γ B1 lo l B2) (hu : OJ X Γ B2 hi u B3) :
    EJ X Γ B (.Subscript a (.Slice lo hi none p2) pos) (.da (.tuple (cutP ds l u))) B3 :=
  ej_slice sl_tupA ha hl hu fun g v H0 H O r Q q => by
    obtain ⟨p, xs, rfl, hx, rs⟩ := rvT r
    refine ⟨p, xs, rfl, seqT O.ex hx, fun w => ?_, fun _ n hn => ?_⟩
    · have e : cutP ds l u = ds := by
        rw [rs.length] at w
        unfold cutP
        rw [w.1, w.2]
        simp
      have q := q (.ref p) H0 H To.refl O
      rw [e] at q
      exact q (Rp.tup hx rs)
    · obtain ⟨t2, o2⟩ := laid (o := .tup (cutV xs l u)) O hn
      exact q _ _ _ t2 o2 (Rp.tup (SqT.of upd_same) ((rs.cut l u).mono t2.ex))
theorem ej_sliceScr {lo hi : Option Expr} {l u : Option Int} {p2 : Pos} {ns : List Int} (ha : EJ X Γ B a (.scr ns) B1) (hl : OJ X Γ B1 lo l B2) (hu : OJ X Γ B2 hi u B3) :
    EJ X Γ B (.Subscript a (.Slice lo hi none p2) pos) (.da (.list (cutP (ns.map .int) l u))) B3 :=
  ej_slice sl_list ha hl hu fun g v H0 H O r Q q => by
    obtain ⟨p, rfl, hx⟩ := r
    refine ⟨p, _, rfl, O.ex.seq hx, fun n hn => ?_⟩
    obtain ⟨t2, o2⟩ := laid (o := .lst (cutV (ns.map V.int) l u)) O hn
    exact q _ _ _ t2 o2 (Rp.lst upd_same ((RpAll.ints ns).cut l u))
theorem ej_bagAt {i : Int} {y : PyData} {k : Nat} (ha : EJ X Γ B a .bag B1) (hb : EJ X Γ B1 b (.da (.int i)) B2) (hi : i = (k : Int)) (hk : k = 0 ∧ y = .int B2.x ∨ k = 1 ∧ y = .int B2.y ∨ k = 2 ∧ y = .int B2.z ∨ k = 3 ∧ y = .list (B2.cs.map .int)) (hs : PlainIx b) :
    EJ X Γ B (.Subscript a b pos) (.da y) B2 :=
  ej_bin ha hb (fun _ _ h1 h2 => pe_ix ix_list h1 h2 hs) fun g v w H0 H O r1 r2 Q q => by
    obtain ⟨p, l, hg, rfl⟩ := r1
    obtain ⟨_, h2, h3⟩ := O.bag p l hg
    subst hi
    rcases hk with ⟨rfl, rfl⟩ | ⟨rfl, rfl⟩ | ⟨rfl, rfl⟩ | ⟨rfl, rfl⟩
    · exact ⟨p, _, _, _, rfl, rvI r2, SqL.of h2, rfl, q _ _ _ To.refl O (Rp.int _)⟩
    · exact ⟨p, _, _, _, rfl, rvI r2, SqL.of h2, rfl, q _ _ _ To.refl O (Rp.int _)⟩
    · exact ⟨p, _, _, _, rfl, rvI r2, SqL.of h2, rfl, q _ _ _ To.refl O (Rp.int _)⟩
    · exact ⟨p, _, _, _, rfl, rvI r2, SqL.of h2, rfl, q _ _ _ To.refl O (Rp.lst h3 (RpAll.ints _))⟩
theorem bagged {K : PySem.W.Frag} {g : Gh} {B B' : Bag} {H0 H : Hp} {a l : Addr} (O : On K g B H0 H) (hg : g = some (a, l)) (hc : B'.cs = B.cs) :
    To g H0 H H0 (upd H a (.lst (bagCells B' l))) ∧ On K g B' H0 (upd H a (.lst (bagCells B' l))) := by
  obtain ⟨h1, h2, h3⟩ := O.bag a l hg
  refine ⟨⟨Same.refl _, fun q u f e1 e2 => ⟨e1, ?_⟩⟩, ⟨fun q u e => ?_, fun q m e => ?_⟩⟩
  · rw [upd_ne (fun z => f l (by rw [z]; exact hg))]; exact e2
  · rw [upd_ne (ne_of_none e h1)]; exact O.ex _ _ e
  · rw [hg] at e; cases e
    exact ⟨h1, upd_same, by rw [hc]; exact h3⟩
theorem sj_bagSet {i n : Int} {k : Nat} {px : Pos} (hv : EJ X Γ B e (.da (.int n)) B1) (ha : EJ X Γ B1 a .bag B2) (hb : EJ X Γ B2 b (.da (.int i)) B3) (hi : i = (k : Int))
    (hk : k = 0 ∧ B' = { B3 with x := n } ∨ k = 1 ∧ B' = { B3 with y := n } ∨ k = 2 ∧ B' = { B3 with z := n }) (q : SJ X Γ B' rest E)
    (h1 : swapsWithSole [.Subscript a b px] e pos.line X.env = pure false := by rfl) (h2 : swappedStores [.Subscript a b px] e X.env = pure none := by rfl)
    (h3 : (assignEach [.Subscript a b px] X.env).map (·.2) = [assign (.Subscript a b px) X.env] := by rfl)
    (h4 : ∀ v, assign (.Subscript a b px) X.env v = (do
      let ov ← holding [v] (eval a X.env)
      let iv ← holding [v, ov] (eval b X.env)
      standAt px; holding [v, ov, iv] (setItem ov iv v)
      release [v, ov, iv] []) := by intro _; rfl) :
    SJ X Γ B (.Assign [.Subscript a b px] e pos :: rest) E := fun g σ H0 H Ev O D G =>
  ⟨_, pss_cons (ps_asg (we e) (pg_sub (we a) (we b) set_list h4) h1 h2 h3) (ws rest), hv g σ H0 H Ev O _ fun v H1 H' t o rv => ha g σ H1 H' (Ev.mono t.ex) o _ fun w H2 H'' t2 o2 rw' =>
    hb g σ H2 H'' (Ev.mono (t.trans t2).ex) o2 _ fun u H3 H3' t3 o3 ru => by
      obtain ⟨p, l, hg, rfl⟩ := rw'
      rw [rvI ru, rvI rv]
      subst hi
      obtain ⟨_, e2, _⟩ := o3.bag p l hg
      have tt := (t.trans t2).trans t3
      have fin : ∀ (H4 : Hp), H4 = upd H3' p (.lst (bagCells B' l)) → B'.cs = B3.cs → WS X rest D σ H4 := by
        rintro H4 rfl hc
        obtain ⟨t4, o4⟩ := bagged o3 hg hc
        exact q g σ H3 _ (Ev.mono tt.ex) o4 D (G.on (tt.trans t4))
      rcases hk with ⟨rfl, rfl⟩ | ⟨rfl, rfl⟩ | ⟨rfl, rfl⟩
      · exact ⟨p, _, _, 0, rfl, rfl, e2, rfl, fin _ rfl rfl⟩
      · exact ⟨p, _, _, 1, rfl, rfl, e2, rfl, fin _ rfl rfl⟩
      · exact ⟨p, _, _, 2, rfl, rfl, e2, rfl, fin _ rfl rfl⟩⟩
def rGetL : V → V → Hp → VK → Prop := fun o i H Q => ∃ p xs k v, o = .ref p ∧ i = .int ((k : Nat) : Int) ∧ H p = some (.lst xs) ∧ xs[k]? = some v ∧ k < 1000 ∧ Q v H
theorem get_list : PGet X rGetL := by
  intro pins s σ H o i ov iv Q I r1 r2 h
  obtain ⟨p, xs, k, v, rfl, rfl, hp, hv, hk, q⟩ := h
  cases (show ov = Value.ref p from r1)
  obtain ⟨t, rfl⟩ := r2
  obtain ⟨its, r, pl, hz⟩ := I.list (SqL.of hp)
  obtain ⟨u, hu, ru⟩ := r.get hv
  refine wpAny_getItem_list pl.isList (Int.natCast_nonneg k) (by omega) ?_ ⟨v, H, I, ru, q⟩
  rw [Int.toNat_natCast]; simpa using hu
theorem sj_bagAug {n : Int} {px : Pos} (ha : EJ X Γ B a .bag B1) (hb : EJ X Γ B1 b (.da (.int 2)) B2) (hv : EJ X Γ B2 e (.da (.int n)) B3) (hz : B3.z = B2.z) (q : SJ X Γ { B3 with z := B3.z + n } rest E)
    (h1 : ∀ ov iv new, augStore b ov iv new = (do holding [new, ov, iv] (setItem ov iv new); release [new, ov, iv] []; pure .next) := by intros; rfl) :
    SJ X Γ B (.AugAssign (.Subscript a b px) .Add e pos :: rest) E := fun g σ H0 H Ev O D G =>
  ⟨_, pss_cons (ps_augS (we a) (we b) get_list (we e) ip_add set_list h1) (ws rest), ha g σ H0 H Ev O _ fun w H1 H' t o rw' => hb g σ H1 H' (Ev.mono t.ex) o _ fun u H2 H'' t2 o2 ru => by
    obtain ⟨p, l, hg, rfl⟩ := rw'
    rw [rvI ru]
    obtain ⟨_, e2, _⟩ := o2.bag p l hg
    refine ⟨p, _, 2, .int B2.z, rfl, rfl, e2, rfl, by omega, ?_⟩
    refine hv g σ H2 H'' (Ev.mono (t.trans t2).ex) o2 _ fun v H3 H3' t3 o3 rv => ?_
    rw [rvI rv]
    obtain ⟨_, e3, _⟩ := o3.bag p l hg
    have tt := (t.trans t2).trans t3
    refine ⟨B2.z, n, rfl, rfl, p, _, 2, 2, rfl, rfl, e3, rfl, ?_⟩
    obtain ⟨t4, o4⟩ := bagged (B' := { B3 with z := B3.z + n }) o3 hg rfl
    rw [← hz]
    exact q g σ H3 _ (Ev.mono tt.ex) o4 D (G.on (tt.trans t4))⟩
theorem sj_while (nd : X.N.Nodup) (P : List VD → Bag → Prop) (μ : List VD → Bag → Nat) (h0 : P Γ B)
    (hs : ∀ Γ B, P Γ B → ∃ x, TJ X Γ B c x B ∧
      (x = true → SJ X Γ B s1 { nx := fun Γ' B' => P Γ' B' ∧ μ Γ' B' < μ Γ B, ct := fun Γ' B' => P Γ' B' ∧ μ Γ' B' < μ Γ B, bk := fun Γ' B' => SJ X Γ' B' rest E, rt := E.rt }) ∧
      (x = false → SJ X Γ B rest E))
    (hp : PassesOwn (model X.prog X.w) X.A X.env X.xe := by exact PassesOwn.never) : SJ X Γ B (.While c s1 [] pos :: rest) E := fun g σ H0 H Ev O D G =>
  ⟨_, pss_cons (ps_while hp (wt c) (ws s1)) (ws rest), by
    refine ⟨fun m σ' H' => ∃ Γ' B' H1, P Γ' B' ∧ μ Γ' B' = m ∧ To g H0 H H1 H' ∧ EnvD X.K g H1 σ' Γ' ∧ On X.K g B' H1 H', ⟨_, Γ, B, H0, h0, rfl, To.refl, Ev, O⟩, ?_⟩
    rintro m σ' H' ⟨Γ', B', H1, hP, rfl, t, ev, o⟩
    obtain ⟨x, ht, hb, hd⟩ := hs Γ' B' hP
    refine ht g σ' H1 H' ev o _ fun H2 H'' t2 o2 => ?_
    have tt := t.trans t2
    cases x with
    | true =>
      refine iteT ⟨fun σ2 H3' => ∃ m', m' < μ Γ' B' ∧ ∃ Γ2 B2 H3, P Γ2 B2 ∧ μ Γ2 B2 = m' ∧ To g H0 H H3 H3' ∧ EnvD X.K g H3 σ2 Γ2 ∧ On X.K g B2 H3 H3', fun _ _ z => z, ?_⟩
      refine hb rfl g σ' H2 H'' (ev.mono t2.ex) o2 _ ⟨?_, ?_, ?_, ?_⟩
      · rintro Γ3 B3 σ3 H3 H3' ⟨q1, q2⟩ t3 e3 o3
        exact ⟨_, q2, Γ3, B3, H3, q1, rfl, tt.trans t3, e3, o3⟩
      · intro r B3 v H3 H3' q t3 o3 rv
        exact (G.on tt).rt r B3 v H3 H3' q t3 o3 rv
      · intro Γ3 B3 σ3 H3 H3' q t3 e3 o3
        exact q g σ3 H3 H3' e3 o3 D (G.on (tt.trans t3))
      · rintro Γ3 B3 σ3 H3 H3' ⟨q1, q2⟩ t3 e3 o3
        exact ⟨_, q2, Γ3, B3, H3, q1, rfl, tt.trans t3, e3, o3⟩
    | false => exact iteF (hd rfl g σ' H2 H'' (ev.mono t2.ex) o2 D (G.on tt))⟩
theorem sj_par (i j : Nat) {x y : Str} {px py pt : Pos} {kt k2 pt2} {d1 d2 : VD} (nd : X.N.Nodup) (hc : X.calm = true) (h : AJ X Γ B [a, b] [d1, d2] B1) (k : SJ X ((Γ.set i d1).set j d2) B1 rest E)
    (hij : i ≠ j) (hw : swappedStores [.Tuple [.Name x px, .Name y py] kt pt] (.Tuple [a, b] k2 pt2) X.env = pure (some [x, y])) (hi : X.N[i]? = some x := by rfl) (hj : X.N[j]? = some y := by rfl)
    (hx : X.env.scope.names.lookup x = some .local := by rfl) (hy : X.env.scope.names.lookup y = some .local := by rfl)
    (hsw : swapsWithSole [.Tuple [.Name x px, .Name y py] kt pt] (.Tuple [a, b] k2 pt2) pos.line X.env = pure false := by rfl) :
    SJ X Γ B (.Assign [.Tuple [.Name x px, .Name y py] kt pt] (.Tuple [a, b] k2 pt2) pos :: rest) E := fun g σ H0 H Ev O D G =>
  ⟨_, pss_cons (ps_par hc nd hi hj hij hx hy (wa [a, b]) hw hsw) (ws rest), h g σ H0 H Ev O _ fun vs H1 H' t o r => by
    obtain ⟨v, w, rfl, r1, r2⟩ := rv2 r
    exact ⟨v, w, rfl, k g _ H1 H' (((Ev.mono t.ex).set i r1).set j r2) o D (G.on t)⟩⟩
def gNames : List Nat → TGs
  | [] => gNil
  | i :: is => gCons (gName i) (gNames is)
def setAll (Γ : List VD) : List Nat → List PyData → List VD
  | i :: is, d :: ds => setAll (Γ.set i (.da d)) is ds
  | _, _ => Γ
theorem gNames_run {K : PySem.W.Frag} {g : Gh} {H0 H : Hp} {Q : L2.St → Hp → Prop} : ∀ (is : List Nat) (vs : List V) (ds : List PyData) (σ : L2.St) (Γ : List VD), RpAll K H0 vs ds → is.length = ds.length → EnvD K g H0 σ Γ →
    (∀ σ', EnvD K g H0 σ' (setAll Γ is ds) → Q σ' H) → gNames is vs σ H Q
  | [], _, _, σ, Γ, .nil, _, e, q => ⟨rfl, q σ e⟩
  | i :: is, _, _, σ, Γ, .cons h r, hl, e, q => ⟨_, _, rfl, gNames_run is _ _ _ _ r (Nat.succ.inj hl) (e.set (d := .da _) i h) q⟩
theorem sj_unpack (is : List Nat) {ts : List Expr} {k} {pt : Pos} {ds : List PyData} (hc : X.calm = true) (h : EJ X Γ B e (.da (.tuple ds)) B1) (hg : PGs X ts (gNames is)) (hl : is.length = ds.length)
    (q : SJ X (setAll Γ is ds) B1 rest E) (hn : (assignEach ts X.env).length = ds.length := by rfl) (hst : (assignEach ts X.env).findIdx? (·.1) = none := by rfl)
    (h1 : swapsWithSole [.Tuple ts k pt] e pos.line X.env = pure false := by rfl) (h2 : swappedStores [.Tuple ts k pt] e X.env = pure none := by rfl)
    (h3 : (assignEach [.Tuple ts k pt] X.env).map (·.2) = [assign (.Tuple ts k pt) X.env] := by rfl) : SJ X Γ B (.Assign [.Tuple ts k pt] e pos :: rest) E := fun g σ H0 H Ev O D G =>
  ⟨_, pss_cons (ps_asg (we e) (pg_tup hc hg hn hst) h1 h2 h3) (ws rest), h g σ H0 H Ev O _ fun v H1 H' t o r => by
    obtain ⟨p, xs, rfl, hxs, rs⟩ := rvT r
    exact ⟨p, xs, rfl, seqT o.ex hxs, rs.length, gNames_run is xs ds σ Γ rs hl (Ev.mono t.ex) fun σ' e' => q g σ' H1 H' e' o D (G.on t)⟩⟩
def Blk (X : Cx) (scope : Scope) (J : Cx → Prop) : Prop := ∀ (s : Shared) (H : Hp) (C : Addr) (cl : List (Str × Addr)) (fp : List Addr), J (X.blk s H scope (compEnvC scope cl C X.env) fp)
def WB (X : Cx) (scope : Scope) (e : Expr) : TE := fun σ H Q => ∀ (s : Shared) (H' : Hp) (C : Addr) (cl : List (Str × Addr)) (fp : List Addr), WE (X.blk s H' scope (compEnvC scope cl C X.env) fp) e σ H Q
theorem wb (scope : Scope) (e : Expr) (s : Shared) (H : Hp) (C : Addr) (cl : List (Str × Addr)) (fp : List Addr) : PE (X.blk s H scope (compEnvC scope cl C X.env) fp) e (WB X scope e) :=
  ⟨fun pins s' σ H' Q I h => (we e).run pins s' σ H' Q I (h s H C cl fp)⟩
structure LcI (K : PySem.W.Frag) (g : Gh) (H1 H' : Hp) (A : Addr) (acc : List PyData) (B : Bag) (H2 H'' : Hp) : Prop where
  to : To g H1 H' H2 H''
  new : H' A = none
  no : H2 A = none
  at' : ∃ zs, H'' A = some (.lst zs) ∧ RpAll K H2 zs acc
  on : On K g B H2 H''
theorem lcI_start {K : PySem.W.Frag} {g : Gh} {H1 H' : Hp} {A : Addr} (o : On K g B H1 H') (h : H' A = none) : Off g A ∧ LcI K g H1 H' A [] B H1 (upd H' A (.lst [])) := by
  have h1 : H1 A = none := o.ex.free h
  have off : Off g A := fun l e => by
    obtain ⟨_, q, _⟩ := o.bag A l e
    rw [h] at q; cases q
  refine ⟨off, ⟨⟨Same.refl _, fun q u f e1 e2 => ⟨e1, ?_⟩⟩, h, h1, ⟨[], upd_same, .nil⟩, ⟨fun q u e => ?_, fun q l e => ?_⟩⟩⟩
  · rw [upd_ne (ne_of_none e2 h)]; exact e2
  · rw [upd_ne (ne_of_none e h1)]; exact o.ex _ _ e
  · obtain ⟨q1, q2, q3⟩ := o.bag q l e
    exact ⟨q1, by rw [upd_ne (ne_of_none q2 h)]; exact q2, q3⟩
theorem lcI_app {K : PySem.W.Frag} {g : Gh} {H1 H' : Hp} {A : Addr} {acc : List PyData} {H2 H'' H3 H3' : Hp} {v : V} {y : PyData} (off : Off g A) (I : LcI K g H1 H' A acc B1 H2 H'') (t : To g H2 H'' H3 H3') (o : On K g B2 H3 H3') (r : Rp K H3 v y) :
    ∃ zs, H3' A = some (.lst zs) ∧ zs.length = acc.length ∧ LcI K g H1 H' A (acc ++ [y]) B2 H3 (upd H3' A (.lst (zs ++ [v]))) := by
  obtain ⟨zs, h1, h2⟩ := I.at'
  obtain ⟨h3, h4⟩ := t.un A _ off I.no h1
  refine ⟨zs, h4, h2.length, ⟨⟨I.to.ex.trans t.ex, fun q u f e1 e2 => ?_⟩, I.new, h3, ⟨_, upd_same, (h2.mono t.ex).app (.cons r .nil)⟩, ⟨fun q u e => ?_, fun q l e => ?_⟩⟩⟩
  · by_cases hq : q = A
    · subst hq
      have z := I.new
      rw [e2] at z; cases z
    · obtain ⟨q1, q2⟩ := I.to.un q u f e1 e2
      obtain ⟨q3, q4⟩ := t.un q u f q1 q2
      exact ⟨q3, by rw [upd_ne hq]; exact q4⟩
  · rw [upd_ne (ne_of_none e h3)]; exact o.ex _ _ e
  · obtain ⟨q1, q2, q3⟩ := o.bag q l e
    have hq : q ≠ A := fun z => off l (by rw [← z]; exact e)
    exact ⟨q1, by rw [upd_ne hq]; exact q2, q3⟩
theorem lcI_end {K : PySem.W.Frag} {g : Gh} {H0 H H1 H' : Hp} {A : Addr} {acc : List PyData} {H2 H'' : Hp} (off : Off g A) (t : To g H0 H H1 H') (I : LcI K g H1 H' A acc B H2 H'') :
    ∃ H3, To g H0 H H3 H'' ∧ On K g B H3 H'' ∧ Rp K H3 (.ref A) (.list acc) := by
  obtain ⟨zs, h1, h2⟩ := I.at'
  have tt := t.trans I.to
  have up : Same H2 (upd H2 A (.lst zs)) := fun q u e => by rw [upd_ne (ne_of_none e I.no)]; exact e
  refine ⟨upd H2 A (.lst zs), ⟨tt.ex.trans up, fun q u f e1 e2 => ?_⟩, ⟨fun q u e => ?_, fun q l e => ?_⟩, Rp.lst upd_same (h2.mono up)⟩
  · obtain ⟨q1, q2⟩ := tt.un q u f e1 e2
    have hq : q ≠ A := fun z => by
      subst z
      obtain ⟨_, q3⟩ := t.un q u f e1 e2
      rw [I.new] at q3; cases q3
    exact ⟨by rw [upd_ne hq]; exact q1, q2⟩
  · by_cases hq : q = A
    · subst hq; rw [upd_same] at e; cases e; exact h1
    · rw [upd_ne hq] at e; exact I.on.ex _ _ e
  · obtain ⟨q1, q2, q3⟩ := I.on.bag q l e
    have hq : q ≠ A := fun z => off l (by rw [← z]; exact e)
    have hl : l ≠ A := fun z => by rw [z, I.no] at q3; cases q3
    exact ⟨by rw [upd_ne hq]; exact q1, q2, by rw [upd_ne hl]; exact q3⟩
theorem wipe1 {σ : L2.St} {j : Nat} {v : Option V} : wipe ((wipe σ [j]).set j v) [j] = wipe σ [j] := by
  show (((σ.set j none).set j v).set j none) = σ.set j none
  rw [List.set_set, List.set_set]
theorem wipe_env {K : PySem.W.Frag} {g : Gh} {H0 : Hp} {σ : L2.St} {j : Nat} {v : V} {d : PyData} (Ev : EnvD K g H0 σ Γ) (r : Rp K H0 v d) : EnvD K g H0 ((wipe σ [j]).set j (some v)) (Γ.set j (.da d)) := by
  show EnvD K g H0 ((σ.set j none).set j (some v)) (Γ.set j (.da d))
  rw [List.set_set]
  exact Ev.set (d := .da d) j r
def RJ (X : Cx) (Γ : List VD) (B : Bag) (t : TE) (d : VD) (B' : Bag) : Prop :=
  ∀ g σ H0 H, EnvD X.K g H0 σ Γ → On X.K g B H0 H → ∀ Q : VK,
    (∀ v H0' H', To g H0 H H0' H' → On X.K g B' H0' H' → Rv X.K g H0' v d → Q v H') → t σ H Q
theorem ej_of {t : TE} (h : PE X e t) (r : RJ X Γ B t d B1) : EJ X Γ B e d B1 := fun g σ H0 H E O Q q => ⟨t, h, r g σ H0 H E O Q q⟩
section
variable {elt : Expr} {scope : Scope} {j : Nat} {x : Str} {px : Pos} {ds ys : List PyData}
theorem lc_turn {g : Gh} {H1 H' : Hp} {A : Addr} {acc : List PyData} {H'' H2 : Hp} {σ : L2.St} {v : V} {y z : PyData} {Nx : Hp → Prop} (off : Off g A) (Ev : EnvD X.K g H1 σ Γ) (I : LcI X.K g H1 H' A acc B1 H2 H'') (r : Rp X.K H2 v y)
    (hz : acc.length < 1000) (he : Blk X scope fun Y => EJ Y (Γ.set j (.da y)) B1 elt (.da z) B2) (k : ∀ H3 H3', LcI X.K g H1 H' A (acc ++ [z]) B2 H3 H3' → Nx H3') :
    gName j v (wipe σ [j]) H'' fun σ2 H2 => wipe σ2 [j] = wipe σ [j] ∧ tYes σ2 H2 fun b H3 => if b = true then WB X scope elt σ2 H3 fun y H4 => ∃ acc, H4 A = some (.lst acc) ∧ acc.length < sizeLine ∧ Nx (upd H4 A (.lst (acc ++ [y]))) else Nx H3 := by
  refine ⟨wipe1, ?_⟩
  unfold tYes
  refine iteT ?_
  intro s hH C cl fp
  refine he s hH C cl fp g _ H2 H'' (wipe_env (Ev.mono I.to.ex) r) I.on _ fun w H3 H3' t o rw' => ?_
  obtain ⟨zs, h1, h2, J⟩ := lcI_app off I t o rw'
  exact ⟨zs, h1, by rw [h2]; exact small1000 (Nat.le_of_lt hz), k _ _ J⟩
theorem rj_lc (Bs : Nat → Bag) (hi : EJ X Γ B e (.da (.list ds)) (Bs 0)) (hl : ys.length = ds.length) (hz : ds.length ≤ 1000)
    (hs : ∀ i y z, ds[i]? = some y → ys[i]? = some z → Blk X scope fun Y => EJ Y (Γ.set j (.da y)) (Bs i) elt (.da z) (Bs (i + 1))) :
    RJ X Γ B (tLc (iList X.K (WE X e)) (gName j) tYes (WB X scope elt) [j]) (.da (.list ys)) (Bs ds.length) := fun g σ H0 H Ev O Q q =>
  hi g σ H0 H Ev O _ fun v H1 H' t o r => by
    obtain ⟨p, xs, rfl, hxs, rs⟩ := rvL r
    refine ⟨p, rfl, ⟨xs, SqL.of (o.ex _ _ hxs)⟩, fun A hA => ?_⟩
    obtain ⟨off, I0⟩ := lcI_start o hA
    refine lc_list (xs := xs) (fun i H'' => ∃ H2, LcI X.K g H1 H' A (ys.take i) (Bs i) H2 H'') ⟨_, I0⟩ ?_ ?_ ?_
    · rintro i H'' _ ⟨H2, I⟩
      exact SqL.of (I.on.ex _ _ (I.to.ex _ _ hxs))
    · rintro i w H'' hw ⟨H2, I⟩
      obtain ⟨y, hy, ry⟩ := rs.get hw
      have hi2 : i < ys.length := by rw [hl]; exact (List.getElem?_eq_some_iff.mp hy).1
      have hyz : ys[i]? = some ys[i] := List.getElem?_eq_getElem hi2
      refine lc_turn off (Ev.mono t.ex) I (ry.mono I.to.ex) (by rw [List.length_take]; omega) (hs i y _ hy hyz) fun H3 H3' J => ⟨H3, ?_⟩
      rw [List.take_add_one, hyz]; exact J
    · rintro H'' ⟨H2, I⟩
      rw [rs.length, ← hl, List.take_length] at I
      obtain ⟨H3, t3, o3, r3⟩ := lcI_end off t I
      rw [hl] at o3
      exact q _ H3 H'' t3 o3 r3
theorem rj_lcT (Bs : Nat → Bag) (hi : EJ X Γ B e (.da (.tuple ds)) (Bs 0)) (hl : ys.length = ds.length) (hz : ds.length ≤ 1000)
    (hs : ∀ i y z, ds[i]? = some y → ys[i]? = some z → Blk X scope fun Y => EJ Y (Γ.set j (.da y)) (Bs i) elt (.da z) (Bs (i + 1))) :
    RJ X Γ B (tLc (iTup X.K (WE X e)) (gName j) tYes (WB X scope elt) [j]) (.da (.list ys)) (Bs ds.length) := fun g σ H0 H Ev O Q q =>
  hi g σ H0 H Ev O _ fun v H1 H' t o r => by
    obtain ⟨p, xs, rfl, hxs, rs⟩ := rvT r
    refine ⟨p, rfl, ⟨xs, seqT o.ex hxs⟩, fun A hA => ?_⟩
    obtain ⟨off, I0⟩ := lcI_start o hA
    refine lc_tup (xs := xs) (fun i H'' => ∃ H2, LcI X.K g H1 H' A (ys.take i) (Bs i) H2 H'') ⟨_, I0⟩ ?_ ?_ ?_
    · rintro i H'' _ ⟨H2, I⟩
      exact seqT I.on.ex (seqT I.to.ex hxs)
    · rintro i w H'' hw ⟨H2, I⟩
      obtain ⟨y, hy, ry⟩ := rs.get hw
      have hi2 : i < ys.length := by rw [hl]; exact (List.getElem?_eq_some_iff.mp hy).1
      have hyz : ys[i]? = some ys[i] := List.getElem?_eq_getElem hi2
      refine lc_turn off (Ev.mono t.ex) I (ry.mono I.to.ex) (by rw [List.length_take]; omega) (hs i y _ hy hyz) fun H3 H3' J => ⟨H3, ?_⟩
      rw [List.take_add_one, hyz]; exact J
    · rintro H'' ⟨H2, I⟩
      rw [rs.length, ← hl, List.take_length] at I
      obtain ⟨H3, t3, o3, r3⟩ := lcI_end off t I
      rw [hl] at o3
      exact q _ H3 H'' t3 o3 r3
theorem ej_lc (nd : X.N.Nodup) (hc : X.calm = true) (ok : BlkOk X.N X.env.scope scope [(x, j)])
    (hg : ∀ (s : Shared) (H : Hp) (C : Addr) (cl : List (Str × Addr)) (fp : List Addr), PG (X.blk s H scope (compEnvC scope cl C X.env) fp) (.Name x px) (gName j))
    (r : RJ X Γ B (tLc (iList X.K (WE X e)) (gName j) tYes (WB X scope elt) [j]) d B1) (hq : ∀ x, foldedSetIterable e X.env x = pure x := by intro _; rfl) :
    EJ X Γ B (.ListComp elt [⟨.Name x px, e, [], 0⟩] scope pos) d B1 := ej_of (pe_lc (own := [(x, j)]) hc nd (pi_list (we e)) ok hg (fun _ _ _ _ _ => pts_nil) (wb scope elt) hq) r
theorem ej_lcT (nd : X.N.Nodup) (hc : X.calm = true) (ok : BlkOk X.N X.env.scope scope [(x, j)])
    (hg : ∀ (s : Shared) (H : Hp) (C : Addr) (cl : List (Str × Addr)) (fp : List Addr), PG (X.blk s H scope (compEnvC scope cl C X.env) fp) (.Name x px) (gName j))
    (r : RJ X Γ B (tLc (iTup X.K (WE X e)) (gName j) tYes (WB X scope elt) [j]) d B1) (hq : ∀ x, foldedSetIterable e X.env x = pure x := by intro _; rfl) :
    EJ X Γ B (.ListComp elt [⟨.Name x px, e, [], 0⟩] scope pos) d B1 := ej_of (pe_lc (own := [(x, j)]) hc nd (pi_tup (we e)) ok hg (fun _ _ _ _ _ => pts_nil) (wb scope elt) hq) r
end
end
end Gd
namespace Gd
open PySem PySem.Spec PyProof.Rows L2
section
variable {X : Cx} {Γ : List VD} {B B1 B2 B3 B' : Bag} {e a b c : Expr} {es : List Expr} {d da db dc : VD} {pos p pos' : Pos} {rest ss s1 s2 : List Stmt} {E : En}
def CDivX (_ j : Int) : Prop := j ≠ 0 ∧ j.natAbs.log2 < 9000
theorem op_fdivX : OpR X (binaryOp .FloorDiv) (rI CDivX fun i j => .int (i.fdiv j)) :=
  opI fun i j _ _ _ _ _ hc q => PyProof.Rows.floordiv_int hc.1 q (.inl (PyProof.noPylong_of_log2 hc.2))
theorem ej_fdivX {i j : Int} (ha : EJ X Γ B a (.da (.int i)) B1) (hb : EJ X Γ B1 b (.da (.int j)) B2) (hc : CDivX i j) : EJ X Γ B (.BinOp a .FloorDiv b pos) (.da (.int (i.fdiv j))) B2 :=
  ej_iic ha hb op_fdivX hc fun _ => .int _
theorem ej_gcd {i j : Int} (hm : X.mg "gcd" = some (.builtin "math.gcd")) (ha : EJ X Γ B a (.da (.int i)) B1) (hb : EJ X Γ B1 b (.da (.int j)) B2) (hg : Gl X "gcd" := by rfl)
    (h1 : starEach [a, b] X.env = (false, eval a X.env) :: starEach [b] X.env := by rfl) (h2 : starEach [b] X.env = (false, eval b X.env) :: starEach [] X.env := by rfl)
    (hpl : (backTo pos (starEach [b] X.env)).any (·.1) = false := by rfl) :
    EJ X Γ B (.Call (.Name "gcd" p) [a, b] [] pos) (.da (.int (Nat.gcd i.natAbs j.natAbs : Nat))) B2 := fun g σ H0 H E O Q q =>
  ⟨_, pe_callBfun cr_gcd hg hm (wa [a, b]) (by decide) h1 hpl, (aj_cons ha (aj_cons hb aj_nil h2) h1) g σ H0 H E O _ fun vs H1 H' t o r => by
    obtain ⟨v, w, rfl, r1, r2⟩ := rv2 r
    exact ⟨i, j, by rw [rvI r1, rvI r2], q _ _ _ t o (Rp.int _)⟩⟩
theorem RpAll.rep {K : PySem.W.Frag} {H : Hp} {xs : List V} {ds : List PyData} (r : RpAll K H xs ds) : ∀ n : Nat, RpAll K H (List.replicate n xs).flatten (List.replicate n ds).flatten
  | 0 => .nil
  | n + 1 => by
    rw [List.replicate_succ, List.flatten_cons, List.replicate_succ, List.flatten_cons]
    exact r.app (RpAll.rep r n)
theorem inV_strs (x : Str) : ∀ ss : List Str, inV (.str x) (ss.map V.str) = ss.any fun s => decide (s = x)
  | [] => rfl
  | s :: ss => by
    show (eqV (.str s) (.str x) || inV (.str x) (ss.map V.str)) = (decide (s = x) || ss.any fun s => decide (s = x))
    rw [inV_strs x ss]
    have e : eqV (.str s) (.str x) = decide (s = x) := by
      first
        | rfl
        | (unfold eqV; exact Bool.beq_eq_decide_eq s x)
        | (simp [eqV])
    rw [e]
theorem RpAll.strs_of {K : PySem.W.Frag} {H : Hp} : ∀ {xs : List V} {ns : List Str}, RpAll K H xs (ns.map PyData.str) → xs = ns.map V.str
  | [], [], _ => rfl
  | _ :: _, n :: ns, .cons h r => by
    cases h
    rw [RpAll.strs_of r]; rfl
theorem tj_inT {x : Str} {ss : List Str} (ha : EJ X Γ B a (.da (.str x)) B1) (hb : EJ X Γ B1 b (.da (.tuple (ss.map .str))) B2) (hm : behindInMarks .In b = false := by rfl) :
    TJ X Γ B (.Compare a [.In] [b] pos) (ss.any fun s => decide (s = x)) B2 :=
  tj_cmp ha hb op_in_seq hm fun g v w H0 H O r1 r2 Q q => by
    obtain ⟨p, xs, rfl, hx, rs⟩ := rvT r2
    rw [rvS r1]
    have e := rs.strs_of
    subst e
    refine ⟨p, _, rfl, .inr (seqT O.ex hx), rfl, ?_, ?_⟩
    · rw [List.all_map]; exact List.all_eq_true.mpr fun _ _ => rfl
    · rw [if_neg (by decide), inV_strs]; exact q _ _ To.refl O
end
theorem sj_law {X : Cx} {Γ : List VD} {B B1 : Bag} {e : Expr} {x : Str} {pos pos' : Pos} {rest : List Stmt} {ns : List Int} {y : Int} (i : Nat) (nd : X.N.Nodup)
    (h : EJ X Γ B e (.da (.list [.int 0, .int y, .int 0, .list (ns.map .int)])) B1)
    (k : SJ X ((List.replicate Γ.length VD.no).set i .bag) ⟨0, y, 0, ns⟩ rest { nx := fun _ _ => False, rt := fun r _ => r = .bool true })
    (hi : X.N[i]? = some x := by rfl) (hx : Loc X.env.scope x := by first | exact Or.inl rfl | exact Or.inr rfl) (hs : swapsWith e (some (.Name x pos')) pos.line X.env = pure false := by rfl)
    (hf : X.fn x = true ∨ X.env.scope.names.lookup x = some .local := by first | exact Or.inl rfl | exact Or.inr rfl)
    {σ : L2.St} {H0 H : Hp} (Ev : EnvD X.K none H0 σ Γ) (O : On X.K none B H0 H) {Q : VK} (q : ∀ H', Q (.bl true) H') :
    WS X (.Assign [.Name x pos'] e pos :: rest) { nx := fun _ H' => Q .non H', rt := Q } σ H :=
  ⟨_, pss_cons (ps_set nd hi hx (we e) hs hf) (ws rest), h none σ H0 H Ev O _ fun v H1 H' t o r => by
    obtain ⟨p, xs, rfl, hp, rs⟩ := rvL r
    cases rs with
    | cons r0 rs =>
    cases rs with
    | cons r1 rs =>
    cases rs with
    | cons r2 rs =>
    cases rs with
    | cons r3 rs =>
    cases rs
    cases r0; cases r1; cases r2
    cases r3 with
    | lst hl rl =>
    rename_i l zs
    have ez := rl.ints_of
    subst ez
    have hlp : l ≠ p := by
      intro z
      rw [z, hp] at hl
      have e1 := HO.lst.inj (Option.some.inj hl)
      cases ns with
      | nil => cases e1
      | cons n ns =>
        cases ns with
        | nil => cases e1
        | cons m ns =>
          cases ns with
          | nil => cases e1
          | cons m2 ns =>
            cases ns with
            | nil => cases e1
            | cons m3 ns => cases e1
    refine k (some (p, l)) _ (fun b => if b = p then none else H1 b) H' ⟨?_, ?_⟩ ⟨fun b u hb => ?_, fun b m hb => ?_⟩ _ ⟨?_, ?_, ?_, ?_⟩
    · rw [List.length_set, List.length_set, List.length_replicate]; exact Ev.len
    · intro j dd hj hne
      by_cases hij : i = j
      · subst hij
        have hlt : i < Γ.length := by
          have := (List.getElem?_eq_some_iff.mp hj).1
          rwa [List.length_set, List.length_replicate] at this
        rw [List.getElem?_set_self (by rw [List.length_replicate]; exact hlt)] at hj
        cases hj
        exact ⟨.ref p, List.getElem?_set_self (by rw [Ev.len]; exact hlt), p, l, rfl, rfl⟩
      · rw [List.getElem?_set_ne hij, List.getElem?_replicate] at hj
        split at hj
        · cases hj; exact absurd rfl hne
        · cases hj
    · by_cases hb2 : b = p
      · rw [if_pos hb2] at hb; cases hb
      · rw [if_neg hb2] at hb; exact o.ex _ _ hb
    · cases hb
      refine ⟨if_pos rfl, o.ex _ _ hp, ?_⟩
      rw [if_neg hlp]; exact hl
    · intro _ _ _ _ _ z; exact z.elim
    · rintro r2 B2 v H2 H2' rfl _ _ rv
      cases rv; exact q _
    · intro _ _ _ _ _ z; exact z.elim
    · intro _ _ _ _ _ z; exact z.elim⟩
def spLaw (K : PySem.W.Frag) : Sp := fun vs H Q _ => ∃ (a : Addr) (ns : List Int), vs = [.ref a] ∧ SqL K H a (ns.map V.int) ∧ ns.length ≤ 63 ∧ ∀ H', Q (.bl true) H'
end Gd
namespace Gd
open PySem PySem.Spec PyProof.Rows L2
def Bd (n : Nat) (i : Int) : Prop := i.natAbs < 2 ^ n
theorem Bd.le {n m : Nat} {i : Int} (h : Bd n i) (e : n ≤ m) : Bd m i := Nat.lt_of_lt_of_le h (Nat.pow_le_pow_right (by decide) e)
theorem Bd.mul {n m : Nat} {i j : Int} (h : Bd n i) (k : Bd m j) : Bd (n + m) (i * j) := wide_lt h k
theorem Bd.add {n m : Nat} {i j : Int} (h : Bd n i) (k : Bd m j) : Bd (n + m + 1) (i + j) := by
  have h1 := h.le (Nat.le_add_right n m)
  have h2 := k.le (Nat.le_add_left m n)
  have := Int.natAbs_add_le i j
  unfold Bd at *
  rw [Nat.pow_succ]; omega
theorem Bd.neg {n : Nat} {i : Int} (h : Bd n i) : Bd n (-i) := by unfold Bd; rw [Int.natAbs_neg]; exact h
theorem Bd.abs {n : Nat} {i : Int} (h : Bd n i) : Bd n (if i < 0 then -i else i) := by
  split
  · exact h.neg
  · exact h
theorem Bd.mod {n : Nat} {i j : Int} (k : Bd n j) (h : 0 < j) : Bd n (i % j) := by
  have h1 := Int.emod_nonneg i (Int.ne_of_gt h)
  have h2 := Int.emod_lt_of_pos i h
  unfold Bd at *; omega
theorem Bd.nat {n a : Nat} (h : a < 2 ^ n) : Bd n (a : Int) := h
theorem cm {n m : Nat} {i j : Int} (h : Bd n i) (k : Bd m j) (e : n + m + 2 ≤ 1000000 := by decide) : CMulW i j :=
  wide_mul (h.le (Nat.le_succ n)) (k.le (Nat.le_succ m)) (Nat.succ_pos _) (Nat.succ_pos _) (by omega)
theorem cdv {n : Nat} {i j : Int} (k : Bd n j) (h : 0 < j) (e : n + 1 ≤ 9000 := by decide) : CDivW i j := wide_div h (k.le (Nat.le_succ n)) (Nat.succ_pos _) e
theorem cdx {n : Nat} {i j : Int} (k : Bd n j) (h : j ≠ 0) (e : n + 1 ≤ 9000 := by decide) : CDivX i j := ⟨h, (wide_div (i := i) (j := ((j.natAbs : Nat) : Int)) (by omega) (by rw [Int.natAbs_natCast]; exact k.le (Nat.le_succ n)) (Nat.succ_pos _) e).2⟩
theorem lg {n : Nat} {j : Int} (k : Bd n j) (e : n + 1 ≤ 9000 := by decide) : j.natAbs.log2 < 9000 := Nat.lt_of_lt_of_le (PySem.Flt.log2_lt_of (Nat.succ_pos _) (k.le (Nat.le_succ n))) e
section
variable {X : Cx} {Γ : List VD} {B B1 B2 B3 B' : Bag} {e a b c : Expr} {es : List Expr} {d da db dc : VD} {pos p pos' : Pos} {rest ss s1 s2 : List Stmt} {E : En}
def AD (X : Cx) (Γ : List VD) (B : Bag) (es : List Expr) (ds : List PyData) (B' : Bag) : Prop := AJ X Γ B es (ds.map .da) B'
theorem ad_nil : AD X Γ B [] [] B := aj_nil
theorem ad_cons {y : PyData} {ds : List PyData} (h : EJ X Γ B e (.da y) B1) (r : AD X Γ B1 es ds B2) (hs : starEach (e :: es) X.env = (false, eval e X.env) :: starEach es X.env := by rfl) : AD X Γ B (e :: es) (y :: ds) B2 := aj_cons h r hs
theorem ej_tupD {ds : List PyData} {k} (h : AD X Γ B es ds B1) (hl : ds.length ≤ 1000 := by decide) : EJ X Γ B (.Tuple es k pos) (.da (.tuple ds)) B1 := ej_tup h hl
theorem ej_lstD {ds : List PyData} (h : AD X Γ B es ds B1) (hl : ds.length ≤ 1000 := by decide) : EJ X Γ B (.List es pos) (.da (.list ds)) B1 := ej_lst h hl
theorem ej_at {ds : List PyData} {i : Int} {y : PyData} {j} (ha : EJ X Γ B a (.da (.tuple ds)) B1) (h : atI ds i = some y := by rfl) : EJ X Γ B (.Subscript a (.Constant (.int i) j p) pos) (.da y) B1 :=
  ej_ixT ha ej_int h fun _ _ => rfl
theorem ej_ifI {x : Bool} {u v : Int} (h : TJ X Γ B c x B1) (h1 : x = true → EJ X Γ B1 a (.da (.int u)) B2) (h2 : x = false → EJ X Γ B1 b (.da (.int v)) B2) : EJ X Γ B (.IfExp c a b pos) (.da (.int (bif x then u else v))) B2 :=
  ej_if h (fun e => by subst e; exact h1 rfl) fun e => by subst e; exact h2 rfl
theorem sj_ifM {x : Bool} (M : List VD → Bag → Prop) (h : TJ X Γ B c x B1) (h1 : x = true → SJ X Γ B1 s1 { E with nx := M }) (h2 : x = false → SJ X Γ B1 s2 { E with nx := M }) (k : ∀ Γ' B', M Γ' B' → SJ X Γ' B' rest E) :
    SJ X Γ B (.If c s1 s2 pos :: rest) E :=
  sj_if h (fun e => sj_mono (h1 e) (fun Γ' B' q => k Γ' B' q) (fun _ _ q => q) (fun _ _ q => q) (fun _ _ q => q)) (fun e => sj_mono (h2 e) (fun Γ' B' q => k Γ' B' q) (fun _ _ q => q) (fun _ _ q => q) (fun _ _ q => q))
theorem wj_andT {y : Bool} (h : TJ X Γ B e true B1) (hr : WJ X Γ B1 (.BoolOp .And (a :: es) pos) y B2) : WJ X Γ B (.BoolOp .And (e :: a :: es) pos) y B2 := fun g σ H0 H E O Q q =>
  ⟨_, pw_and (wt e) (ww _), h g σ H0 H E O _ fun H1 H' t o => iteT (hr g σ H1 H' (E.mono t.ex) o Q fun H2 H'' t2 o2 => q H2 H'' (t.trans t2) o2)⟩
theorem ej_mulC {i j : Int} (ha : EJ X Γ B a (.da (.int i)) B1) (hb : EJ X Γ B1 b (.da (.int j)) B2) (hc : CMul i j) : EJ X Γ B (.BinOp a .Mult b pos) (.da (.int (i * j))) B2 :=
  ej_iic ha hb op_mul hc fun _ => .int _
theorem ej_atL {ds : List PyData} {i : Int} {y : PyData} {j} (ha : EJ X Γ B a (.da (.list ds)) B1) (h : atI ds i = some y) : EJ X Γ B (.Subscript a (.Constant (.int i) j p) pos) (.da y) B1 :=
  ej_ixL ha ej_int h fun _ _ => rfl
theorem eqv_refl_of {y : PyData} (h : SeqAt.shaped y = true) : PyData.eqv y y = true := SeqAt.eqv_refl y (SeqAt.canLay_of_shaped h)
end
def At (K : PySem.W.Frag) (mg : Str → Option Value) (x : Str) (st : Stmt) (ps : List Str) : Prop :=
  ∃ f fd, Fun K x x st f fd ∧ mg x = some (.ref f) ∧ Binds K fd ps []
theorem cal_at {P : Program} {w : World} {K : PySem.W.Frag} {mg : Str → Option Value} {base : Heap} {x : Str} {st : Stmt}
    {N ps : List Str} {k : Nat} {R : Rel} (T : At K mg x st ps) (S : FnScope N ps (defScope st))
    (len : ∀ Γ B r B', R Γ B r B' → Γ.length = ps.length)
    (body : ∀ (f : Addr) (cdv : Value) (A : Around) (out : List Env) (s : Shared) (H : Hp) (E : XK),
      Gx k (cxOf CX0 P w K mg base N x (defScope st) f cdv A out s H E).nox → ∀ Γ B r B', R Γ B r B' →
      SJ (cxOf CX0 P w K mg base N x (defScope st) f cdv A out s H E).nox (Γ ++ List.replicate (N.length - ps.length) .no) B (defBody st)
        { nx := fun _ B2 => r = .none ∧ B2 = B', rt := fun d B2 => d = r ∧ B2 = B' }) :
    Cal P w K mg base x (k + 1) R := by
  obtain ⟨f, fd, F, hm, hb⟩ := T
  exact cal_of F hm hb S len fun cdv A out s H E G => body f cdv A out s H E G
end Gd
namespace Fr
open Gd PySem
open scoped Rat
def fq (q : Rat) : PyData := .tuple [.int q.num, .int (q.den : Int)]
def com (n d : Int) : Int := if d < 0 then -((Nat.gcd n.natAbs d.natAbs : Nat) : Int) else ((Nat.gcd n.natAbs d.natAbs : Nat) : Int)
theorem com_ne {n d : Int} (h : d ≠ 0) : com n d ≠ 0 := by
  have : 0 < Nat.gcd n.natAbs d.natAbs := Nat.gcd_pos_of_pos_right _ (by omega)
  unfold com; split <;> omega
theorem com_bd {n d : Int} {k : Nat} (h : d ≠ 0) (b : Bd k d) : Bd k (com n d) := by
  have h1 : Nat.gcd n.natAbs d.natAbs ≤ d.natAbs := Nat.gcd_le_right _ (by omega)
  unfold Bd com at *; split <;> omega
theorem red_num {n d : Int} (h : d ≠ 0) : n.fdiv (com n d) = (n /. d).num := by
  rw [Rat.num_divInt]
  have hg : (d.gcd n : Int) = (Nat.gcd n.natAbs d.natAbs : Nat) := by rw [Int.gcd_comm]; rfl
  rw [hg]
  unfold com
  by_cases hd : d < 0
  · rw [if_pos hd, Int.sign_eq_neg_one_of_neg hd, Int.neg_one_mul]
    have := Int.neg_fdiv_neg (-n) ((Nat.gcd n.natAbs d.natAbs : Nat) : Int)
    rw [Int.neg_neg] at this
    rw [this, Int.fdiv_eq_ediv_of_nonneg _ (Int.natCast_nonneg _)]
  · rw [if_neg hd, Int.sign_eq_one_of_pos (by omega), Int.one_mul, Int.fdiv_eq_ediv_of_nonneg _ (Int.natCast_nonneg _)]
theorem red_den {n d : Int} (h : d ≠ 0) : d.fdiv (com n d) = ((n /. d).den : Int) := by
  rw [Rat.den_divInt, if_neg h]
  have hg : d.gcd n = Nat.gcd n.natAbs d.natAbs := by rw [Int.gcd_comm]; rfl
  rw [hg]
  unfold com
  by_cases hd : d < 0
  · rw [if_pos hd]
    have := Int.neg_fdiv_neg (-d) ((Nat.gcd n.natAbs d.natAbs : Nat) : Int)
    rw [Int.neg_neg] at this
    rw [this, Int.fdiv_eq_ediv_of_nonneg _ (Int.natCast_nonneg _)]
    rw [Int.natCast_ediv]
    have : -d = (d.natAbs : Int) := by omega
    rw [this]
  · rw [if_neg hd, Int.fdiv_eq_ediv_of_nonneg _ (Int.natCast_nonneg _), Int.natCast_ediv]
    have : d = (d.natAbs : Int) := by omega
    conv => lhs; lhs; rw [this]
theorem divInt_bd {n d : Int} {a b : Nat} (h : d ≠ 0) (ha : Bd a n) (hb : Bd b d) : Bd a (n /. d).num ∧ Bd b ((n /. d).den : Int) := by
  constructor
  · rw [← red_num h]
    unfold Bd at *
    refine Nat.lt_of_le_of_lt ?_ ha
    rw [red_num h, Rat.num_divInt]
    refine Nat.le_trans (Int.natAbs_ediv_le_natAbs _ _) ?_
    rw [Int.natAbs_mul, Int.natAbs_sign_of_ne_zero h, Nat.one_mul]
    exact Nat.le_refl _
  · unfold Bd at *
    rw [Int.natAbs_natCast, Rat.den_divInt, if_neg h]
    exact Nat.lt_of_le_of_lt (Nat.div_le_self _ _) hb
theorem den_pos (q : Rat) : (0 : Int) < (q.den : Int) := Int.natCast_pos.mpr q.den_pos
theorem den_ne (q : Rat) : (q.den : Int) ≠ 0 := Int.ne_of_gt (den_pos q)
theorem self_div (q : Rat) : q.num /. (q.den : Int) = q := Rat.num_divInt_den q
theorem add_div (x y : Rat) : (x.num * (y.den : Int) + y.num * (x.den : Int)) /. ((x.den : Int) * (y.den : Int)) = x + y := by
  rw [← Rat.divInt_add_divInt _ _ (den_ne x) (den_ne y), self_div, self_div]
theorem mul_div (x y : Rat) : (x.num * y.num) /. ((x.den : Int) * (y.den : Int)) = x * y := by
  rw [← Rat.divInt_mul_divInt, self_div, self_div]
end Fr
namespace Gd
open PySem PySem.Spec PyProof.Rows L2
mutual
def nice : PyData → Bool
  | .none => true
  | .bool _ => true
  | .int i => decide (Nat.log2 i.natAbs < 1920)
  | .str x => x.cps.all fun c => c < 0x110000
  | .list xs => niceAll xs
  | .tuple xs => niceAll xs
  | .dict _ => false
def niceAll : List PyData → Bool
  | [] => true
  | x :: xs => nice x && niceAll xs
end
mutual
theorem nice_sh : ∀ d : PyData, nice d = true → d.showable = true
  | .none, _ => by simp only [PyData.showable]
  | .bool _, _ => by simp only [PyData.showable]
  | .int i, h => by simp only [nice] at h; simp only [PyData.showable]; exact h
  | .str _, _ => by simp only [PyData.showable]
  | .list xs, h => by simp only [nice] at h; simp only [PyData.showable]; exact nice_shA xs h
  | .tuple xs, h => by simp only [nice] at h; simp only [PyData.showable]; exact nice_shA xs h
  | .dict _, h => by simp only [nice] at h; cases h
theorem nice_shA : ∀ ds : List PyData, niceAll ds = true → PyData.showableAll ds = true
  | [], _ => by
    simp only [PyData.showableAll]
  | x :: xs, h => by
    simp only [niceAll, Bool.and_eq_true] at h
    simp only [PyData.showableAll, Bool.and_eq_true]; exact ⟨nice_sh x h.1, nice_shA xs h.2⟩
end
mutual
theorem nice_nd : ∀ d : PyData, nice d = true → d.hasDict = false
  | .none, _ => by simp only [PyData.hasDict]
  | .bool _, _ => by simp only [PyData.hasDict]
  | .int i, h => by simp only [PyData.hasDict]
  | .str _, _ => by simp only [PyData.hasDict]
  | .list xs, h => by simp only [nice] at h; simp only [PyData.hasDict]; exact nice_ndA xs h
  | .tuple xs, h => by simp only [nice] at h; simp only [PyData.hasDict]; exact nice_ndA xs h
  | .dict _, h => by simp only [nice] at h; cases h
theorem nice_ndA : ∀ ds : List PyData, niceAll ds = true → PyData.hasDictAll ds = false
  | [], _ => by simp only [PyData.hasDictAll]
  | x :: xs, h => by
    simp only [niceAll, Bool.and_eq_true] at h
    simp only [PyData.hasDictAll, Bool.or_eq_false_iff]; exact ⟨nice_nd x h.1, nice_ndA xs h.2⟩
end
mutual
theorem nice_lay : ∀ d : PyData, nice d = true → d.canLay0 = true
  | .none, _ => by simp only [PyData.canLay0]
  | .bool _, _ => by simp only [PyData.canLay0]
  | .int i, h => by simp only [PyData.canLay0]
  | .str _, h => by simp only [nice] at h; simp only [PyData.canLay0]; exact h
  | .list xs, h => by simp only [nice] at h; simp only [PyData.canLay0]; exact nice_layA xs h
  | .tuple xs, h => by simp only [nice] at h; simp only [PyData.canLay0]; exact nice_layA xs h
  | .dict _, h => by simp only [nice] at h; cases h
theorem nice_layA : ∀ ds : List PyData, niceAll ds = true → PyData.canLayAll0 ds = true
  | [], _ => by simp only [PyData.canLayAll0]
  | x :: xs, h => by
    simp only [niceAll, Bool.and_eq_true] at h
    simp only [PyData.canLayAll0, Bool.and_eq_true]; exact ⟨nice_lay x h.1, nice_layA xs h.2⟩
end
mutual
theorem nice_short : ∀ d : PyData, nice d = true → d.leavesShort 1921 = true
  | .none, _ => by simp only [PyData.leavesShort]
  | .bool _, _ => by simp only [PyData.leavesShort]
  | .int i, h => by
    simp only [nice, decide_eq_true_eq] at h
    simp only [PyData.leavesShort, decide_eq_true_eq, PyData.shown_int]
    exact int_text_len_1921 h
  | .str x, h => by
    simp only [nice] at h
    simp only [PyData.leavesShort, List.all_eq_true, decide_eq_true_eq]
    intro c hc
    have h2 := Array.all_eq_true'.mp h c (by simpa using hc)
    have h3 : c < 0x110000 := of_decide_eq_true h2
    omega
  | .list xs, h => by simp only [nice] at h; simp only [PyData.leavesShort]; exact nice_shortA xs h
  | .tuple xs, h => by simp only [nice] at h; simp only [PyData.leavesShort]; exact nice_shortA xs h
  | .dict _, h => by simp only [nice] at h; cases h
theorem nice_shortA : ∀ ds : List PyData, niceAll ds = true → PyData.leavesShortAll 1921 ds = true
  | [], _ => by simp only [PyData.leavesShortAll]
  | x :: xs, h => by
    simp only [niceAll, Bool.and_eq_true] at h
    simp only [PyData.leavesShortAll, Bool.and_eq_true]; exact ⟨nice_short x h.1, nice_shortA xs h.2⟩
end
structure Okd (d : PyData) : Prop where
  nice : Gd.nice d = true
  dp : d.depth ≤ 60
  bulk : d.bulk ≤ 5000
theorem Okd.shows {d : PyData} (h : Okd d) : Shows d := ⟨nice_sh d h.nice, nice_nd d h.nice, h.dp, by
  have h1 := PyData.shown_le_bulk 1921 (by decide) d (nice_short d h.nice)
  have h2 := h.bulk
  rw [show sizeLine = 16777216 from by decide]
  omega⟩
theorem Okd.shaped {d : PyData} (h : Okd d) : SeqAt.shaped d = true := by
  unfold SeqAt.shaped
  rw [nice_lay d h.nice, Bool.true_and, decide_eq_true_eq]
  have := h.dp; omega
theorem nice_int {n : Nat} {i : Int} (h : Bd n i) (e : n ≤ 1920 := by decide) : nice (.int i) = true := by
  simp only [nice, decide_eq_true_eq]
  by_cases h0 : 0 < n
  · exact Nat.lt_of_lt_of_le (PySem.Flt.log2_lt_of h0 h) e
  · have : n = 0 := by omega
    subst this
    have : i.natAbs = 0 := by unfold Bd at h; omega
    rw [this]; decide
theorem niceAll_cons {d : PyData} {ds : List PyData} (h : nice d = true) (r : niceAll ds = true) : niceAll (d :: ds) = true := by simp only [niceAll, h, r, Bool.and_self]
theorem niceAll_nil : niceAll [] = true := by simp only [niceAll]
theorem nice_list {ds : List PyData} (r : niceAll ds = true) : nice (.list ds) = true := by simp only [nice]; exact r
theorem nice_tuple {ds : List PyData} (r : niceAll ds = true) : nice (.tuple ds) = true := by simp only [nice]; exact r
end Gd
namespace Gd
open PySem PySem.Spec PyProof.Rows L2
theorem at_mk {K : PySem.W.Frag} {h : Heap} {mg : Str → Option Value} {x : Str} {st : Stmt} (ps : List Str) {f : Addr} {oc : Value} {od an : Option Addr} {osl : Array (Option Value)} {kV doc pm cdv ct : Value}
    (X : K.In h) (G : h.Ns mainGlobals mg) (a : PySem.W.nsIn K mainGlobals x = some (some (.ref f)))
    (l : K.lookup f = some ⟨oc, od, .func (PySem.W.fnOf x x (defArgs st) (defBody st) (defScope st) .none kV doc pm an cdv ct), osl⟩) (c : PySem.W.codeIn K cdv x = true) (k : PySem.W.keepIn K (.ref f) = true)
    (b : ∀ (kV doc pm : Value) (an : Option Addr) (cdv ct : Value) (us : List Value), us.length = ps.length → bindArgs (PySem.W.fnOf x x (defArgs st) (defBody st) (defScope st) .none kV doc pm an cdv ct) ⟨us, []⟩ = pure (ps.zip us)) :
    At K mg x st ps := ⟨f, _, fun_mk l c k, PySem.W.mg_of X G a, (fun_mk (st := st) l c k).binds b⟩
end Gd
namespace Gd
open PySem PySem.Spec PyProof.Rows L2
def keyT (e : Int × Value) : Str := match e.2 with | .str k _ => k | _ => Str.empty
def TxE (w : World) (e : Int × Value) : Prop := ∃ k tk, e.2 = Value.str k tk ∧ e.1 = hashStr w k
structure TxAt (w : World) (l : List Str) (o : Obj) (es : Array (Int × Value)) (t : SetTable) : Prop where
  ex : o.ExactSet
  el : ∀ e ∈ es.toList, TxE w e
  nd : (es.toList.map keyT).Nodup
  me : ∀ k, k ∈ es.toList.map keyT ↔ k ∈ l
  sz : es.size ≤ l.length
  ft : t.fits es.size = true
  ri : Ris t.place.toList
  ld : w.params.followText "set-order" = true ∨ t.led = true
def TxSet (w : World) (h : Heap) (a : Addr) (l : List Str) : Prop := ∃ o es ep t, h.get? a = some o ∧ o.data = .set es ep t ∧ TxAt w l o es t
theorem TxSet.at {w : World} {h h' : Heap} {a : Addr} {l : List Str} (R : TxSet w h a l) (k : ∀ o, h.get? a = some o → h'.get? a = some o) : TxSet w h' a l :=
  let ⟨o, es, ep, t, ho, r⟩ := R; ⟨o, es, ep, t, k o ho, r⟩
section
variable {P : Program} {w : World} {A : Around} {E : Value → Shared → Prop} {s : Shared} {a : Addr} {l : List Str}
end
end Gd
namespace Gd
open PySem PySem.Spec PyProof.Rows L2
section
variable {P : Program} {w : World} {A : Around} {s : Shared} {E : Value → Shared → Prop}
end
end Gd
namespace Gd
open PySem PySem.Spec PyProof.Rows L2
section
variable {P : Program} {w : World} {A : Around} {E : Value → Shared → Prop} {s : Shared} {a : Addr} {l : List Str}
end
section
variable {X : Cx}
end
end Gd
namespace Gd
open PySem PySem.Spec PyProof.Rows L2
structure Own (K : PySem.W.Frag) (i : Nat) (g : Gh) (A0 A1 : Hp) (a : Addr) (B : Bag) (Γ : List VD) (acc : List PyData) (σ : L2.St) (H0 H : Hp) : Prop where
  to : To g A0 A1 H0 H
  fr : A1 a = none
  off : Off g a
  ev : EnvD K g H0 σ Γ
  at' : σ[i]? = some (some (.ref a))
  no : H0 a = none
  ls : ∃ zs, H a = some (.lst zs) ∧ RpAll K H0 zs acc
  on : On K g B H0 H
theorem Own.freeze {K : PySem.W.Frag} {i : Nat} {g : Gh} {A0 A1 : Hp} {a : Addr} {B : Bag} {Γ : List VD} {acc : List PyData} {σ : L2.St} {H0 H : Hp} (O : Own K i g A0 A1 a B Γ acc σ H0 H) :
    ∃ H1, To g A0 A1 H1 H ∧ EnvD K g H1 σ (Γ.set i (.da (.list acc))) ∧ On K g B H1 H := by
  obtain ⟨zs, hz, rz⟩ := O.ls
  have sm : Same H0 (upd H0 a (.lst zs)) := fun b o e => by
    rw [upd_ne fun z : b = a => by rw [z, O.no] at e; cases e]; exact e
  refine ⟨upd H0 a (.lst zs), ⟨O.to.ex.trans sm, fun b o f h1 h2 => ?_⟩, ?_, ⟨fun b o e => ?_, fun b l e => ?_⟩⟩
  · have hb : b ≠ a := fun z => by rw [z, O.fr] at h2; cases h2
    obtain ⟨p, q⟩ := O.to.un b o f h1 h2
    exact ⟨by rw [upd_ne hb]; exact p, q⟩
  · have e := (O.ev.mono sm).set (v := .ref a) (d := .da (.list acc)) i (Rp.lst upd_same (rz.mono sm))
    have es : σ.set i (some (.ref a)) = σ := by
      apply List.ext_getElem?
      intro j
      by_cases hj : i = j
      · subst hj
        rw [List.getElem?_set_self (List.getElem?_eq_some_iff.mp O.at').1, O.at']
      · rw [List.getElem?_set_ne hj]
    rw [es] at e; exact e
  · by_cases hb : b = a
    · subst hb; rw [upd_same] at e; rw [hz]; exact e
    · rw [upd_ne hb] at e; exact O.on.ex b o e
  · obtain ⟨p, q, r⟩ := O.on.bag b l e
    have hb : b ≠ a := fun z => O.off l (z ▸ e)
    have hl : l ≠ a := fun z => by rw [z, O.no] at r; cases r
    exact ⟨by rw [upd_ne hb]; exact p, q, by rw [upd_ne hl]; exact r⟩
structure EnO where
  nx : List VD → Bag → List PyData → Prop
  fx : List VD → Bag → Prop
  rt : PyData → Bag → Prop
  bk : List VD → Bag → List PyData → Prop := fun _ _ _ => False
  ct : List VD → Bag → List PyData → Prop := fun _ _ _ => False
  ro : List PyData → Bag → Prop := fun _ _ => False
  fc : List VD → Bag → Prop := fun _ _ => False
structure GetsO (X : Cx) (i : Nat) (E : EnO) (g : Gh) (A0 A1 : Hp) (a : Addr) (S : Hp) (D : Ends) : Prop where
  nx : ∀ Γ B acc σ H0 H, E.nx Γ B acc → Own X.K i g A0 A1 a B Γ acc σ H0 H → Same S H0 → D.nx σ H
  fx : ∀ Γ B σ H0 H, E.fx Γ B → To g A0 A1 H0 H → EnvD X.K g H0 σ Γ → On X.K g B H0 H → D.nx σ H
  rt : ∀ r B v H0 H, E.rt r B → To g A0 A1 H0 H → On X.K g B H0 H → Rp X.K H0 v r → D.rt v H
  bk : ∀ Γ B acc σ H0 H, E.bk Γ B acc → Own X.K i g A0 A1 a B Γ acc σ H0 H → Same S H0 → D.bk σ H
  ct : ∀ Γ B acc σ H0 H, E.ct Γ B acc → Own X.K i g A0 A1 a B Γ acc σ H0 H → Same S H0 → D.ct σ H
  ro : ∀ Γ B acc σ H0 H, E.ro acc B → Own X.K i g A0 A1 a B Γ acc σ H0 H → Same S H0 → D.rt (.ref a) H
  fc : ∀ Γ B σ H0 H, E.fc Γ B → To g A0 A1 H0 H → EnvD X.K g H0 σ Γ → On X.K g B H0 H → D.ct σ H
theorem GetsO.on {X : Cx} {i : Nat} {E : EnO} {g : Gh} {A0 A1 : Hp} {a : Addr} {S S' : Hp} {D : Ends} (G : GetsO X i E g A0 A1 a S D) (e : Same S S') : GetsO X i E g A0 A1 a S' D :=
  ⟨fun Γ B acc σ H0 H q w m => G.nx Γ B acc σ H0 H q w (e.trans m), G.fx, G.rt, fun Γ B acc σ H0 H q w m => G.bk Γ B acc σ H0 H q w (e.trans m), fun Γ B acc σ H0 H q w m => G.ct Γ B acc σ H0 H q w (e.trans m), fun Γ B acc σ H0 H q w m => G.ro Γ B acc σ H0 H q w (e.trans m), G.fc⟩
def OwJ (X : Cx) (i : Nat) (Γ : List VD) (B : Bag) (acc : List PyData) (ss : List Stmt) (E : EnO) : Prop :=
  ∀ g σ A0 A1 a H0 H, Own X.K i g A0 A1 a B Γ acc σ H0 H → ∀ D : Ends, GetsO X i E g A0 A1 a H0 D → WS X ss D σ H
def FJ (X : Cx) (Γ : List VD) (B : Bag) (e : Expr) (ds : List PyData) (B' : Bag) : Prop :=
  ∀ g σ H0 H, EnvD X.K g H0 σ Γ → On X.K g B H0 H → ∀ Q : VK,
    (∀ a zs H0' H', To g H0 H H0' H' → On X.K g B' H0' H' → RpAll X.K H0' zs ds → H' a = none → Q (.ref a) (upd H' a (.lst zs))) → WE X e σ H Q
section
variable {X : Cx} {i : Nat} {Γ : List VD} {B B1 B2 B' : Bag} {acc ds : List PyData} {e a b c : Expr} {es : List Expr} {d da db : VD} {y : PyData} {pos p p1 p2 p3 pos' : Pos} {rest ss s1 s2 : List Stmt} {E : EnO}
theorem fj_lst (h : AJ X Γ B es (ds.map .da) B1) (hl : ds.length ≤ 1000) : FJ X Γ B (.List es pos) ds B1 := fun g σ H0 H E O Q q =>
  ⟨_, pe_lst (wa es), h g σ H0 H E O _ fun vs H1 H' t o rs => by
    have rs := RvAll.dat rs
    exact ⟨by rw [rs.length]; exact Nat.le_of_lt (small1000 hl), fun p n => q p vs H1 H' t o rs n⟩⟩
theorem fj_lstD (h : AD X Γ B es ds B1) (hl : ds.length ≤ 1000 := by decide) : FJ X Γ B (.List es pos) ds B1 := fj_lst h hl
theorem sj_own {x : Str} {Es : En} (i : Nat) (nd : X.N.Nodup) (h : FJ X Γ B e ds B1) (hΓ : i < Γ.length)
    (k : OwJ X i (Γ.set i .no) B1 ds rest { nx := fun Γ' B' acc => Es.nx (Γ'.set i (.da (.list acc))) B', fx := Es.nx, rt := Es.rt, bk := fun Γ' B' acc => Es.bk (Γ'.set i (.da (.list acc))) B', ct := fun Γ' B' acc => Es.ct (Γ'.set i (.da (.list acc))) B' })
    (hi : X.N[i]? = some x := by rfl) (hx : Loc X.env.scope x := by first | exact Or.inl rfl | exact Or.inr rfl) (hs : swapsWith e (some (.Name x pos')) pos.line X.env = pure false := by rfl)
    (hf : X.fn x = true ∨ X.env.scope.names.lookup x = some .local := by first | exact Or.inl rfl | exact Or.inr rfl) : SJ X Γ B (.Assign [.Name x pos'] e pos :: rest) Es := fun g σ H0 H Ev O D G =>
  ⟨_, pss_cons (ps_set nd hi hx (we e) hs hf) (ws rest), h g σ H0 H Ev O _ fun a zs H1 H' t o r n => by
    have n1 : H1 a = none := o.ex.free n
    have off : Off g a := fun l z => by
      obtain ⟨_, q, _⟩ := o.bag a l z
      rw [n] at q; cases q
    have on : On X.K g B1 H1 (upd H' a (.lst zs)) := ⟨fun b u q => by
      rw [upd_ne (ne_of_none q n1)]; exact o.ex b u q, fun b l q => by
      obtain ⟨p1, p2, p3⟩ := o.bag b l q
      exact ⟨p1, by rw [upd_ne (ne_of_none p2 n)]; exact p2, p3⟩⟩
    have hi' : i < σ.length := by rw [Ev.len]; exact hΓ
    have ev : EnvD X.K g H1 (σ.set i (some (.ref a))) (Γ.set i .no) := (Ev.mono t.ex).set i (show Rv X.K g H1 (.ref a) .no from trivial)
    refine k g _ H1 H' a H1 _ ⟨⟨Same.refl _, fun b u f h1 h2 => ⟨h1, by rw [upd_ne (ne_of_none h2 n)]; exact h2⟩⟩, n, off, ev, List.getElem?_set_self hi', n1, ⟨zs, upd_same, r⟩, on⟩ D ⟨?_, ?_, ?_, ?_, ?_, ?_, ?_⟩
    · intro Γ' B' acc σ' H2 H2' q w _
      obtain ⟨H3, t3, e3, o3⟩ := w.freeze
      exact G.nx _ _ _ _ _ q (t.trans t3) e3 o3
    · intro Γ' B' σ' H2 H2' q t2 e2 o2
      exact G.nx _ _ _ _ _ q (t.trans t2) e2 o2
    · intro r B' v H2 H2' q t2 o2 rv
      exact G.rt _ _ _ _ _ q (t.trans t2) o2 rv
    · intro Γ' B' acc σ' H2 H2' q w _
      obtain ⟨H3, t3, e3, o3⟩ := w.freeze
      exact G.bk _ _ _ _ _ q (t.trans t3) e3 o3
    · intro Γ' B' acc σ' H2 H2' q w _
      obtain ⟨H3, t3, e3, o3⟩ := w.freeze
      exact G.ct _ _ _ _ _ q (t.trans t3) e3 o3
    · intro _ _ _ _ _ _ q; exact q.elim
    · intro _ _ _ _ _ q; exact q.elim⟩
theorem ow_end (h : SJ X (Γ.set i (.da (.list acc))) B ss { nx := E.fx, rt := E.rt, ct := E.fc }) : OwJ X i Γ B acc ss E := fun g σ A0 A1 a H0 H w D G => by
  obtain ⟨H1, t, ev, o⟩ := w.freeze
  exact h g σ H1 H ev o D ⟨fun Γ' B' σ' H2 H2' q t2 e2 o2 => G.fx _ _ _ _ _ q (t.trans t2) e2 o2, fun r B' v H2 H2' q t2 o2 rv => G.rt _ _ _ _ _ q (t.trans t2) o2 rv, fun _ _ _ _ _ q => q.elim, fun Γ' B' σ' H2 H2' q t2 e2 o2 => G.fc _ _ _ _ _ q (t.trans t2) e2 o2⟩
theorem ow_nil (h : E.nx Γ B acc) : OwJ X i Γ B acc [] E := fun g σ A0 A1 a H0 H w D G => ⟨_, pss_nil, G.nx _ _ _ _ _ _ h w (Same.refl _)⟩
theorem Own.step {K : PySem.W.Frag} {g : Gh} {A0 A1 : Hp} {a : Addr} {σ : L2.St} {H0 H H0' H' : Hp} (w : Own K i g A0 A1 a B Γ acc σ H0 H) (t : To g H0 H H0' H') (o : On K g B1 H0' H') : Own K i g A0 A1 a B1 Γ acc σ H0' H' := by
  obtain ⟨zs, hz, rz⟩ := w.ls
  obtain ⟨p, q⟩ := t.un a _ w.off w.no hz
  exact ⟨w.to.trans t, w.fr, w.off, w.ev.mono t.ex, w.at', p, ⟨zs, q, rz.mono t.ex⟩, o⟩
theorem ow_set {x : Str} (j : Nat) (nd : X.N.Nodup) (hij : j ≠ i) (h : EJ X Γ B e d B1) (k : OwJ X i (Γ.set j d) B1 acc rest E) (hi : X.N[j]? = some x := by rfl)
    (hx : Loc X.env.scope x := by first | exact Or.inl rfl | exact Or.inr rfl) (hs : swapsWith e (some (.Name x pos')) pos.line X.env = pure false := by rfl)
    (hf : X.fn x = true ∨ X.env.scope.names.lookup x = some .local := by first | exact Or.inl rfl | exact Or.inr rfl) : OwJ X i Γ B acc (.Assign [.Name x pos'] e pos :: rest) E := fun g σ A0 A1 a H0 H w D G =>
  ⟨_, pss_cons (ps_set nd hi hx (we e) hs hf) (ws rest), h g σ H0 H w.ev w.on _ fun v H1 H' t o r => by
    have w2 := w.step t o
    exact k g _ A0 A1 a H1 H' ⟨w2.to, w2.fr, w2.off, w2.ev.set j r, by rw [List.getElem?_set_ne hij]; exact w2.at', w2.no, w2.ls, w2.on⟩ D (G.on t.ex)⟩
theorem ow_app {x : Str} (nd : X.N.Nodup) (h : EJ X Γ B e (.da y) B1) (hl : acc.length < 1000) (k : OwJ X i Γ B1 (acc ++ [y]) rest E) (hi : X.N[i]? = some x := by rfl)
    (hv : Vis X.env.scope x := by first | exact Or.inl rfl | exact Or.inr (Or.inl rfl) | exact Or.inr (Or.inr rfl))
    (h1 : (x == ("__debug__" : Str)) = false := by decide) (h2 : (x == ("__classdict__" : Str)) = false := by decide)
    (hbase : attributeBase (.Name x p1) "append" X.env (eval (.Name x p1) X.env) = eval (.Name x p1) X.env := by rfl)
    (hfew : ((backTo p3 (starEach [e] X.env)).all (fun x => !x.1) && (backToKw p3 (keywordEach [] X.env)).all (fun x => x.1.isSome)
      && decide ([e].length + ([] : List Keyword).length + (if ([] : List Keyword).isEmpty then 0 else 1) < 30)) = true := by rfl)
    (hline : (p2.endLine == p3.line) = true := by rfl) (hst : starEach [e] X.env = [(false, eval e X.env)] := by rfl)
    (hs : swapsWith (.Call (.Attribute (.Name x p1) "append" p2) [e] [] p3) none pos.line X.env = pure false := by rfl) :
    OwJ X i Γ B acc (.Expr (.Call (.Attribute (.Name x p1) "append" p2) [e] [] p3) pos :: rest) E := fun g σ A0 A1 a H0 H w D G =>
  ⟨_, pss_cons (ps_expr (pe_bm PySem.F.plainAttrs_list PySem.F.slot_list_append PySem.F.type_list_append mt_append (pe_var hi hv h1 h2) (wa [e]) hbase hfew hline hst rfl) hs) (ws rest), by
    obtain ⟨zs, hz, rz⟩ := w.ls
    refine ⟨_, w.at', .inl ⟨rfl, _, SqL.of hz⟩, ?_⟩
    refine (aj_cons (ds := []) h aj_nil hst) g σ H0 H w.ev w.on _ fun vs H1 H' t o rs => ?_
    obtain ⟨v, rfl, rv⟩ := rv1 rs
    have w2 := w.step t o
    obtain ⟨zs2, hz2, rz2⟩ := w2.ls
    refine ⟨a, zs2, v, rfl, rfl, hz2, by rw [rz2.length]; exact small1000 (Nat.le_of_lt hl), ?_⟩
    refine k g σ A0 A1 a H1 _ ⟨⟨w2.to.ex, fun b u f q1 q2 => ?_⟩, w2.fr, w2.off, w2.ev, w2.at', w2.no, ⟨zs2 ++ [v], upd_same, rz2.app (.cons rv .nil)⟩, ⟨fun b u q => ?_, fun b l q => ?_⟩⟩ D (G.on t.ex)
    · obtain ⟨p, q⟩ := w2.to.un b u f q1 q2
      exact ⟨p, by rw [upd_ne (ne_of_none q2 w2.fr)]; exact q⟩
    · rw [upd_ne (ne_of_none q w2.no)]; exact w2.on.ex b u q
    · obtain ⟨p1, p2, p3⟩ := w2.on.bag b l q
      exact ⟨p1, by rw [upd_ne fun z : b = a => w2.off l (z ▸ q)]; exact p2, p3⟩⟩
theorem ow_while (P : List VD → Bag → List PyData → Prop) (μ : List VD → Bag → List PyData → Nat) (h0 : P Γ B acc)
    (hs : ∀ Γ B acc, P Γ B acc → ∃ x, TJ X Γ B c x B ∧
      (x = true → OwJ X i Γ B acc s1 { nx := fun Γ' B' acc' => P Γ' B' acc' ∧ μ Γ' B' acc' < μ Γ B acc, fx := fun _ _ => False, ct := fun Γ' B' acc' => P Γ' B' acc' ∧ μ Γ' B' acc' < μ Γ B acc, rt := E.rt }) ∧
      (x = false → OwJ X i Γ B acc rest E))
    (hp : PassesOwn (model X.prog X.w) X.A X.env X.xe := by exact PassesOwn.never) : OwJ X i Γ B acc (.While c s1 [] pos :: rest) E := fun g σ A0 A1 a H0 H w D G =>
  ⟨_, pss_cons (ps_while hp (wt c) (ws s1)) (ws rest), by
    refine ⟨fun m σ' H' => ∃ Γ' B' acc' H1, P Γ' B' acc' ∧ μ Γ' B' acc' = m ∧ Own X.K i g A0 A1 a B' Γ' acc' σ' H1 H' ∧ Same H0 H1, ⟨_, Γ, B, acc, H0, h0, rfl, w, Same.refl _⟩, ?_⟩
    rintro m σ' H' ⟨Γ', B', acc', H1, hP, rfl, w1, sm⟩
    obtain ⟨x, ht, hb, hd⟩ := hs Γ' B' acc' hP
    refine ht g σ' H1 H' w1.ev w1.on _ fun H2 H'' t2 o2 => ?_
    have w2 := w1.step t2 o2
    cases x with
    | true =>
      refine iteT ⟨fun σ2 H3' => ∃ m', m' < μ Γ' B' acc' ∧ ∃ Γ2 B2 acc2 H3, P Γ2 B2 acc2 ∧ μ Γ2 B2 acc2 = m' ∧ Own X.K i g A0 A1 a B2 Γ2 acc2 σ2 H3 H3' ∧ Same H0 H3, fun _ _ z => z, ?_⟩
      refine hb rfl g σ' A0 A1 a H2 H'' w2 _ ⟨?_, ?_, ?_, ?_, ?_, ?_, ?_⟩
      · rintro Γ3 B3 acc3 σ3 H3 H3' ⟨q1, q2⟩ w3 m3
        exact ⟨_, q2, Γ3, B3, acc3, H3, q1, rfl, w3, (sm.trans t2.ex).trans m3⟩
      · intro _ _ _ _ _ q; exact q.elim
      · intro r B3 v H3 H3' q t3 o3 rv
        exact G.rt r B3 v H3 H3' q t3 o3 rv
      · intro _ _ _ _ _ _ q; exact q.elim
      · rintro Γ3 B3 acc3 σ3 H3 H3' ⟨q1, q2⟩ w3 m3
        exact ⟨_, q2, Γ3, B3, acc3, H3, q1, rfl, w3, (sm.trans t2.ex).trans m3⟩
      · intro _ _ _ _ _ _ q; exact q.elim
      · intro _ _ _ _ _ q; exact q.elim
    | false => exact iteF (hd rfl g σ' A0 A1 a H2 H'' w2 D (G.on (sm.trans t2.ex)))⟩
end
end Gd
namespace Gd
open PySem PySem.Spec PyProof.Rows L2
section
variable {X : Cx} {Γ : List VD} {B B1 B2 B' : Bag} {e a b c : Expr} {es : List Expr} {d da db dc : VD} {pos p p' pos' : Pos} {rest ss s1 s2 : List Stmt} {E : En}
theorem ej_max {i j : Int} (hc : X.calm = true) (hm : X.mg "max" = none) (ha : EJ X Γ B a (.da (.int i)) B1) (hb : EJ X Γ B1 b (.da (.int j)) B2) (hg : Gl X "max" := by rfl)
    (h1 : starEach [a, b] X.env = (false, eval a X.env) :: starEach [b] X.env := by rfl) (h2 : starEach [b] X.env = (false, eval b X.env) :: starEach [] X.env := by rfl)
    (hpl : (backTo pos (starEach [b] X.env)).any (·.1) = false := by rfl) : EJ X Γ B (.Call (.Name "max" p) [a, b] [] pos) (.da (.int (max i j))) B2 :=
  ej_callB (call_max2 hc) hm (aj_cons ha (aj_cons hb aj_nil h2) h1) (fun g vs H0 H O r Q q => by
    obtain ⟨v, w, rfl, h, h'⟩ := rv2 r
    refine ⟨i, j, by rw [rvI h, rvI h'], ?_⟩
    have e : (if j > i then j else i) = max i j := by split <;> omega
    rw [e]; exact q _ _ _ To.refl O (Rp.int _)) (hg := hg) (hpl := hpl) (he := h1)
theorem ej_min {i j : Int} (hc : X.calm = true) (hm : X.mg "min" = none) (ha : EJ X Γ B a (.da (.int i)) B1) (hb : EJ X Γ B1 b (.da (.int j)) B2) (hg : Gl X "min" := by rfl)
    (h1 : starEach [a, b] X.env = (false, eval a X.env) :: starEach [b] X.env := by rfl) (h2 : starEach [b] X.env = (false, eval b X.env) :: starEach [] X.env := by rfl)
    (hpl : (backTo pos (starEach [b] X.env)).any (·.1) = false := by rfl) : EJ X Γ B (.Call (.Name "min" p) [a, b] [] pos) (.da (.int (min i j))) B2 :=
  ej_callB (call_min2 hc) hm (aj_cons ha (aj_cons hb aj_nil h2) h1) (fun g vs H0 H O r Q q => by
    obtain ⟨v, w, rfl, h, h'⟩ := rv2 r
    refine ⟨i, j, by rw [rvI h, rvI h'], ?_⟩
    have e : (if j < i then j else i) = min i j := by split <;> omega
    rw [e]; exact q _ _ _ To.refl O (Rp.int _)) (hg := hg) (hpl := hpl) (he := h1)
theorem RpAll.bools_of {K : PySem.W.Frag} {H : Hp} : ∀ {xs : List V} {ns : List Bool}, RpAll K H xs (ns.map PyData.bool) → xs = ns.map V.bl
  | [], [], _ => rfl
  | _ :: _, n :: ns, .cons h r => by
    cases h
    rw [RpAll.bools_of r]; rfl
theorem ej_all {bs : List Bool} (hc : X.calm = true) (hm : X.mg "all" = none) (ha : EJ X Γ B a (.da (.list (bs.map .bool))) B1) (hs : starEach [a] X.env = [(false, eval a X.env)] := by rfl) (hg : Gl X "all" := by rfl) :
    EJ X Γ B (.Call (.Name "all" p) [a] [] pos) (.da (.bool (bs.all id))) B1 :=
  ej_callB (cr_all hc) hm (aj_cons ha aj_nil hs) (fun g vs H0 H O r Q q => by
    obtain ⟨v, rfl, h⟩ := rv1 r
    obtain ⟨p, xs, rfl, hx, rs⟩ := rvL h
    rw [RpAll.bools_of rs] at hx
    exact ⟨p, bs, rfl, SqL.of (O.ex _ _ hx), q _ _ _ To.refl O (Rp.bl _)⟩) (hg := hg) (he := hs)
def Glob (K : PySem.W.Frag) (mg : Str → Option Value) (x : Str) (d : PyData) : Prop := ∃ v u, mg x = some u ∧ RelV v u ∧ ∀ H, Rp K H v d
theorem ej_glob {x : Str} {y : PyData} (G : Glob X.K X.mg x y) (hg : Gl X x := by rfl) (hd : (x == ("__debug__" : Str)) = false := by decide) : EJ X Γ B (.Name x pos) (.da y) B :=
  let ⟨_, _, hm, r, h⟩ := G; ej_c (pe_glob hg hm r hd) h
theorem sj_forRev (j : Nat) {x : Str} {ds : List PyData} {px pr pc : Pos} (nd : X.N.Nodup) (hc : X.calm = true) (hm : X.mg "reversed" = none) (P : Nat → List VD → Bag → Prop) (hi : EJ X Γ B e (.da (.list ds)) B1) (h0 : P 0 Γ B1)
    (hs : ∀ i y Γ' B', i < ds.length → ds[ds.length - 1 - i]? = some y → P i Γ' B' → SJ X (Γ'.set j (.da y)) B' s1 { nx := P (i + 1), ct := P (i + 1), bk := fun Γ' B' => SJ X Γ' B' rest E, rt := E.rt })
    (hd : ∀ Γ' B', P ds.length Γ' B' → SJ X Γ' B' rest E) (hN : X.N[j]? = some x := by rfl) (hx : Loc X.env.scope x := by first | exact Or.inl rfl | exact Or.inr rfl)
    (hf : X.fn x = true ∨ X.env.scope.names.lookup x = some .local := by first | exact Or.inl rfl | exact Or.inr rfl)
    (hp : PassesOwn (model X.prog X.w) X.A X.env X.xe := by exact PassesOwn.never) (hq : ∀ x, foldedSetIterable (.Call (.Name "reversed" pr) [e] [] pc) X.env x = pure x := by intro _; rfl)
    (hst : starEach [e] X.env = [(false, eval e X.env)] := by rfl) (hg : Gl X "reversed" := by rfl) :
    SJ X Γ B (.For (.Name x px) (.Call (.Name "reversed" pr) [e] [] pc) s1 [] pos :: rest) E := fun g σ H0 H Ev O D G =>
  ⟨_, pss_cons (ps_for hp hc (pi_reversed hg hm (wa [e]) hst) (pg_name nd hN hx hf) (ws s1) hq) (ws rest), (aj_cons (ds := []) hi aj_nil hst) g σ H0 H Ev O _ fun vs H1 H' t o r => by
    obtain ⟨v, rfl, h⟩ := rv1 r
    obtain ⟨l, xs, rfl, hxs, rs⟩ := rvL h
    refine ⟨l, xs, rfl, SqL.of (o.ex _ _ hxs), ?_⟩
    refine RT.for_Itv (xs := xs) (fun i σ' H'' => ∃ Γ' B' H2, P i Γ' B' ∧ To g H1 H' H2 H'' ∧ EnvD X.K g H2 σ' Γ' ∧ On X.K g B' H2 H'') ⟨Γ, B1, H1, h0, To.refl, Ev.mono t.ex, o⟩ ?_ ?_ ?_
    · rintro i σ' H'' ⟨Γ', B', H2, _, t2, _, o2⟩
      exact SqL.of (o2.ex _ _ (t2.ex _ _ hxs))
    · rintro i y σ' H'' hlt hy ⟨Γ', B', H2, hP, t2, e2, o2⟩
      rw [rs.length] at hlt hy
      obtain ⟨d, hdi, rd⟩ := rs.get hy
      refine hs i d Γ' B' hlt hdi hP g _ H2 H'' (e2.set j (Rp.mono t2.ex rd)) o2 _ ⟨?_, ?_, ?_, ?_⟩
      · exact fun Γ3 B3 σ3 H3 H3' q t3 e3 o3 => ⟨Γ3, B3, H3, q, t2.trans t3, e3, o3⟩
      · exact fun r B3 v H3 H3' q t3 o3 rv => (G.on (t.trans t2)).rt r B3 v H3 H3' q t3 o3 rv
      · exact fun Γ3 B3 σ3 H3 H3' q t3 e3 o3 => q g σ3 H3 H3' e3 o3 D (G.on ((t.trans t2).trans t3))
      · exact fun Γ3 B3 σ3 H3 H3' q t3 e3 o3 => ⟨Γ3, B3, H3, q, t2.trans t3, e3, o3⟩
    · rintro σ' H'' ⟨Γ', B', H2, hP, t2, e2, o2⟩
      rw [rs.length] at hP
      exact hd Γ' B' hP g σ' H2 H'' e2 o2 D (G.on (t.trans t2))⟩
theorem sj_forR (j : Nat) {x : Str} {n : Nat} {px pr pc : Pos} (nd : X.N.Nodup) (hc : X.calm = true) (hm : X.mg "range" = none) (P : Nat → List VD → Bag → Prop) (hi : EJ X Γ B e (.da (.int n)) B1) (hn : n ≤ 100000) (h0 : P 0 Γ B1)
    (hs : ∀ i Γ' B', i < n → P i Γ' B' → SJ X (Γ'.set j (.da (.int (i : Nat)))) B' s1 { nx := P (i + 1), ct := P (i + 1), bk := fun Γ' B' => SJ X Γ' B' rest E, rt := E.rt })
    (hd : ∀ Γ' B', P n Γ' B' → SJ X Γ' B' rest E) (hN : X.N[j]? = some x := by rfl) (hx : Loc X.env.scope x := by first | exact Or.inl rfl | exact Or.inr rfl)
    (hf : X.fn x = true ∨ X.env.scope.names.lookup x = some .local := by first | exact Or.inl rfl | exact Or.inr rfl)
    (hp : PassesOwn (model X.prog X.w) X.A X.env X.xe := by exact PassesOwn.never) (hq : ∀ x, foldedSetIterable (.Call (.Name "range" pr) [e] [] pc) X.env x = pure x := by intro _; rfl)
    (hst : starEach [e] X.env = [(false, eval e X.env)] := by rfl) (hg : Gl X "range" := by rfl) :
    SJ X Γ B (.For (.Name x px) (.Call (.Name "range" pr) [e] [] pc) s1 [] pos :: rest) E := fun g σ H0 H Ev O D G =>
  ⟨_, pss_cons (ps_for hp hc (pi_range1 hg hm (wa [e]) hst) (pg_name nd hN hx hf) (ws s1) hq) (ws rest), (aj_cons (ds := []) hi aj_nil hst) g σ H0 H Ev O _ fun vs H1 H' t o r => by
    obtain ⟨v, rfl, h⟩ := rv1 r
    refine ⟨(n : Int), by rw [rvI h], by omega, by omega, ?_⟩
    rw [Int.toNat_natCast]
    refine for_range (lo := 0) (n := n) (fun i σ' H'' => ∃ Γ' B' H2, P i Γ' B' ∧ To g H1 H' H2 H'' ∧ EnvD X.K g H2 σ' Γ' ∧ On X.K g B' H2 H'') ⟨Γ, B1, H1, h0, To.refl, Ev.mono t.ex, o⟩ ?_ ?_
    · rintro i σ' H'' hlt ⟨Γ', B', H2, hP, t2, e2, o2⟩
      rw [Int.zero_add]
      refine hs i Γ' B' hlt hP g _ H2 H'' (e2.set (d := .da (.int (i : Nat))) j (Rp.int _)) o2 _ ⟨?_, ?_, ?_, ?_⟩
      · exact fun Γ3 B3 σ3 H3 H3' q t3 e3 o3 => ⟨Γ3, B3, H3, q, t2.trans t3, e3, o3⟩
      · exact fun r B3 v H3 H3' q t3 o3 rv => (G.on (t.trans t2)).rt r B3 v H3 H3' q t3 o3 rv
      · exact fun Γ3 B3 σ3 H3 H3' q t3 e3 o3 => q g σ3 H3 H3' e3 o3 D (G.on ((t.trans t2).trans t3))
      · exact fun Γ3 B3 σ3 H3 H3' q t3 e3 o3 => ⟨Γ3, B3, H3, q, t2.trans t3, e3, o3⟩
    · rintro σ' H'' ⟨Γ', B', H2, hP, t2, e2, o2⟩
      exact hd Γ' B' hP g σ' H2 H'' e2 o2 D (G.on (t.trans t2))⟩
end
theorem sq_keep {K : PySem.W.Frag} {H : Hp} {a : Addr} {od : Option Addr} {its : Array Value} {n : Nat} {sl : Array (Option Value)} {xs : List V} (h : K.lookup a = some ⟨.type "tuple", od, .seq its n, sl⟩) (hz : its.size ≤ 60) (r : Vals xs its.toList) : SqT K H a xs :=
  .inr ⟨_, its, n, h, rfl, rfl, Nat.le_trans hz (by rw [sizeLine_eq]; decide), r⟩
end Gd
namespace Gd
open PySem PySem.Spec PyProof.Rows L2
section
variable {X : Cx} {Γ : List VD} {B B1 B2 B' : Bag} {e a b c : Expr} {es : List Expr} {d da db dc : VD} {pos p p' pos' : Pos} {rest ss s1 s2 : List Stmt} {E : En}
theorem shaped_ii (a b : Int) : SeqAt.shaped (.tuple [.int a, .int b]) = true := by
  unfold SeqAt.shaped
  have h1 : (PyData.tuple [.int a, .int b]).canLay0 = true := by simp only [PyData.canLay0, PyData.canLayAll0, Bool.and_self]
  rw [h1]; rfl
theorem eqv_ii (a b c d : Int) : PyData.eqv (.tuple [.int a, .int b]) (.tuple [.int c, .int d]) = (decide (a = c) && decide (b = d)) := by
  simp only [PyData.eqv, PyData.eqvAll, Bool.and_true]
  rw [← eqv_int, ← eqv_int]
  simp only [PyData.eqv]
end
end Gd
namespace Gd
open PySem PySem.Spec PyProof.Rows L2
section
variable {X : Cx} {Γ : List VD} {B B1 B2 B' : Bag} {a b : Expr} {pos : Pos}
theorem ej_inT {x : Str} {ss : List Str} (ha : EJ X Γ B a (.da (.str x)) B1) (hb : EJ X Γ B1 b (.da (.tuple (ss.map .str))) B2) (hm : behindInMarks .In b = false := by rfl) :
    EJ X Γ B (.Compare a [.In] [b] pos) (.da (.bool (ss.any fun s => decide (s = x)))) B2 :=
  ej_bin ha hb (fun _ _ h1 h2 => pe_cmpR op_in_seq h1 h2 hm) fun g v w H0 H O r1 r2 Q q => by
    obtain ⟨p, xs, rfl, hx, rs⟩ := rvT r2
    rw [rvS r1]
    have e := rs.strs_of
    subst e
    refine ⟨p, _, rfl, .inr (seqT O.ex hx), rfl, ?_, ?_⟩
    · rw [List.all_map]; exact List.all_eq_true.mpr fun _ _ => rfl
    · rw [if_neg (by decide), inV_strs]; exact q _ _ _ To.refl O (Rp.bl _)
theorem ej_eqB {i j : Bool} (hu : X.A.units + 64 < cLine) (ha : EJ X Γ B a (.da (.bool i)) B1) (hb : EJ X Γ B1 b (.da (.bool j)) B2) : EJ X Γ B (.Compare a [.Eq] [b] pos) (.da (.bool (decide (i = j)))) B2 := by
  have h := ej_eq (pos := pos) hu ha hb rfl rfl
  have e : PyData.eqv (.bool i) (.bool j) = decide (i = j) := by simp only [PyData.eqv]; cases i <;> cases j <;> rfl
  rw [e] at h; exact h
end
end Gd
namespace Gd
open PySem PySem.Spec PyProof.Rows L2
theorem Cal.name {P : Program} {w : World} {K : PySem.W.Frag} {mg : Str → Option Value} {base : Heap} {x y : Str} {k : Nat} {R : Rel} {mg' : Str → Option Value} (e : mg x = mg y) (c : Cal P w K mg base x k R) : Cal P w K mg base y k R := by
  obtain ⟨f, fd, ps, F, hm, h⟩ := c
  exact ⟨f, fd, ps, F, e ▸ hm, h⟩
end Gd
namespace Lw
open PySem PySem.Spec PyProof.Rows L2 Gd Fr
open scoped Rat
structure Qz (n d : Nat) (q : Rat) : Prop where
  nu : Bd n q.num
  de : Bd d (q.den : Int)
theorem Qz.le {n d n' d' : Nat} {q : Rat} (h : Qz n d q) (e : n ≤ n') (f : d ≤ d') : Qz n' d' q := ⟨h.nu.le e, h.de.le f⟩
theorem bd_sum {a n : Nat} {i j : Int} (h : Bd a i) (k : Bd n j) (N : Nat) (h1 : a < N) (h2 : n < N) : Bd N (i + j) := by
  have := Int.natAbs_add_le i j
  have e1 : 2 ^ a ≤ 2 ^ (N - 1) := Nat.pow_le_pow_right (by decide) (by omega)
  have e2 : 2 ^ n ≤ 2 ^ (N - 1) := Nat.pow_le_pow_right (by decide) (by omega)
  have e3 : 2 ^ N = 2 ^ (N - 1) * 2 := by rw [← Nat.pow_succ]; congr 1; omega
  unfold Bd at *
  omega
theorem Qz.add {n d m c : Nat} {x y : Rat} (h : Qz n d x) (k : Qz m c y) (N : Nat) (h1 : n + c < N) (h2 : m + d < N) : Qz N (d + c) (x + y) := by
  rw [← add_div]
  have hne : (x.den : Int) * (y.den : Int) ≠ 0 := Int.mul_ne_zero (den_ne x) (den_ne y)
  have hb := bd_sum (h.nu.mul k.de) (k.nu.mul h.de) N h1 h2
  exact ⟨(divInt_bd hne hb (h.de.mul k.de)).1, (divInt_bd hne hb (h.de.mul k.de)).2⟩
theorem Qz.neg {n d : Nat} {x : Rat} (h : Qz n d x) : Qz n d (-x) := ⟨by rw [Rat.neg_num]; exact h.nu.neg, by rw [Rat.neg_den]; exact h.de⟩
theorem Qz.mul {n d m c : Nat} {x y : Rat} (h : Qz n d x) (k : Qz m c y) : Qz (n + m) (d + c) (x * y) := by
  rw [← mul_div]
  have hne : (x.den : Int) * (y.den : Int) ≠ 0 := Int.mul_ne_zero (den_ne x) (den_ne y)
  exact ⟨(divInt_bd hne (h.nu.mul k.nu) (h.de.mul k.de)).1, (divInt_bd hne (h.nu.mul k.nu) (h.de.mul k.de)).2⟩
theorem cmz {n m : Nat} {i j : Int} (h : Bd n i) (k : Bd m j) (e : n ≤ 100000 := by omega) (e' : m ≤ 100000 := by omega) : CMulW i j := cm h k (by omega)
theorem Qz.nat {a n : Nat} (h : a < 2 ^ n) : Qz n 1 (a : Rat) := ⟨by rw [Rat.num_natCast]; exact Bd.nat h, by rw [Rat.den_natCast]; unfold Bd; decide⟩
def absQ (x : Rat) : Rat := if x < 0 then -x else x
theorem num_neg_iff (x : Rat) : x.num < 0 ↔ x < 0 := by
  rw [Rat.lt_iff]
  show x.num < 0 ↔ x.num * 1 < 0 * _
  rw [Int.mul_one, Int.zero_mul]
theorem absQ_num (x : Rat) : (absQ x).num = (if x.num < 0 then -x.num else x.num) ∧ (absQ x).den = x.den := by
  unfold absQ
  by_cases h : x < 0
  · rw [if_pos h, if_pos ((num_neg_iff x).mpr h), Rat.neg_num, Rat.neg_den]; exact ⟨rfl, rfl⟩
  · rw [if_neg h, if_neg (fun z => h ((num_neg_iff x).mp z))]; exact ⟨rfl, rfl⟩
theorem Qz.abs {n d : Nat} {x : Rat} (h : Qz n d x) : Qz n d (absQ x) := by
  unfold absQ; split
  · exact h.neg
  · exact h
theorem absQ_nonneg (x : Rat) : 0 ≤ absQ x := by unfold absQ; split <;> grind
inductive R_one (v : Rat → PyData) : Rel
  | mk (x : Rat) (B : Bag) : R_one v [.da (fq x)] B (v x) B
def sgn (x : Rat) : Int := if x.num < 0 then 1 else 0
def pt (l m : Int) : Int := if l = 0 then 0 else if 2 * l < m then 1 else if 2 * l = m then 2 else 3
inductive R_part : Rel
  | mk (l m : Int) (B : Bag) (n : Nat) (hl : Bd n l) (hn : n ≤ 90000) : R_part [.da (.int l), .da (.int m)] B (.int (pt l m)) B
def outw (way : Str) (s c part : Int) : Bool :=
  if part = 0 ∨ way = "zero" then false
  else if way = "up" then decide (s = 0)
  else if way = "down" then decide (s = 1)
  else if part = 2 then (decide (way = "away") || decide (c % 2 = 1))
  else decide (part = 3)
inductive R_outw : Rel
  | mk (way : Str) (s c part : Int) (B : Bag) : R_outw [.da (.str way), .da (.int s), .da (.int c), .da (.int part)] B (.bool (outw way s c part)) B
def absI (i : Int) : Int := if i < 0 then -i else i
theorem bd_pow {b : Nat} (k : Nat) (h : b < 2 ^ 6) : Bd (6 * k + 1) (((b ^ k : Nat) : Int)) := by
  unfold Bd
  rw [Int.natAbs_natCast, Nat.pow_succ, Nat.pow_mul]
  have := Nat.pow_le_pow_left (Nat.le_of_lt h) k
  have p : 0 < (2 ^ 6) ^ k := Nat.pow_pos (by decide)
  omega
def intAt (Γ : List VD) (i : Nat) : Int := match Γ[i]? with
  | some (.da (.int m)) => m
  | _ => 0
theorem pow_sq (b k : Nat) : ((b ^ k : Nat) : Int) * ((b ^ k : Nat) : Int) = ((b ^ (k + k) : Nat) : Int) := by rw [← Int.natCast_mul, ← Nat.pow_add]
theorem pow_up (b j k : Nat) : ((b ^ j : Nat) : Int) * ((b ^ k : Nat) : Int) = ((b ^ (j + k) : Nat) : Int) := by rw [← Int.natCast_mul, ← Nat.pow_add]
theorem half (m : Nat) : (m : Int) / 2 = ((m / 2 : Nat) : Int) := by omega
theorem turn_odd {j k m e : Nat} (h : j + k * m = e) (h1 : m % 2 = 1) : (j + k) + (k + k) * (m / 2) = e := by
  have : m = 2 * (m / 2) + 1 := by omega
  rw [this] at h
  generalize m / 2 = t at *
  grind
theorem turn_even {j k m e : Nat} (h : j + k * m = e) (h1 : ¬ m % 2 = 1) : j + (k + k) * (m / 2) = e := by
  have : m = 2 * (m / 2) := by omega
  rw [this] at h
  generalize m / 2 = t at *
  grind
theorem k_le {j k m e : Nat} (h : j + k * m = e) (h1 : 0 < m) : k ≤ e ∧ j ≤ e := by
  have : k * 1 ≤ k * m := Nat.mul_le_mul_left k h1
  omega
theorem j_end {j k m e : Nat} (h : j + k * m = e) (h1 : ¬ 0 < m) : j = e := by
  have : m = 0 := by omega
  subst this; omega
inductive R_pow : Rel
  | mk (b e : Nat) (B : Bag) (hb : b < 2 ^ 6) (he : e ≤ 20000) : R_pow [.da (.int b), .da (.int e)] B (.int ((b ^ e : Nat) : Int)) B
def pw (b : Nat) (e : Int) : Rat := if e < 0 then ((b ^ (-e).toNat : Nat) : Rat)⁻¹ else ((b ^ e.toNat : Nat) : Rat)
theorem fq_nat (n : Nat) : fq (n : Rat) = .tuple [.int n, .int 1] := by unfold fq; rw [Rat.num_natCast, Rat.den_natCast]; rfl
theorem fq_inv {n : Nat} (h : 0 < n) : fq ((n : Rat)⁻¹) = .tuple [.int 1, .int n] := by
  unfold fq
  rw [Rat.num_inv, Rat.den_inv, Rat.num_natCast, Rat.den_natCast, if_neg (by omega), Int.sign_eq_one_of_pos (by omega)]
  rfl
inductive R_power_of : Rel
  | mk (b : Nat) (e : Int) (B : Bag) (h0 : 0 < b) (hb : b < 2 ^ 6) (h1 : -20000 ≤ e) (h2 : e ≤ 20000) : R_power_of [.da (.int b), .da (.int e)] B (fq (pw b e)) B
inductive R_bag : Rel
  | mk (ns : List Int) (B : Bag) (hl : ns.length ≤ 63) : R_bag [.scr ns] B (.list [.int 0, .int 1234567891, .int 0, .list (((ns.take 63).map absI).map .int)]) B
theorem cut_head (ns : List Int) (n : Nat) : cutP (ns.map PyData.int) none (some (n : Int)) = (ns.take n).map PyData.int := by
  unfold cutP
  rw [HT.sIx_none, HT.sIx_nat, List.drop_zero, List.length_map, Nat.sub_zero, ← List.map_take]
  congr 1
  by_cases h : n ≤ ns.length
  · rw [Nat.min_eq_left h]
  · rw [Nat.min_eq_right (by omega), List.take_length, List.take_of_length_le (by omega)]
def cell (B : Bag) : Int := ((B.cs.drop (HT.sIx B.cs.length 0 (some B.z))) ++ [0]).headD 0
def stir (B : Bag) : Bag :=
  if B.x = 0 then ⟨if 10 ^ 18 ≤ cell B then cell B else B.x, (B.y * 48271 + cell B % 2147483647 + 7919 * (B.z + 1)) % 2147483647, B.z + 1, B.cs⟩ else B
def low (B : Bag) : Int := (((B.y + 1) * 39373) % 1000000007 * (((B.y + 1) * 39373) % 1000000007) % 998244353 * 30011) % 998244353 / 7
def tkV (B : Bag) (m : Int) : Int := if 0 < (stir B).x then (stir B).x % m else low (stir B) % m
def tkB (B : Bag) (m : Int) : Bag := if 0 < (stir B).x then { stir B with x := (stir B).x / m } else stir B
theorem tkV_ge (B : Bag) {m : Int} (h : 0 < m) : 0 ≤ tkV B m := by
  unfold tkV; split <;> exact Int.emod_nonneg _ (Int.ne_of_gt h)
theorem tkV_lt (B : Bag) {m : Int} (h : 0 < m) : tkV B m < m := by
  unfold tkV; split <;> exact Int.emod_lt_of_pos _ h
def Bok (B : Bag) : Prop := B.cs.length ≤ 63
theorem stir_ok {B : Bag} (h : Bok B) : Bok (stir B) := by
  unfold stir; split <;> exact h
theorem tkB_ok {B : Bag} (h : Bok B) (m : Int) : Bok (tkB B m) := by
  unfold tkB; split <;> exact stir_ok h
inductive R_take : Rel
  | mk (B : Bag) (m : Int) (h : 0 < m) (hb : Bd 8000 m) (hc : Bok B) : R_take [.bag, .da (.int m)] B (.int (tkV B m)) (tkB B m)
theorem drop_cell (B : Bag) : atI (cutP (B.cs.map PyData.int) (some B.z) none ++ [PyData.int 0]) 0 = some (.int (cell B)) := by
  have e : cutP (B.cs.map PyData.int) (some B.z) none = (B.cs.drop (HT.sIx B.cs.length 0 (some B.z))).map PyData.int := by
    unfold cutP
    rw [HT.sIx_none, List.length_map, ← List.map_drop, List.take_of_length_le]
    rw [List.length_map, List.length_drop]; omega
  rw [e]
  unfold cell
  cases B.cs.drop (HT.sIx B.cs.length 0 (some B.z)) with
  | nil => rfl
  | cons c cs =>
    show atI (PyData.int c :: _) ((0 : Nat) : Int) = some (.int c)
    exact atI_nat rfl
def pick (ds : List PyData) (B : Bag) : PyData := ds.getD (tkV B ds.length).toNat .none
inductive R_some : Rel
  | mk (B : Bag) (ds : List PyData) (h : 0 < ds.length) (hl : ds.length ≤ 1000) (hc : Bok B) : R_some [.bag, .da (.list ds)] B (pick ds B) (tkB B ds.length)
theorem pick_at (ds : List PyData) (B : Bag) (h : 0 < ds.length) : atI ds (tkV B ds.length) = some (pick ds B) := by
  have h0 := tkV_ge B (m := ds.length) (by omega)
  have h1 := tkV_lt B (m := ds.length) (by omega)
  have e : tkV B ds.length = ((tkV B ds.length).toNat : Int) := by omega
  have hlt : (tkV B ds.length).toNat < ds.length := by omega
  conv => lhs; rw [e]
  refine atI_nat ?_
  unfold pick
  rw [List.getD_eq_getElem?_getD, List.getElem?_eq_getElem hlt]; rfl
def wayList : List Str := ["even", "away", "up", "down", "zero"]
end Lw
namespace Lw
open PySem PySem.Spec PyProof.Rows L2 Gd Fr
open scoped Rat
theorem ltle {a b c : Rat} (h : a < b) (k : b ≤ c) : a < c := by grind
theorem lelt {a b c : Rat} (h : a ≤ b) (k : b < c) : a < c := by grind
theorem pw_eq (b : Nat) (e : Int) : pw b e = (b : Rat) ^ e := by
  unfold pw
  by_cases h : e < 0
  · rw [if_pos h]
    have e1 : e = -((-e).toNat : Int) := by omega
    conv => rhs; rw [e1]
    rw [Rat.zpow_neg, Rat.zpow_natCast, Rat.natCast_pow]
  · rw [if_neg h]
    have e1 : e = (e.toNat : Int) := by omega
    conv => rhs; rw [e1]
    rw [Rat.zpow_natCast, Rat.natCast_pow]
section
variable {b p : Nat} (h2 : 2 ≤ b)
include h2
theorem b_pos : (0 : Rat) < (b : Rat) := Rat.natCast_pos.mpr (by omega)
theorem pw_pos (e : Int) : 0 < pw b e := by rw [pw_eq]; exact Rat.zpow_pos (b_pos h2)
theorem pw_ne (e : Int) : pw b e ≠ 0 := fun z => by have := pw_pos h2 e; rw [z] at this; exact absurd this (by decide)
theorem pw_add (x y : Int) : pw b (x + y) = pw b x * pw b y := by
  rw [pw_eq, pw_eq, pw_eq]
  exact Rat.zpow_add (fun z => by have := b_pos h2; rw [z] at this; exact absurd this (by decide)) x y
omit h2 in
theorem pw_nat (n : Nat) : pw b (n : Int) = ((b ^ n : Nat) : Rat) := by
  unfold pw; rw [if_neg (by omega), Int.toNat_natCast]
omit h2 in
theorem pw_zero : pw b 0 = 1 := by
  have := pw_nat (b := b) 0
  rw [Nat.pow_zero] at this; exact this
omit h2 in
theorem pw_of {e : Int} (h : 0 ≤ e) : pw b e = ((b ^ e.toNat : Nat) : Rat) := by
  unfold pw; rw [if_neg (by omega)]
theorem pw_ge1 {e : Int} (h : 0 ≤ e) : 1 ≤ pw b e := by
  rw [pw_of h]
  have : 1 ≤ b ^ e.toNat := Nat.pow_pos (by omega)
  exact Rat.natCast_le_natCast.mpr this
theorem pw_mono {x y : Int} (h : x ≤ y) : pw b x ≤ pw b y := by
  have e : y = (y - x) + x := by omega
  rw [e, pw_add h2]
  have h1 := pw_ge1 h2 (e := y - x) (by omega)
  have := Rat.mul_le_mul_of_nonneg_right h1 (Rat.le_of_lt (pw_pos h2 x))
  rw [Rat.one_mul] at this; exact this
theorem pw_lt {x y : Int} (h : x < y) : pw b x < pw b y := by
  have e : pw b (x + 1) = (b : Rat) * pw b x := by
    rw [Int.add_comm, pw_add h2]; congr 1
    have := pw_nat (b := b) 1; rw [Nat.pow_one] at this; exact this
  have h1 : pw b x < pw b (x + 1) := by
    rw [e]
    have : (1 : Rat) < (b : Rat) := Rat.natCast_lt_natCast.mpr (show 1 < b by omega)
    have := Rat.mul_lt_mul_of_pos_right this (pw_pos h2 x)
    rw [Rat.one_mul] at this; exact this
  exact ltle h1 (pw_mono h2 (by omega))
def IsE (b p : Nat) (low : Int) (q : Rat) (e : Int) : Prop := low ≤ e ∧ q < pw b (p + e) ∧ (e = low ∨ pw b (p + e - 1) ≤ q)
theorem isE_uniq {low e e' : Int} {q : Rat} (h : IsE b p low q e) (h' : IsE b p low q e') : e = e' := by
  have key : ∀ {e e' : Int}, IsE b p low q e → IsE b p low q e' → ¬ e < e' := by
    rintro e e' ⟨a1, a2, a3⟩ ⟨b1, b2, b3⟩ hlt
    rcases b3 with b3 | b3
    · omega
    · have := pw_mono h2 (x := p + e) (y := p + e' - 1) (by omega)
      exact absurd (ltle a2 (Rat.le_trans this b3)) (Rat.lt_irrefl)
  have k1 := key h h'
  have k2 := key h' h
  omega
end
def Nq (b : Nat) (e : Int) (q : Rat) : Int := q.num * ((b ^ (-e).toNat : Nat) : Int)
def Dq (b : Nat) (e : Int) (q : Rat) : Int := (q.den : Int) * ((b ^ e.toNat : Nat) : Int)
def cQ (b : Nat) (e : Int) (q : Rat) : Int := Nq b e q / Dq b e q
def rQ (b : Nat) (e : Int) (q : Rat) : Int := Nq b e q % Dq b e q
def tQ (b : Nat) (e : Int) (q : Rat) : Rat := (rQ b e q : Rat) / (Dq b e q : Rat)
section
variable {b p : Nat} (h2 : 2 ≤ b)
include h2
theorem Dq_pos (e : Int) (q : Rat) : 0 < Dq b e q := Int.mul_pos (den_pos q) (Int.natCast_pos.mpr (Nat.pow_pos (by omega)))
theorem Dq_ne (e : Int) (q : Rat) : ((Dq b e q : Int) : Rat) ≠ 0 := fun z => by
  have := Dq_pos h2 e q
  have e0 : Dq b e q = 0 := Rat.intCast_inj.mp (z.trans (by rfl))
  omega
theorem unit_ND (e : Int) : pw b e * ((b ^ (-e).toNat : Nat) : Rat) = ((b ^ e.toNat : Nat) : Rat) := by
  by_cases h : e < 0
  · have h1 : e.toNat = 0 := by omega
    rw [h1, Nat.pow_zero]
    unfold pw; rw [if_pos h]
    have : ((b ^ (-e).toNat : Nat) : Rat) ≠ 0 := fun z => by
      have h3 : 0 < b ^ (-e).toNat := Nat.pow_pos (by omega)
      have := Rat.natCast_pos.mpr h3
      rw [z] at this; exact absurd this (by decide)
    rw [Rat.mul_comm, Rat.mul_inv_cancel _ this]; rfl
  · have h1 : (-e).toNat = 0 := by omega
    rw [h1, Nat.pow_zero, pw_of (by omega)]
    exact Rat.mul_one _
omit h2 in
theorem num_den (q : Rat) : q * ((q.den : Int) : Rat) = (q.num : Rat) := by
  have h := Rat.num_divInt_den q
  rw [Rat.divInt_eq_div] at h
  have hd : ((q.den : Int) : Rat) ≠ 0 := fun z => by
    have e0 : (q.den : Int) = 0 := Rat.intCast_inj.mp (z.trans (by rfl))
    exact den_ne q e0
  conv => lhs; lhs; rw [← h]
  exact Rat.div_mul_cancel hd
theorem ND (e : Int) (q : Rat) : q * (Dq b e q : Rat) = (Nq b e q : Rat) * pw b e := by
  unfold Dq Nq
  rw [Rat.intCast_mul, Rat.intCast_mul, ← num_den q, Rat.intCast_natCast, Rat.intCast_natCast, Rat.intCast_natCast, ← unit_ND h2 e]
  grind
theorem q_val (e : Int) (q : Rat) : q = ((cQ b e q : Rat) + tQ b e q) * pw b e := by
  have hne := Dq_ne h2 e q
  have h := ND h2 e q
  have hd := Int.emod_add_mul_ediv (Nq b e q) (Dq b e q)
  have hd' : (Nq b e q : Rat) = (rQ b e q : Rat) + (Dq b e q : Rat) * (cQ b e q : Rat) := by
    rw [← Rat.intCast_mul, ← Rat.intCast_add]
    exact congrArg _ hd.symm
  have ht : tQ b e q * (Dq b e q : Rat) = (rQ b e q : Rat) := Rat.div_mul_cancel hne
  have : q * (Dq b e q : Rat) = (((cQ b e q : Rat) + tQ b e q) * pw b e) * (Dq b e q : Rat) := by
    rw [h, hd', ← ht]; grind
  have h3 := congrArg (· / (Dq b e q : Rat)) this
  simp only [Rat.mul_div_cancel hne] at h3
  exact h3
theorem r_ge (e : Int) (q : Rat) : 0 ≤ rQ b e q := Int.emod_nonneg _ (Int.ne_of_gt (Dq_pos h2 e q))
theorem r_lt (e : Int) (q : Rat) : rQ b e q < Dq b e q := Int.emod_lt_of_pos _ (Dq_pos h2 e q)
theorem Dq_posQ (e : Int) (q : Rat) : (0 : Rat) < (Dq b e q : Rat) := Rat.intCast_lt_intCast.mpr (Dq_pos h2 e q)
theorem t_mul (e : Int) (q : Rat) : tQ b e q * (Dq b e q : Rat) = (rQ b e q : Rat) := Rat.div_mul_cancel (Dq_ne h2 e q)
theorem t_lt_iff (e : Int) (q : Rat) (m : Int) (k : Nat) (hk : 0 < k) : (k : Rat) * tQ b e q < (m : Rat) ↔ k * rQ b e q < m * Dq b e q := by
  rw [← Rat.mul_lt_mul_right (Dq_posQ h2 e q), Rat.mul_assoc, t_mul h2, ← Rat.intCast_natCast, ← Rat.intCast_mul, ← Rat.intCast_mul, Rat.intCast_lt_intCast]
theorem t_eq_iff (e : Int) (q : Rat) (m : Int) (k : Nat) : (k : Rat) * tQ b e q = (m : Rat) ↔ k * rQ b e q = m * Dq b e q := by
  rw [← Rat.intCast_inj, Rat.intCast_mul, Rat.intCast_mul, ← t_mul h2, Rat.intCast_natCast, ← Rat.mul_assoc]
  constructor
  · intro h; rw [h]
  · intro h
    have h3 := congrArg (· / (Dq b e q : Rat)) h
    simp only [Rat.mul_div_cancel (Dq_ne h2 e q)] at h3
    exact h3
theorem t_ge (e : Int) (q : Rat) : 0 ≤ tQ b e q := by
  rw [← Rat.not_lt]
  intro h
  have := (t_lt_iff h2 e q 0 1 (by decide)).mp (by rw [show ((1 : Nat) : Rat) = 1 from rfl, Rat.one_mul]; exact h)
  have := r_ge h2 e q
  omega
theorem t_lt1 (e : Int) (q : Rat) : tQ b e q < 1 := by
  have := (t_lt_iff h2 e q 1 1 (by decide)).mpr (by have := r_lt h2 e q; omega)
  rw [show ((1 : Nat) : Rat) = 1 from rfl, Rat.one_mul] at this; exact this
theorem t_zero (e : Int) (q : Rat) : tQ b e q = 0 ↔ rQ b e q = 0 := by
  have := t_eq_iff h2 e q 0 1
  rw [show ((1 : Nat) : Rat) = 1 from rfl, Rat.one_mul] at this
  rw [show ((0 : Int) : Rat) = 0 from rfl] at this
  rw [this]; constructor <;> intro <;> omega
end
end Lw
namespace Lw
open PySem PySem.Spec PyProof.Rows L2 Gd Fr
open scoped Rat
theorem cast_lt {a c : Int} : (a : Rat) < (c : Rat) ↔ a < c := Rat.intCast_lt_intCast
theorem cast_le {a c : Int} : (a : Rat) ≤ (c : Rat) ↔ a ≤ c := Rat.intCast_le_intCast
theorem cast_s (a : Int) : ((a + 1 : Int) : Rat) = (a : Rat) + 1 := by rw [Rat.intCast_add]; rfl
section
variable {b p : Nat} (h2 : 2 ≤ b)
include h2
theorem c_uniq {e : Int} {q s : Rat} {C : Int} (h : q = ((C : Rat) + s) * pw b e) (h0 : 0 ≤ s) (h1 : s < 1) : cQ b e q = C ∧ tQ b e q = s := by
  have hv := q_val h2 e q
  have hu := pw_ne h2 e
  have t0 := t_ge h2 e q
  have t1 := t_lt1 h2 e q
  rw [h] at hv
  have e1 : (C : Rat) + s = (cQ b e q : Rat) + tQ b e q := by
    have := congrArg (· / pw b e) hv
    simp only [Rat.mul_div_cancel hu] at this
    rw [h]; exact this
  have a1 : (C : Rat) < ((cQ b e q + 1 : Int) : Rat) := by rw [cast_s]; grind
  have a2 : (cQ b e q : Rat) < ((C + 1 : Int) : Rat) := by rw [cast_s]; grind
  have a1 := cast_lt.mp a1
  have a2 := cast_lt.mp a2
  have e2 : cQ b e q = C := by omega
  rw [e2] at e1
  exact ⟨e2, by grind⟩
theorem c_ge {q : Rat} (h : 0 ≤ q) (e : Int) : 0 ≤ cQ b e q :=
  Int.ediv_nonneg (Int.mul_nonneg (Rat.num_nonneg.mpr h) (Int.natCast_nonneg _)) (Int.le_of_lt (Dq_pos h2 e q))
theorem c_le (e : Int) (q : Rat) : (cQ b e q : Rat) * pw b e ≤ q := by
  have hv := q_val h2 e q
  have := Rat.mul_le_mul_of_nonneg_right (show (cQ b e q : Rat) ≤ (cQ b e q : Rat) + tQ b e q by have := t_ge h2 e q; grind) (Rat.le_of_lt (pw_pos h2 e))
  rw [← hv] at this; exact this
theorem c_up (e : Int) (q : Rat) : q < ((cQ b e q : Rat) + 1) * pw b e := by
  have hv := q_val h2 e q
  have := Rat.mul_lt_mul_of_pos_right (show (cQ b e q : Rat) + tQ b e q < (cQ b e q : Rat) + 1 by have := t_lt1 h2 e q; grind) (pw_pos h2 e)
  rw [← hv] at this; exact this
theorem pw_p (n : Nat) (e : Int) : pw b (n + e) = (((b ^ n : Nat) : Int) : Rat) * pw b e := by rw [pw_add h2, pw_nat, Rat.intCast_natCast]
theorem c_lt {low e : Int} {q : Rat} (h : IsE b p low q e) : cQ b e q < ((b ^ p : Nat) : Int) := by
  have h1 := lelt (c_le h2 e q) h.2.1
  rw [pw_p h2, Rat.mul_lt_mul_right (pw_pos h2 e)] at h1
  exact cast_lt.mp h1
theorem c_big {low e : Int} {q : Rat} (hp : 1 ≤ p) (h : IsE b p low q e) : e = low ∨ ((b ^ (p - 1) : Nat) : Int) ≤ cQ b e q := by
  rcases h.2.2 with h | h
  · exact .inl h
  · refine .inr ?_
    have e1 : (p : Int) + e - 1 = ((p - 1 : Nat) : Int) + e := by omega
    rw [e1, pw_p h2] at h
    have h1 := lelt h (c_up h2 e q)
    rw [Rat.mul_lt_mul_right (pw_pos h2 e), ← cast_s] at h1
    have := cast_lt.mp h1
    omega
def Can (b p : Nat) (low C e : Int) : Prop := 0 ≤ C ∧ C < ((b ^ p : Nat) : Int) ∧ low ≤ e ∧ (e = low ∨ ((b ^ (p - 1) : Nat) : Int) ≤ C)
theorem spot_can {low e : Int} {q : Rat} (hp : 1 ≤ p) (h0 : 0 ≤ q) (h : IsE b p low q e) : Can b p low (cQ b e q) e := ⟨c_ge h2 h0 e, c_lt h2 h, h.1, c_big h2 hp h⟩
theorem isE_ex (low : Int) (q : Rat) : ∃ e, IsE b p low q e := by
  have step : ∀ n : Nat, q < pw b (p + (low + n)) → ∃ e, IsE b p low q e := by
    intro n
    induction n with
    | zero => intro h; exact ⟨low, Int.le_refl _, by rw [show (low + (0 : Nat) : Int) = low by omega] at h; exact h, .inl rfl⟩
    | succ n ih =>
      intro h
      by_cases h1 : q < pw b (p + (low + n))
      · exact ih h1
      · refine ⟨low + (n + 1 : Nat), by omega, h, .inr ?_⟩
        rw [show (p : Int) + (low + (n + 1 : Nat)) - 1 = p + (low + n) by omega]
        exact Rat.not_lt.mp h1
  refine step (q.num.natAbs + (-(p + low)).toNat) ?_
  have h1 : pw b (q.num.natAbs : Int) ≤ pw b (p + (low + (q.num.natAbs + (-(p + low)).toNat : Nat))) := pw_mono h2 (by omega)
  refine ltle ?_ h1
  rw [pw_nat]
  have h3 : q.num.natAbs < b ^ q.num.natAbs := Nat.lt_pow_self (by omega)
  by_cases hq : 0 ≤ q
  · have h4 : q ≤ (q.num : Rat) := by
      have hd := num_den q
      have h5 : (1 : Rat) ≤ ((q.den : Int) : Rat) := cast_le.mpr (show 1 ≤ (q.den : Int) by have := den_pos q; omega)
      have := Rat.mul_le_mul_of_nonneg_left h5 hq
      rw [hd, Rat.mul_one] at this; exact this
    refine lelt h4 ?_
    rw [← Rat.intCast_natCast]
    exact cast_lt.mpr (by omega)
  · rw [Rat.not_le] at hq
    have := Rat.natCast_pos.mpr (show 0 < b ^ q.num.natAbs by omega)
    exact ltle hq (Rat.le_of_lt this)
end
open Classical in
noncomputable def eQ (b p : Nat) (low : Int) (q : Rat) : Int := if h : ∃ e, IsE b p low q e then h.choose else low
theorem eQ_is {b p : Nat} (h2 : 2 ≤ b) (low : Int) (q : Rat) : IsE b p low q (eQ b p low q) := by
  have h := isE_ex (p := p) h2 low q
  unfold eQ; rw [dif_pos h]; exact h.choose_spec
theorem eQ_of {b p : Nat} (h2 : 2 ≤ b) {low e : Int} {q : Rat} (h : IsE b p low q e) : eQ b p low q = e := isE_uniq h2 (eQ_is h2 low q) h
def upN (b p : Nat) (c e : Int) : Int × Int := if c + 1 = ((b ^ p : Nat) : Int) then (((b ^ (p - 1) : Nat) : Int), e + 1) else (c + 1, e)
def nb (b p : Nat) (o : Bool) (c e : Int) : Int × Int := if o = true then upN b p c e else (c, e)
theorem nb_can {b p : Nat} {low c e : Int} {o : Bool} (h2 : 2 ≤ b) (hp : 2 ≤ p) (h : Can b p low c e) : Can b p low (nb b p o c e).1 (nb b p o c e).2 ∧ (((nb b p o c e).1 : Rat) * pw b (nb b p o c e).2 = (if o = true then (c : Rat) + 1 else (c : Rat)) * pw b e) := by
  obtain ⟨a1, a2, a3, a4⟩ := h
  have e1 : b ^ p = b ^ (p - 1) * b := by rw [← Nat.pow_succ]; congr 1; omega
  have p1 : 0 < b ^ (p - 1) := Nat.pow_pos (by omega)
  have p2 : b ^ (p - 1) * 2 ≤ b ^ (p - 1) * b := Nat.mul_le_mul_left _ h2
  unfold nb
  by_cases ho : o = true
  · rw [if_pos ho, if_pos ho]
    unfold upN
    by_cases hc : c + 1 = ((b ^ p : Nat) : Int)
    · rw [if_pos hc]
      refine ⟨⟨by omega, by omega, by omega, .inr (Int.le_refl _)⟩, ?_⟩
      rw [← cast_s, hc, ← pw_p h2 p e]
      have := pw_p h2 (p - 1) (e + 1)
      rw [← this]
      congr 1; omega
    · rw [if_neg hc]
      exact ⟨⟨by omega, by omega, a3, a4.imp id fun z => by omega⟩, by rw [cast_s]⟩
  · rw [if_neg ho, if_neg ho]
    exact ⟨⟨a1, a2, a3, a4⟩, rfl⟩
def words (l : List Str) : PyData := .tuple (l.map .str)
def nm (s c e : Int) : PyData := .tuple [.str "num", .int s, .int c, .int e]
def isInf (way : Str) (s : Int) : Bool := decide (way = "even" ∨ way = "away") || (decide (way = "up") && decide (s = 0)) || (decide (way = "down") && decide (s = 1))
def tooG (b p : Nat) (high : Int) (way : Str) (s : Int) : PyData := if isInf way s = true then .tuple [.str "inf", .int s] else nm s (((b ^ p : Nat) : Int) - 1) high
def outP (b p : Nat) (high : Int) (way : Str) (s e c part : Int) : PyData :=
  if high < (nb b p (outw way s c part) c e).2 then .tuple [tooG b p high way s, words ["inexact", "over"]]
  else .tuple [nm s (nb b p (outw way s c part) c e).1 (nb b p (outw way s c part) c e).2, if part = 0 then words [] else if c < ((b ^ (p - 1) : Nat) : Int) then words ["inexact", "tiny"] else words ["inexact"]]
noncomputable def rdP (b p : Nat) (low high : Int) (way : Str) (x : Rat) (s : Int) : PyData :=
  outP b p high way (if x = 0 then s else sgn x) (eQ b p low (absQ x)) (cQ b (eQ b p low (absQ x)) (absQ x)) (pt (rQ b (eQ b p low (absQ x)) (absQ x)) (Dq b (eQ b p low (absQ x)) (absQ x)))
end Lw
set_option exponentiation.threshold 4000
namespace Lw
open PySem PySem.Spec PyProof.Rows L2 Gd Fr
open scoped Rat
structure Fm (b p : Nat) (low high : Int) : Prop where
  b2 : 2 ≤ b
  b6 : b < 2 ^ 6
  p2 : 2 ≤ p
  p7 : p ≤ 120
  lo : -1200 ≤ low
  lh : low ≤ high
  hi : high ≤ 1200
  bp : b ^ p < 2 ^ 700
  bl : b ^ (-low).toNat < 2 ^ 2340
  bh : b ^ high.toNat < 2 ^ 2340
def fmP (b p : Nat) (low high : Int) : PyData := .tuple [.int b, .int p, .int low, .int high]
theorem ways {way : Str} (h : way ∈ wayList) : way = "even" ∨ way = "away" ∨ way = "up" ∨ way = "down" ∨ way = "zero" := by unfold wayList at h; simpa using h
theorem pw_bd {b : Nat} (h2 : 2 ≤ b) {e : Int} {n d : Nat} (hn : b ^ e.toNat < 2 ^ n) (hd : b ^ (-e).toNat < 2 ^ d) (h1 : 1 ≤ n) (h1' : 1 ≤ d) : Qz n d (pw b e) := by
  unfold pw
  by_cases h : e < 0
  · rw [if_pos h]
    have hp : 0 < b ^ (-e).toNat := Nat.pow_pos (by omega)
    refine ⟨?_, ?_⟩
    · rw [Rat.num_inv, Rat.num_natCast, Rat.den_natCast]
      have : (((b ^ (-e).toNat : Nat) : Int)).sign = 1 := Int.sign_eq_one_of_pos (by omega)
      rw [this]
      exact (show Bd 1 (1 * ((1 : Nat) : Int)) by unfold Bd; decide).le h1
    · rw [Rat.den_inv, Rat.num_natCast, if_neg (by omega), Int.natAbs_natCast]
      exact Bd.nat hd
  · rw [if_neg h]
    exact ⟨by rw [Rat.num_natCast]; exact Bd.nat hn, by rw [Rat.den_natCast]; exact (show Bd 1 ((1 : Nat) : Int) by unfold Bd; decide).le h1'⟩
section
variable {b p : Nat} {low high : Int} (F : Fm b p low high)
include F
theorem Fm.pow_lo {e : Int} (h : low ≤ e) : b ^ (-e).toNat < 2 ^ 2340 := Nat.lt_of_le_of_lt (Nat.pow_le_pow_right (by have := F.b2; omega) (by omega)) F.bl
theorem Fm.e_bd {q : Rat} {e : Int} {n d : Nat} (hq : Qz n d q) (h0 : 0 ≤ q) (hE : IsE b p low q e) : (q.den * b ^ e.toNat < 2 ^ n ∧ 0 < e ∧ low < e) ∨ (e ≤ 0 ∨ e = low) := by
  by_cases h : 0 < e ∧ low < e
  · refine .inl ⟨?_, h⟩
    have h3 := hE.2.2
    have h4 : pw b (p + e - 1) ≤ q := by
      rcases h3 with z | z
      · omega
      · exact z
    have h5 : pw b (e : Int) ≤ q := Rat.le_trans (pw_mono F.b2 (by have := F.p2; omega)) h4
    have hd0 : (0 : Rat) ≤ ((q.den : Int) : Rat) := cast_le.mpr (Int.le_of_lt (den_pos q))
    have h6 := Rat.mul_le_mul_of_nonneg_right h5 hd0
    rw [num_den, pw_of (by omega), ← Rat.intCast_natCast, ← Rat.intCast_mul] at h6
    have h7 := cast_le.mp h6
    have h8 := hq.nu
    unfold Bd at h8
    have h9 : (q.den : Int) * ((b ^ e.toNat : Nat) : Int) ≤ q.num := by rw [Int.mul_comm]; exact h7
    have h10 : ((q.den * b ^ e.toNat : Nat) : Int) ≤ q.num := by rw [Int.natCast_mul]; exact h9
    omega
  · exact .inr (by have := hE.1; omega)
end
section
variable {b p : Nat} (h2 : 2 ≤ b)
include h2
end
theorem outw_even {s c k : Int} (hk : k ≠ 0) : outw "even" s c k = if k = 2 then decide (c % 2 = 1) else decide (k = 3) := by
  unfold outw
  rw [if_neg (show ¬ (k = 0 ∨ ("even" : Str) = "zero") from fun z => z.elim hk fun y => absurd y (by decide)), if_neg (show ¬ ("even" : Str) = "up" by decide), if_neg (show ¬ ("even" : Str) = "down" by decide),
    show decide (("even" : Str) = "away") = false by decide, Bool.false_or]
theorem outw_away {s c k : Int} (hk : k ≠ 0) : outw "away" s c k = if k = 2 then true else decide (k = 3) := by
  unfold outw
  rw [if_neg (show ¬ (k = 0 ∨ ("away" : Str) = "zero") from fun z => z.elim hk fun y => absurd y (by decide)), if_neg (show ¬ ("away" : Str) = "up" by decide), if_neg (show ¬ ("away" : Str) = "down" by decide),
    show decide (("away" : Str) = "away") = true by decide, Bool.true_or]
theorem outw_up {s c k : Int} (hk : k ≠ 0) : outw "up" s c k = decide (s = 0) := by
  unfold outw
  rw [if_neg (show ¬ (k = 0 ∨ ("up" : Str) = "zero") from fun z => z.elim hk fun y => absurd y (by decide)), if_pos (show ("up" : Str) = "up" by decide)]
theorem outw_down {s c k : Int} (hk : k ≠ 0) : outw "down" s c k = decide (s = 1) := by
  unfold outw
  rw [if_neg (show ¬ (k = 0 ∨ ("down" : Str) = "zero") from fun z => z.elim hk fun y => absurd y (by decide)), if_neg (show ¬ ("down" : Str) = "up" by decide), if_pos (show ("down" : Str) = "down" by decide)]
theorem outw_zero {s c k : Int} : outw "zero" s c k = false := by
  unfold outw
  rw [if_pos (show k = 0 ∨ ("zero" : Str) = "zero" from .inr rfl)]
end Lw
set_option exponentiation.threshold 4000
namespace Lw
open PySem PySem.Spec PyProof.Rows L2 Gd Fr
open scoped Rat
section
variable {b p : Nat} {low e : Int} {q : Rat} (h2 : 2 ≤ b) (hp : 2 ≤ p)
include h2
omit h2 in
theorem pt_zero : pt (rQ b e q) (Dq b e q) = 0 ↔ rQ b e q = 0 := by
  unfold pt
  constructor
  · intro h
    by_cases hr : rQ b e q = 0
    · exact hr
    · rw [if_neg hr] at h
      split at h
      · exact absurd h (by decide)
      · split at h <;> exact absurd h (by decide)
  · intro h; rw [if_pos h]
include hp
end
end Lw
set_option exponentiation.threshold 20000
namespace Lw
open PySem PySem.Spec PyProof.Rows L2 Gd Fr
open scoped Rat
theorem pow_uniq {b k j w : Nat} (h2 : 2 ≤ b) (h1 : b ^ k ≤ w) (h3 : w < b ^ (k + 1)) (h1' : b ^ j ≤ w) (h3' : w < b ^ (j + 1)) : k = j := by
  have a := (Nat.pow_lt_pow_iff_right (by omega : 1 < b)).mp (Nat.lt_of_le_of_lt h1 h3')
  have c := (Nat.pow_lt_pow_iff_right (by omega : 1 < b)).mp (Nat.lt_of_le_of_lt h1' h3)
  omega
def sqs (b j : Nat) : List PyData := (List.range j).map fun i => .int ((b ^ 2 ^ i : Nat) : Int)
theorem sqs_len (b j : Nat) : (sqs b j).length = j := by unfold sqs; rw [List.length_map, List.length_range]
theorem sqs_succ (b j : Nat) : sqs b j ++ [.int ((b ^ 2 ^ j : Nat) : Int)] = sqs b (j + 1) := by
  unfold sqs; rw [List.range_succ, List.map_append]; rfl
theorem sqs_at {b j i : Nat} {y : PyData} (h : (sqs b j)[i]? = some y) : y = .int ((b ^ 2 ^ i : Nat) : Int) := by
  unfold sqs at h
  rw [List.getElem?_map] at h
  obtain ⟨k, hk, rfl⟩ := Option.map_eq_some_iff.mp h
  have := (List.getElem?_range (by
    have := (List.getElem?_eq_some_iff.mp hk).1
    rwa [List.length_range] at this) : (List.range j)[i]? = some i)
  rw [this] at hk; cases hk; rfl
theorem sq_next (b j : Nat) : ((b ^ 2 ^ j : Nat) : Int) * ((b ^ 2 ^ j : Nat) : Int) = ((b ^ 2 ^ (j + 1) : Nat) : Int) := by
  rw [← Int.natCast_mul, ← Nat.pow_add, Nat.pow_succ, Nat.mul_two]
theorem step_yes {b w k m l : Nat} (h2 : 2 ≤ b) (hl : l = w / b ^ (k * 2 ^ (m + 1))) (hlt : l < b ^ 2 ^ (m + 1)) (h1 : 1 ≤ l) (hs : b ^ 2 ^ m ≤ l) :
    l / b ^ 2 ^ m = w / b ^ ((2 * k + 1) * 2 ^ m) ∧ l / b ^ 2 ^ m < b ^ 2 ^ m ∧ 1 ≤ l / b ^ 2 ^ m := by
  have hp : 0 < b ^ 2 ^ m := Nat.pow_pos (by omega)
  refine ⟨?_, ?_, (Nat.one_le_div_iff hp).mpr hs⟩
  · rw [hl, Nat.div_div_eq_div_mul, ← Nat.pow_add]
    congr 2
    rw [Nat.pow_succ]; grind
  · rw [Nat.div_lt_iff_lt_mul hp, ← Nat.pow_add, ← Nat.mul_two, ← Nat.pow_succ]; exact hlt
theorem step_no {b w k m l : Nat} (hl : l = w / b ^ (k * 2 ^ (m + 1))) (hs : ¬ b ^ 2 ^ m ≤ l) : l = w / b ^ ((2 * k) * 2 ^ m) ∧ l < b ^ 2 ^ m := by
  refine ⟨?_, by omega⟩
  rw [hl]; congr 2
  rw [Nat.pow_succ]; grind
theorem log_end {b w k l : Nat} (h2 : 2 ≤ b) (hl : l = w / b ^ (k * 2 ^ 0)) (hlt : l < b ^ 2 ^ 0) (h1 : 1 ≤ l) : b ^ k ≤ w ∧ w < b ^ (k + 1) := by
  rw [Nat.pow_zero, Nat.mul_one] at hl
  rw [Nat.pow_zero, Nat.pow_one] at hlt
  have hp : 0 < b ^ k := Nat.pow_pos (by omega)
  rw [hl] at hlt h1
  refine ⟨(Nat.one_le_div_iff hp).mp h1, ?_⟩
  rw [Nat.div_lt_iff_lt_mul hp] at hlt
  rw [Nat.pow_succ, Nat.mul_comm]; exact hlt
section
variable {b : Nat} (h2 : 2 ≤ b)
include h2
theorem pw_sub (i j : Nat) : pw b ((j : Int) - i) * ((b ^ i : Nat) : Rat) = ((b ^ j : Nat) : Rat) := by
  rw [← pw_nat, ← pw_add h2, ← pw_nat]; congr 1; omega
theorem lt_pw_iff (q : Rat) (i j : Nat) : q < pw b ((j : Int) - i) ↔ q.num * ((b ^ i : Nat) : Int) < (q.den : Int) * ((b ^ j : Nat) : Int) := by
  have hd : (0 : Rat) < ((q.den : Int) : Rat) := cast_lt.mpr (den_pos q)
  have hi : (0 : Rat) < ((b ^ i : Nat) : Rat) := Rat.natCast_pos.mpr (Nat.pow_pos (by omega))
  rw [← Rat.mul_lt_mul_right hi, ← Rat.mul_lt_mul_right hd, pw_sub h2, ← cast_lt, Rat.intCast_mul, Rat.intCast_mul, ← num_den q, Rat.intCast_natCast, Rat.intCast_natCast, Rat.intCast_natCast]
  constructor <;> intro h <;> grind
theorem pw_le_iff (q : Rat) (i j : Nat) : pw b ((j : Int) - i) ≤ q ↔ (q.den : Int) * ((b ^ j : Nat) : Int) ≤ q.num * ((b ^ i : Nat) : Int) := by
  rw [← Rat.not_lt, lt_pw_iff h2, Int.not_lt]
end
theorem pw_num (b : Nat) (h2 : 2 ≤ b) (e : Int) : (pw b e).num = ((b ^ e.toNat : Nat) : Int) ∧ ((pw b e).den : Int) = ((b ^ (-e).toNat : Nat) : Int) := by
  unfold pw
  by_cases h : e < 0
  · rw [if_pos h, Rat.num_inv, Rat.den_inv, Rat.num_natCast, Rat.den_natCast]
    have hp : 0 < b ^ (-e).toNat := Nat.pow_pos (by omega)
    have e1 : e.toNat = 0 := by omega
    rw [if_neg (by omega), Int.sign_eq_one_of_pos (by omega), e1, Nat.pow_zero, Int.natAbs_natCast]
    exact ⟨rfl, rfl⟩
  · rw [if_neg h, Rat.num_natCast, Rat.den_natCast]
    have e1 : (-e).toNat = 0 := by omega
    rw [e1, Nat.pow_zero]
    exact ⟨rfl, rfl⟩
theorem fq_pw {b : Nat} (h2 : 2 ≤ b) (e : Int) : fq (pw b e) = .tuple [.int ((b ^ e.toNat : Nat) : Int), .int ((b ^ (-e).toNat : Nat) : Int)] := by
  unfold fq; rw [(pw_num b h2 e).1, (pw_num b h2 e).2]
theorem fq_int (n : Int) : fq (n : Rat) = .tuple [.int n, .int 1] := by unfold fq; rw [Rat.num_intCast, Rat.den_intCast]; rfl
inductive Va where
  | nan
  | inf (s : Int)
  | num (s c e : Int)
def Va.l : Va → List PyData
  | .nan => [.str "nan"]
  | .inf s => [.str "inf", .int s]
  | .num s c e => [.str "num", .int s, .int c, .int e]
def Va.d (v : Va) : PyData := .tuple v.l
def Va.isNan : Va → Bool
  | .nan => true
  | _ => false
def Va.isInf : Va → Bool
  | .inf _ => true
  | _ => false
def Va.sg : Va → Int
  | .nan => 0
  | .inf s => s
  | .num s _ _ => s
def Va.opp : Va → Va
  | .nan => .nan
  | .inf s => .inf (1 - s)
  | .num s c e => .num (1 - s) c e
def Va.wQ (b : Nat) : Va → Rat
  | .num s c e => ((if s = 1 then -c else c : Int) : Rat) * pw b e
  | _ => 0
def Vok (b p : Nat) (low high : Int) : Va → Prop
  | .nan => True
  | .inf s => s = 0 ∨ s = 1
  | .num s c e => (s = 0 ∨ s = 1) ∧ 0 ≤ c ∧ c < ((b ^ p : Nat) : Int) ∧ low ≤ e ∧ e ≤ high
theorem Vok.opp {b p : Nat} {low high : Int} {v : Va} (h : Vok b p low high v) : Vok b p low high v.opp := by
  cases v with
  | nan => trivial
  | inf s => show (1 - s = 0 ∨ 1 - s = 1); have h : s = 0 ∨ s = 1 := h; omega
  | num s c e => obtain ⟨h1, h3⟩ := h; exact ⟨by omega, h3⟩
end Lw
set_option exponentiation.threshold 20000
namespace Lw
open PySem PySem.Spec PyProof.Rows L2 Gd Fr
open scoped Rat
theorem isE_zero {b p : Nat} (h2 : 2 ≤ b) (low : Int) : IsE b p low 0 low := ⟨Int.le_refl _, pw_pos h2 _, .inl rfl⟩
theorem cQ_zero (b : Nat) (e : Int) : cQ b e 0 = 0 ∧ rQ b e 0 = 0 := by
  unfold cQ rQ Nq
  rw [show ((0 : Rat).num) = 0 from rfl, Int.zero_mul, Int.zero_ediv, Int.zero_emod]
  exact ⟨rfl, rfl⟩
theorem rdP_zero {b p : Nat} {low high : Int} (h2 : 2 ≤ b) (hl : low ≤ high) (way : Str) (s : Int) : rdP b p low high way 0 s = .tuple [nm s 0 low, .tuple []] := by
  have ha : absQ 0 = 0 := by unfold absQ; rw [if_neg (by decide)]
  unfold rdP
  rw [ha, if_pos rfl, eQ_of h2 (isE_zero (p := p) h2 low), (cQ_zero b low).1]
  have hp : pt (rQ b low 0) (Dq b low 0) = 0 := pt_zero.mpr (cQ_zero b low).2
  rw [hp]
  unfold outP
  have ho : outw way s 0 0 = false := by unfold outw; rw [if_pos (.inl rfl)]
  rw [ho]
  show (if high < low then _ else _) = _
  rw [if_neg (by omega), if_pos rfl]; rfl
theorem rdP_pos {b p : Nat} {low high : Int} {way : Str} {x : Rat} {s : Int} (h : x ≠ 0) :
    rdP b p low high way x s = outP b p high way (sgn x) (eQ b p low (absQ x)) (cQ b (eQ b p low (absQ x)) (absQ x)) (pt (rQ b (eQ b p low (absQ x)) (absQ x)) (Dq b (eQ b p low (absQ x)) (absQ x))) := by
  unfold rdP; rw [if_neg h]
theorem absQ_pos {x : Rat} (h : x ≠ 0) : 0 < absQ x := by unfold absQ; split <;> grind
inductive R_zero : Rel
  | mk (b p : Nat) (low high : Int) (s : Int) (B : Bag) : R_zero [.da (fmP b p low high), .da (.int s)] B (nm s 0 low) B
theorem at1 {v : Va} (h : v.isNan = false) : atI v.l 1 = some (.int v.sg) := by cases v <;> first | rfl | cases h
theorem e_of_log {b p : Nat} (h2 : 2 ≤ b) {low k : Int} {q : Rat} (h1 : pw b k ≤ q) (h3 : q < pw b (k + 1)) : max low (k - p + 1) = eQ b p low q := by
  refine (eQ_of h2 ⟨by omega, ltle h3 (pw_mono h2 (by omega)), ?_⟩).symm
  by_cases h : k - p + 1 ≤ low
  · exact .inl (by omega)
  · refine .inr ?_
    have e : (p : Int) + max low (k - p + 1) - 1 = k := by omega
    rw [e]; exact h1
theorem log_ex {b : Nat} (h2 : 2 ≤ b) {q : Rat} (h0 : 0 < q) : ∃ k, pw b k ≤ q ∧ q < pw b (k + 1) := by
  -- one digit, from an e far below on
  obtain ⟨m, hm⟩ : ∃ m : Nat, pw b (-(m : Int)) ≤ q := by
    refine ⟨q.den, ?_⟩
    have := (pw_le_iff h2 q q.den 0).mpr (by
      rw [Nat.pow_zero]
      have h1 : q.den < b ^ q.den := Nat.lt_pow_self (by omega)
      have hn : 1 ≤ q.num := by
        have : ¬ q.num ≤ 0 := fun z => by
          have h3 : ¬ 0 < q := fun z2 => by
            have := (Rat.lt_iff 0 q).mp z2
            rw [show (0 : Rat).num = 0 from rfl, Int.zero_mul, show ((0 : Rat).den : Int) = 1 from rfl] at this
            omega
          exact h3 h0
        omega
      have h4 : ((b ^ q.den : Nat) : Int) * 1 ≤ ((b ^ q.den : Nat) : Int) * q.num := Int.mul_le_mul_of_nonneg_left hn (Int.natCast_nonneg _)
      rw [Int.mul_comm q.num]
      show (q.den : Int) * 1 ≤ _
      omega)
    rw [show ((0 : Nat) : Int) - (q.den : Nat) = -(q.den : Int) by omega] at this
    exact this
  obtain ⟨e, h1, h3, h4⟩ := isE_ex (p := 1) h2 (-(m : Int) - 1) q
  refine ⟨(1 : Nat) + e - 1, ?_, ?_⟩
  · rcases h4 with z | z
    · refine Rat.le_trans (pw_mono h2 (by omega)) hm
    · exact z
  · rw [show ((1 : Nat) : Int) + e - 1 + 1 = (1 : Nat) + e by omega]; exact h3
end Lw
namespace Lw
open PySem PySem.Spec PyProof.Rows L2 Gd Fr
theorem in2 (way : Str) : (["even", "away"] : List Str).any (fun s => decide (s = way)) = decide (way = "even" ∨ way = "away") := by
  show (decide (("even" : Str) = way) || (decide (("away" : Str) = way) || false)) = _
  rw [Bool.or_false, Bool.decide_or]
  congr 1 <;> exact decide_eq_decide.mpr ⟨Eq.symm, Eq.symm⟩
theorem isInf_or (way : Str) (s : Int) : ((["even", "away"] : List Str).any (fun s => decide (s = way)) || ((decide (way = "up") && decide (s = 0)) || (decide (way = "down") && decide (s = 1)))) = isInf way s := by
  rw [in2]; unfold isInf; rw [Bool.or_assoc]
end Lw
namespace Lw
open PySem PySem.Spec PyProof.Rows L2 Gd Fr
end Lw
namespace Lw
open PySem PySem.Spec PyProof.Rows L2 Gd Fr
theorem nice_word {x : Str} (h : (x.cps.all fun c => c < 0x110000) = true) : nice (.str x) = true := by
  simp only [nice]; exact h
end Lw
set_option exponentiation.threshold 20000
namespace Lw
open PySem PySem.Spec PyProof.Rows L2 Gd Fr
open scoped Rat
abbrev F4 := Nat × Nat × Int × Int
def F4.d (t : F4) : PyData := fmP t.1 t.2.1 t.2.2.1 t.2.2.2
def F4.ok (t : F4) : Prop := Fm t.1 t.2.1 t.2.2.1 t.2.2.2
def fmB (t : F4) : Bool :=
  decide (2 ≤ t.1) && decide (t.1 < 2 ^ 6) && decide (2 ≤ t.2.1) && decide (t.2.1 ≤ 120) && decide (-1200 ≤ t.2.2.1) && decide (t.2.2.1 ≤ t.2.2.2) && decide (t.2.2.2 ≤ 1200) &&
    decide (t.1 ^ t.2.1 < 2 ^ 700) && decide (t.1 ^ (-t.2.2.1).toNat < 2 ^ 2340) && decide (t.1 ^ t.2.2.2.toNat < 2 ^ 2340)
theorem fm_of {t : F4} (h : fmB t = true) : t.ok := by
  unfold fmB at h
  simp only [Bool.and_eq_true, decide_eq_true_eq] at h
  obtain ⟨⟨⟨⟨⟨⟨⟨⟨⟨a1, a2⟩, a3⟩, a4⟩, a5⟩, a6⟩, a7⟩, a8⟩, a9⟩, a10⟩ := h
  exact ⟨a1, a2, a3, a4, a5, a6, a7, a8, a9, a10⟩
structure Pows (b p : Nat) : Prop where
  l2 : 2 ≤ b ^ (p - 1)
  eq : b ^ p = b ^ (p - 1) * b
  ge : b ^ (p - 1) * 2 ≤ b ^ p
theorem Fm.pows {b p : Nat} {low high : Int} (F : Fm b p low high) : Pows b p := by
  have h2 := F.b2; have hp := F.p2
  have e1 : b ^ p = b ^ (p - 1) * b := by rw [← Nat.pow_succ]; congr 1; omega
  refine ⟨?_, e1, by rw [e1]; exact Nat.mul_le_mul_left _ h2⟩
  have h1 : b ^ 1 ≤ b ^ (p - 1) := Nat.pow_le_pow_right (by omega) (by omega)
  rw [Nat.pow_one] at h1; omega
def Va.c : Va → Int
  | .num _ c _ => c
  | _ => 0
def Va.e : Va → Int
  | .num _ _ e => e
  | _ => 0
section
variable (b p : Nat) (low high : Int)
end
section
variable {b p : Nat} {low high : Int} (F : Fm b p low high)
include F
end
end Lw
set_option exponentiation.threshold 20000
namespace Lw
open PySem PySem.Spec PyProof.Rows L2 Gd Fr
open scoped Rat
end Lw
namespace Lw
open PySem PySem.Spec PyProof.Rows L2 Gd Fr
open scoped Rat
theorem great_can {b p : Nat} {low high : Int} (F : Fm b p low high) : Can b p low (((b ^ p : Nat) : Int) - 1) high := by
  have P := F.pows; have l2 := P.l2; have ge := P.ge; have lh := F.lh
  exact ⟨by omega, by omega, lh, .inr (by omega)⟩
end Lw
namespace Lw
open PySem PySem.Spec PyProof.Rows L2 Gd Fr
open scoped Rat
theorem in2' (u v way : Str) : ([u, v] : List Str).any (fun s => decide (s = way)) = decide (way = u ∨ way = v) := by
  show (decide (u = way) || (decide (v = way) || false)) = _
  rw [Bool.or_false, Bool.decide_or]
  congr 1 <;> exact decide_eq_decide.mpr ⟨Eq.symm, Eq.symm⟩
theorem sgn_01 (x : Rat) : sgn x = 0 ∨ sgn x = 1 := by unfold sgn; split <;> simp
end Lw
namespace Lw
open PySem PySem.Spec PyProof.Rows L2 Gd Fr
open scoped Rat
section
variable {b p : Nat} {low high : Int} (F : Fm b p low high)
include F
end
end Lw
set_option exponentiation.threshold 20000
namespace Lw
open PySem PySem.Spec PyProof.Rows L2 Gd Fr
open scoped Rat
structure Nd (D W : Nat) (d : PyData) : Prop where
  ni : nice d = true
  dp : d.depth ≤ D
  bk : d.bulk ≤ W
structure NdA (D W : Nat) (ds : List PyData) : Prop where
  ni : niceAll ds = true
  dp : PyData.depthAll ds ≤ D
  bk : PyData.bulkAll ds ≤ W
theorem NdA.nil {D W : Nat} : NdA D W [] := ⟨niceAll_nil, by simp only [PyData.depthAll]; omega, by simp only [PyData.bulkAll]; omega⟩
theorem NdA.cons {D W W' : Nat} {d : PyData} {ds : List PyData} (h : Nd D W d) (r : NdA D W' ds) : NdA D (W + 1 + W') (d :: ds) :=
  ⟨niceAll_cons h.ni r.ni, by have := h.dp; have := r.dp; simp only [PyData.depthAll]; omega, by have := h.bk; have := r.bk; simp only [PyData.bulkAll]; omega⟩
theorem NdA.le {D W D' W' : Nat} {ds : List PyData} (h : NdA D W ds) (e : D ≤ D') (f : W ≤ W') : NdA D' W' ds := ⟨h.ni, Nat.le_trans h.dp e, Nat.le_trans h.bk f⟩
theorem Nd.le {D W D' W' : Nat} {d : PyData} (h : Nd D W d) (e : D ≤ D') (f : W ≤ W') : Nd D' W' d := ⟨h.ni, Nat.le_trans h.dp e, Nat.le_trans h.bk f⟩
theorem Nd.list {D W : Nat} {ds : List PyData} (h : NdA D W ds) : Nd (D + 1) W (.list ds) := ⟨nice_list h.ni, by have := h.dp; simp only [PyData.depth]; omega, by have := h.bk; simp only [PyData.bulk]; omega⟩
theorem Nd.tuple {D W : Nat} {ds : List PyData} (h : NdA D W ds) : Nd (D + 1) W (.tuple ds) := ⟨nice_tuple h.ni, by have := h.dp; simp only [PyData.depth]; omega, by have := h.bk; simp only [PyData.bulk]; omega⟩
theorem Nd.int {n : Nat} {i : Int} (h : Bd n i) (e : n ≤ 1920 := by decide) : Nd 1 0 (.int i) := ⟨nice_int h e, by simp only [PyData.depth]; omega, by simp only [PyData.bulk]; omega⟩
theorem Nd.str {x : Str} (h : (x.cps.all fun c => c < 0x110000) = true) (h2 : x.cps.size ≤ 20) : Nd 1 20 (.str x) := ⟨nice_word h, by simp only [PyData.depth]; omega, by simp only [PyData.bulk]; exact h2⟩
theorem Nd.bool {x : Bool} : Nd 1 0 (.bool x) := ⟨by simp only [nice], by simp only [PyData.depth]; omega, by simp only [PyData.bulk]; omega⟩
theorem Nd.none : Nd 1 0 .none := ⟨by simp only [nice], by simp only [PyData.depth]; omega, by simp only [PyData.bulk]; omega⟩
theorem Nd.okd {D W : Nat} {d : PyData} (h : Nd D W d) (e : D ≤ 60 := by decide) (f : W ≤ 5000 := by decide) : Okd d := ⟨h.ni, Nat.le_trans h.dp e, Nat.le_trans h.bk f⟩
def flagW : List Str := ["by", "inexact", "invalid", "over", "tiny"]
theorem words_nd {l : List Str} (h : ∀ x ∈ l, x ∈ flagW) : NdA 1 (21 * l.length) (l.map .str) := by
  induction l with
  | nil => exact .nil
  | cons x l ih =>
    have hx := h x List.mem_cons_self
    have : Nd 1 20 (.str x) := by
      unfold flagW at hx
      simp only [List.mem_cons, List.not_mem_nil, or_false] at hx
      rcases hx with rfl | rfl | rfl | rfl | rfl <;> exact Nd.str (by decide +kernel) (by decide +kernel)
    have := NdA.cons this (ih fun y hy => h y (List.mem_cons_of_mem _ hy))
    exact this.le (Nat.le_refl _) (by rw [List.length_cons]; omega)
section
variable {b p : Nat} {low high : Int} (F : Fm b p low high)
include F
end
def Va.isNum : Va → Bool
  | .num _ _ _ => true
  | _ => false
section
variable (b p : Nat) (low high : Int)
end
end Lw
set_option exponentiation.threshold 20000
namespace Lw
open PySem PySem.Spec PyProof.Rows L2 Gd Fr
open scoped Rat
def Va.isZ : Va → Bool
  | .num _ c _ => decide (c = 0)
  | _ => false
section
variable {b p : Nat} {low high : Int} (F : Fm b p low high)
include F
end
def outV (b p : Nat) (high : Int) (way : Str) (s e c part : Int) : Va :=
  if high < (nb b p (outw way s c part) c e).2 then (if isInf way s = true then .inf s else .num s (((b ^ p : Nat) : Int) - 1) high)
  else .num s (nb b p (outw way s c part) c e).1 (nb b p (outw way s c part) c e).2
def outF (b p : Nat) (high : Int) (way : Str) (s e c part : Int) : List Str :=
  if high < (nb b p (outw way s c part) c e).2 then ["inexact", "over"] else if part = 0 then [] else if c < ((b ^ (p - 1) : Nat) : Int) then ["inexact", "tiny"] else ["inexact"]
theorem outP_eq (b p : Nat) (high : Int) (way : Str) (s e c part : Int) : outP b p high way s e c part = .tuple [(outV b p high way s e c part).d, words (outF b p high way s e c part)] := by
  unfold outP outV outF
  split
  · unfold tooG; split <;> rfl
  · split
    · rfl
    · split <;> rfl
noncomputable def rdV (b p : Nat) (low high : Int) (way : Str) (x : Rat) (s : Int) : Va :=
  outV b p high way (if x = 0 then s else sgn x) (eQ b p low (absQ x)) (cQ b (eQ b p low (absQ x)) (absQ x)) (pt (rQ b (eQ b p low (absQ x)) (absQ x)) (Dq b (eQ b p low (absQ x)) (absQ x)))
noncomputable def rdF (b p : Nat) (low high : Int) (way : Str) (x : Rat) (s : Int) : List Str :=
  outF b p high way (if x = 0 then s else sgn x) (eQ b p low (absQ x)) (cQ b (eQ b p low (absQ x)) (absQ x)) (pt (rQ b (eQ b p low (absQ x)) (absQ x)) (Dq b (eQ b p low (absQ x)) (absQ x)))
theorem rdP_eq (b p : Nat) (low high : Int) (way : Str) (x : Rat) (s : Int) : rdP b p low high way x s = .tuple [(rdV b p low high way x s).d, words (rdF b p low high way x s)] := outP_eq _ _ _ _ _ _ _ _
section
variable (b p : Nat) (low high : Int)
end
section
variable {b p : Nat} {low high : Int} (F : Fm b p low high)
include F
end
end Lw
namespace Lw
open PySem PySem.Spec PyProof.Rows L2 Gd Fr
end Lw
set_option exponentiation.threshold 20000
namespace Lw
open PySem PySem.Spec PyProof.Rows L2 Gd Fr
open scoped Rat
section
variable (b p : Nat) (low high : Int)
end
end Lw
namespace Gd
open PySem PySem.Spec PyProof.Rows L2
section
variable {X : Cx} {i : Nat} {Γ : List VD} {B B1 B2 B' : Bag} {acc ds : List PyData} {e a b c : Expr} {es : List Expr} {d da db : VD} {y : PyData} {pos p p1 p2 p3 pos' : Pos} {rest ss s1 s2 : List Stmt} {E : EnO} {Es : En}
theorem Own.set {K : PySem.W.Frag} {g : Gh} {A0 A1 : Hp} {a : Addr} {σ : L2.St} {H0 H : Hp} (w : Own K i g A0 A1 a B Γ acc σ H0 H) (j : Nat) (hij : j ≠ i) {v : V} (r : Rv K g H0 v d) : Own K i g A0 A1 a B (Γ.set j d) acc (σ.set j (some v)) H0 H :=
  ⟨w.to, w.fr, w.off, w.ev.set j r, by rw [List.getElem?_set_ne hij]; exact w.at', w.no, w.ls, w.on⟩
theorem ow_forT (j : Nat) {x : Str} {px : Pos} (nd : X.N.Nodup) (hc : X.calm = true) (hij : j ≠ i) (P : Nat → List VD → Bag → List PyData → Prop) (hi : EJ X Γ B e (.da (.tuple ds)) B1) (h0 : P 0 Γ B1 acc)
    (hs : ∀ k y Γ' B' acc', ds[k]? = some y → P k Γ' B' acc' → OwJ X i (Γ'.set j (.da y)) B' acc' s1 { nx := P (k + 1), fx := fun _ _ => False, ct := P (k + 1), rt := E.rt })
    (hd : ∀ Γ' B' acc', P ds.length Γ' B' acc' → OwJ X i Γ' B' acc' rest E) (hN : X.N[j]? = some x := by rfl) (hx : Loc X.env.scope x := by first | exact Or.inl rfl | exact Or.inr rfl)
    (hf : X.fn x = true ∨ X.env.scope.names.lookup x = some .local := by first | exact Or.inl rfl | exact Or.inr rfl)
    (hp : PassesOwn (model X.prog X.w) X.A X.env X.xe := by exact PassesOwn.never) (hq : ∀ x, foldedSetIterable e X.env x = pure x := by intro _; rfl) :
    OwJ X i Γ B acc (.For (.Name x px) e s1 [] pos :: rest) E := fun g σ A0 A1 a H0 H w D G =>
  ⟨_, pss_cons (ps_for hp hc (pi_tup (we e)) (pg_name nd hN hx hf) (ws s1) hq) (ws rest), hi g σ H0 H w.ev w.on _ fun v H1 H' t o r => by
    obtain ⟨q, xs, rfl, hxs, rs⟩ := rvT r
    have w1 := w.step t o
    refine ⟨q, rfl, ⟨xs, seqT o.ex hxs⟩, ?_⟩
    refine for_tup (xs := xs) (fun k σ' H'' => ∃ Γ' B' acc' H2, P k Γ' B' acc' ∧ Same H1 H2 ∧ Own X.K i g A0 A1 a B' Γ' acc' σ' H2 H'') ⟨Γ, B1, acc, H1, h0, Same.refl _, w1⟩ ?_ ?_ ?_
    · rintro k σ' H'' _ ⟨Γ', B', acc', H2, _, sm, w2⟩
      exact seqT w2.on.ex (seqT sm hxs)
    · rintro k y σ' H'' hy ⟨Γ', B', acc', H2, hP, sm, w2⟩
      obtain ⟨d, hdi, rd⟩ := rs.get hy
      exact hs k d Γ' B' acc' hdi hP g _ A0 A1 a H2 H'' (w2.set j hij (Rp.mono sm rd)) _ ⟨fun Γ3 B3 acc3 σ3 H3 H3' q w3 m => ⟨Γ3, B3, acc3, H3, q, sm.trans m, w3⟩, fun _ _ _ _ _ q => q.elim, fun r B3 v H3 H3' q t3 o3 rv => G.rt r B3 v H3 H3' q t3 o3 rv,
        fun _ _ _ _ _ _ q => q.elim, fun Γ3 B3 acc3 σ3 H3 H3' q w3 m => ⟨Γ3, B3, acc3, H3, q, sm.trans m, w3⟩, fun _ _ _ _ _ _ q => q.elim, fun _ _ _ _ _ q => q.elim⟩
    · rintro σ' H'' ⟨Γ', B', acc', H2, hP, sm, w2⟩
      rw [rs.length] at hP
      exact hd Γ' B' acc' hP g σ' A0 A1 a H2 H'' w2 D (G.on (t.ex.trans sm))⟩
end
end Gd
namespace Gd
open PySem PySem.Spec PyProof.Rows L2
section
variable {X : Cx} {i : Nat} {Γ : List VD} {B B1 B2 B3 : Bag} {e0 e2 e3 : Expr} {d0 d2 d3 : PyData} {pos pl pt2 : Pos} {rest : List Stmt} {Es : En}
end
end Gd
set_option exponentiation.threshold 20000
namespace Lw
open PySem PySem.Spec PyProof.Rows L2 Gd Fr
open scoped Rat
theorem NdA.all {D W : Nat} : ∀ {ds : List PyData}, (∀ d ∈ ds, Nd D W d) → NdA D ((W + 1) * ds.length) ds
  | [], _ => NdA.nil
  | d :: ds, h => by
    have := NdA.cons (h d List.mem_cons_self) (NdA.all fun e he => h e (List.mem_cons_of_mem _ he))
    exact this.le (Nat.le_refl _) (by rw [List.length_cons, Nat.mul_succ]; omega)
theorem _root_.Gd.pgN {X : Cx} {x : Str} {pos : Pos} (i : Nat) (nd : X.N.Nodup) (hi : X.N[i]? = some x := by rfl) (hx : Loc X.env.scope x := by first | exact Or.inl rfl | exact Or.inr rfl)
    (hf : X.fn x = true ∨ X.env.scope.names.lookup x = some .local := by first | exact .inl rfl | exact .inr rfl) : PG X (.Name x pos) (gName i) := pg_name nd hi hx hf
end Lw
namespace Gd
open PySem PySem.Spec PyProof.Rows L2
section
variable {X : Cx} {i : Nat} {Γ : List VD} {B B1 B2 B' : Bag} {acc ds ys : List PyData} {e a b c : Expr} {es : List Expr} {d da db : VD} {y : PyData} {pos p p1 p2 p3 pos' : Pos} {rest ss s1 s2 : List Stmt} {E : EnO} {Es : En}
section
variable {elt : Expr} {scope : Scope} {j : Nat} {x : Str} {px : Pos}
end
end
end Gd
set_option exponentiation.threshold 20000
namespace Lw
open PySem PySem.Spec PyProof.Rows L2 Gd Fr
open scoped Rat
end Lw
set_option exponentiation.threshold 20000
namespace Lw
open PySem PySem.Spec PyProof.Rows L2 Gd Fr
open scoped Rat
theorem gap_mul (x : Rat) (f : Int) : (x - (f : Rat)) * ((x.den : Int) : Rat) = ((x.num - f * (x.den : Int) : Int) : Rat) := by
  have h := num_den x
  rw [Rat.intCast_sub, Rat.intCast_mul, ← h]; grind
theorem denQ_pos (x : Rat) : (0 : Rat) < ((x.den : Int) : Rat) := Rat.intCast_pos.mpr (den_pos x)
theorem fl (x : Rat) : ∃ g : Rat, x = ((x.num / (x.den : Int) : Int) : Rat) + g ∧ 0 ≤ g ∧ g < 1 ∧ x - ((x.num / (x.den : Int) : Int) : Rat) = g := by
  refine ⟨x - ((x.num / (x.den : Int) : Int) : Rat), by grind, ?_, ?_, rfl⟩
  · have h := gap_mul x (x.num / (x.den : Int))
    have h1 := Int.emod_add_mul_ediv x.num (x.den : Int)
    have h2 := Int.emod_nonneg x.num (Int.ne_of_gt (den_pos x))
    have h3 : (0 : Rat) ≤ (x - ((x.num / (x.den : Int) : Int) : Rat)) * ((x.den : Int) : Rat) := by
      rw [h]; exact Rat.intCast_nonneg.mpr (by rw [Int.mul_comm]; omega)
    refine Rat.not_lt.mp fun z => ?_
    have := (Rat.mul_lt_mul_right (denQ_pos x)).mpr z
    rw [Rat.zero_mul] at this
    exact absurd (ltle this h3) Rat.lt_irrefl
  · have h := gap_mul x (x.num / (x.den : Int))
    have h1 := Int.emod_add_mul_ediv x.num (x.den : Int)
    have h2 := Int.emod_lt_of_pos x.num (den_pos x)
    refine (Rat.mul_lt_mul_right (denQ_pos x)).mp ?_
    rw [h, Rat.one_mul]
    exact cast_lt.mpr (by rw [Int.mul_comm]; omega)
end Lw
set_option exponentiation.threshold 20000
namespace Lw
open PySem PySem.Spec PyProof.Rows L2 Gd Fr
open scoped Rat
theorem absQ_mul_pos (x : Rat) {y : Rat} (h : 0 < y) : absQ (x * y) = absQ x * y := by
  have k := Rat.mul_lt_mul_right (a := x) (b := 0) h
  rw [Rat.zero_mul] at k
  unfold absQ
  by_cases hx : x < 0
  · rw [if_pos hx, if_pos (k.mpr hx)]; grind
  · rw [if_neg hx, if_neg (fun z => hx (k.mp z))]
theorem absQ_cast (k : Int) : absQ (k : Rat) = ((k.natAbs : Int) : Rat) := by
  unfold absQ
  by_cases h : (k : Rat) < 0
  · have : k < 0 := cast_lt.mp (show (k : Rat) < ((0 : Int) : Rat) from h)
    rw [if_pos h, ← Rat.intCast_neg]; congr 1; omega
  · have : ¬ k < 0 := fun z => h (show (k : Rat) < ((0 : Int) : Rat) from cast_lt.mpr z)
    rw [if_neg h]; congr 1; omega
end Lw
set_option exponentiation.threshold 20000
namespace Lw
open PySem PySem.Spec PyProof.Rows L2 Gd Fr
open scoped Rat
theorem absQ_w {b : Nat} (h2 : 2 ≤ b) {s c e : Int} (h0 : 0 ≤ c) : absQ ((Va.num s c e).wQ b) = (c : Rat) * pw b e := by
  show absQ (((if s = 1 then -c else c : Int) : Rat) * pw b e) = _
  rw [absQ_mul_pos _ (pw_pos h2 e), absQ_cast]
  congr 2
  split <;> omega
theorem sgn_eq (x : Rat) : sgn x = if x < 0 then 1 else 0 := by
  unfold sgn
  by_cases h : x < 0
  · rw [if_pos h, if_pos ((num_neg_iff x).mpr h)]
  · rw [if_neg h, if_neg (fun z => h ((num_neg_iff x).mp z))]
theorem wQ_sign {b : Nat} (h2 : 2 ≤ b) {s c e : Int} (hs : s = 0 ∨ s = 1) (h0 : 0 ≤ c) : ((Va.num s c e).wQ b < 0 → s = 1) ∧ (0 < (Va.num s c e).wQ b → s = 0) := by
  have pe := pw_pos h2 e
  have hc : (0 : Rat) ≤ (c : Rat) := Rat.intCast_nonneg.mpr h0
  have hm := Rat.mul_le_mul_of_nonneg_right hc (Rat.le_of_lt pe)
  rw [Rat.zero_mul] at hm
  rcases hs with rfl | rfl
  · have e1 : (Va.num 0 c e).wQ b = (c : Rat) * pw b e := rfl
    rw [e1]
    exact ⟨fun z => absurd (ltle z hm) Rat.lt_irrefl, fun _ => rfl⟩
  · have e1 : (Va.num 1 c e).wQ b = ((-c : Int) : Rat) * pw b e := rfl
    rw [e1, Rat.intCast_neg]
    refine ⟨fun _ => rfl, fun z => ?_⟩
    have : -(c : Rat) * pw b e = -((c : Rat) * pw b e) := by grind
    rw [this] at z
    grind
section
variable (b p : Nat) (low high : Int)
end
end Lw
set_option exponentiation.threshold 20000
namespace Lw
open PySem PySem.Spec PyProof.Rows L2 Gd Fr
open scoped Rat
section
variable (b p : Nat) (low high : Int)
end
section
variable {b p : Nat} {low high : Int} (F : Fm b p low high)
include F
end
end Lw
namespace Gd
open PySem PySem.Spec PyProof.Rows L2
section
variable {X : Cx} {i : Nat} {Γ : List VD} {B B1 B2 B' : Bag} {acc ds ys : List PyData} {e a b c : Expr} {es : List Expr} {d da db : VD} {y : PyData} {pos p p1 p2 p3 pos' : Pos} {rest ss s1 s2 : List Stmt} {E : EnO} {Es : En}
def isNone : PyData → Bool
  | .none => true
  | _ => false
theorem rv_non {K : PySem.W.Frag} {H : Hp} {v : V} {y : PyData} (h : Rp K H v y) : decide (v = V.non) = isNone y := by
  cases h with
  | non => rfl
  | bl b => rfl
  | int i => rfl
  | str x => rfl
  | lst _ _ => rfl
  | tup _ _ => rfl
  | dct _ => rfl
  | dctT _ _ => rfl
theorem tj_isN {j} (ha : EJ X Γ B a (.da y) B1) : TJ X Γ B (.Compare a [.Is] [.Constant .none j pos'] pos) (isNone y) B1 :=
  tj_cmp ha ej_non op_isN (nomark _) fun g v w H0 H O r1 r2 Q q => by
    have r2 : Rp X.K H0 w .none := r2
    cases r2
    refine ⟨rfl, ?_⟩
    rw [rv_non (show Rp X.K H0 v y from r1)]; exact q _ _ To.refl O
theorem tj_notN {j} (ha : EJ X Γ B a (.da y) B1) : TJ X Γ B (.Compare a [.IsNot] [.Constant .none j pos'] pos) (!isNone y) B1 :=
  tj_cmp ha ej_non op_notN (nomark _) fun g v w H0 H O r1 r2 Q q => by
    have r2 : Rp X.K H0 w .none := r2
    cases r2
    refine ⟨rfl, ?_⟩
    rw [rv_non (show Rp X.K H0 v y from r1)]; exact q _ _ To.refl O
theorem call_reprN : CallR X (.builtin "repr") (fun xs H Q => xs = [.non] ∧ Q (.str "None") H) := by
  intro pins s σ H xs us Q I r h
  obtain ⟨rfl, q⟩ := h
  obtain ⟨u, rfl, rfl⟩ := vals1 r
  exact PySem.P.repr_of_none ⟨.str _, H, I.tok _, ⟨_, rfl⟩, q⟩
theorem ej_reprN (hm : X.mg "repr" = none) (ha : EJ X Γ B a (.da .none) B1) (hs : starEach [a] X.env = [(false, eval a X.env)] := by rfl) (hg : Gl X "repr" := by rfl) :
    EJ X Γ B (.Call (.Name "repr" p) [a] [] pos) (.da (.str "None")) B1 :=
  ej_callB call_reprN hm (aj_cons ha aj_nil hs) (fun gh vs H0 H O r Q q => by
    obtain ⟨v, rfl, h⟩ := rv1 r
    have h : Rp X.K H0 v .none := h
    cases h
    exact ⟨rfl, q _ _ _ To.refl O (Rp.str _)⟩) (hg := hg) (he := hs)
end
end Gd
namespace Gd
open PySem PySem.Spec PyProof.Rows L2
mutual
def niceB : PyData → Bool
  | .none => true
  | .bool _ => true
  | .int i => decide (Nat.log2 i.natAbs < 12900)
  | .str x => x.cps.all fun c => c < 0x110000
  | .list xs => niceBAll xs
  | .tuple xs => niceBAll xs
  | .dict _ => false
def niceBAll : List PyData → Bool
  | [] => true
  | x :: xs => niceB x && niceBAll xs
end
theorem big_lt {i : Int} (h : Nat.log2 i.natAbs < 12900) : i.natAbs < 10 ^ 4300 := Nat.lt_of_lt_of_le (lt_of_log2 h) pow_lo
section
variable {prog : Program} {w : World} {A : Around} {E : Value → Shared → Prop} {s : Shared} {h₀ : Heap}
end
mutual
theorem niceB_lay : ∀ d : PyData, niceB d = true → d.canLay0 = true ∧ d.leavesShort 4301 = true
  | .none, _ => ⟨by simp only [PyData.canLay0], by simp only [PyData.leavesShort]⟩
  | .bool _, _ => ⟨by simp only [PyData.canLay0], by simp only [PyData.leavesShort]⟩
  | .int i, h => ⟨by simp only [PyData.canLay0], by
    simp only [niceB, decide_eq_true_eq] at h
    simp only [PyData.leavesShort, decide_eq_true_eq, PyData.shown_int]; rw [PySem.ofString_length]
    exact int_text_length_le10 (k := 4300) (by decide) (big_lt h)⟩
  | .str x, h => by
    simp only [niceB] at h
    refine ⟨by simp only [PyData.canLay0]; exact h, ?_⟩
    simp only [PyData.leavesShort, List.all_eq_true, decide_eq_true_eq]; intro c hc
    have h3 : c < 0x110000 := of_decide_eq_true (Array.all_eq_true'.mp h c (by simpa using hc))
    omega
  | .list xs, h => by simp only [niceB] at h; simp only [PyData.canLay0, PyData.leavesShort]; exact niceB_layA xs h
  | .tuple xs, h => by simp only [niceB] at h; simp only [PyData.canLay0, PyData.leavesShort]; exact niceB_layA xs h
  | .dict _, h => by simp only [niceB] at h; cases h
theorem niceB_layA : ∀ ds : List PyData, niceBAll ds = true → PyData.canLayAll0 ds = true ∧ PyData.leavesShortAll 4301 ds = true
  | [], _ => ⟨by simp only [PyData.canLayAll0], by simp only [PyData.leavesShortAll]⟩
  | x :: xs, h => by
    simp only [niceBAll, Bool.and_eq_true] at h
    have a := niceB_lay x h.1
    have c := niceB_layA xs h.2
    simp only [PyData.canLayAll0, PyData.leavesShortAll, Bool.and_eq_true]; exact ⟨⟨a.1, c.1⟩, a.2, c.2⟩
end
structure OkB (d : PyData) : Prop where
  nice : niceB d = true
  dp : d.depth ≤ 60
  bulk : d.bulk ≤ 2000
theorem OkB.shaped {d : PyData} (h : OkB d) : SeqAt.shaped d = true := by
  unfold SeqAt.shaped
  rw [(niceB_lay d h.nice).1, Bool.true_and, decide_eq_true_eq]; have := h.dp; omega
theorem OkB.len {d : PyData} (h : OkB d) : d.shown.length ≤ sizeLine := by
  have h1 := PyData.shown_le_bulk 4301 (by decide) d (niceB_lay d h.nice).2
  have h2 := h.bulk
  rw [show sizeLine = 16777216 from by decide]; omega
section
variable {X : Cx} {i : Nat} {Γ : List VD} {B B1 B2 B' : Bag} {e a b c : Expr} {es : List Expr} {y : PyData} {pos p : Pos}
end
theorem law_callD {P : Program} {w : World} {K : PySem.W.Frag} {mg mb : Str → Option Value} {k : Nat} {fa a : Addr} {fd : FuncData} {x : Str} {sp : Sp} {sx : Shared} {vs : List Value} {ns : List Int}
    (KI : K.In sx.heap) (hn1 : sx.heap.Ns mainGlobals mg) (hb : sx.heap.Ns builtinsNs mb) (hbb : ∀ x : Str, x ≠ "__name__" → mb x = bootBuiltins x) (hl0 : sx.heap.NoLimit) (hd0 : sx.heap.NoDigits) (hg : sx.gens = #[])
    (ha : sx.heap.get? a = some { cls := .type "list", data := .seq vs.toArray }) (hi : IntsAre vs ns) (hl : ns.length ≤ sizeLine) (hr : Room k callerA)
    (F : ∀ base : Heap, K.In base → base.Ns mainGlobals mg → base.NoDigits → FnG P w K mg base k fa fd [x] sp) (hbind : ∀ (s : Shared) (u : Value), BindsTo s fd ⟨[u], []⟩ [(x, u)])
    (hsp : ∀ H : Hp, SqL K H a (ns.map V.int) → sp [.ref a] H (fun v _ => v = .bl true) fun _ _ _ => False) :
    codeAny (model P w) callerA (.call (.ref fa) ⟨[.ref a], []⟩) (fun r s' => r = Except.ok (.ret (.bool true)) ∧ OldK sx.heap s'.heap ∧ s'.os = sx.os ∧ AllBare s'.gens) sx := by
  have rv := vals_ints hi
  have lenV := hi.length
  have main : ∀ H : Hp, Only H → SqL K H a (ns.map V.int) → HOk P w H sx.heap → (∀ b, H b ≠ none → b = a) → (H a ≠ none → K.lookup a = none) →
      codeAny (model P w) callerA (.call (.ref fa) ⟨[.ref a], []⟩) (fun r s' => r = Except.ok (.ret (.bool true)) ∧ OldK sx.heap s'.heap ∧ s'.os = sx.os ∧ AllBare s'.gens) sx := by
    intro H hO hS hok hA hK
    have free : ∀ b, (∃ o, sx.heap.get? b = some o ∧ ∃ es ep, o.data = .dict es ep) → H b = none := by
      rintro b ⟨o, e, es, ep, d⟩
      cases q : H b with
      | none => rfl
      | some u =>
        have eb : b = a := hA b (by simp [q])
        rw [eb, ha] at e
        cases e
        have dd : Data.seq vs.toArray _ = Data.dict es ep := d
        cases dd
    have nsK : ∀ {b : Addr} {m : Str → Option Value}, sx.heap.Ns b m → (hidT sx.heap H).Ns b m := by
      rintro b m ⟨o, es, ep, e, dd, r⟩
      exact ⟨o, es, ep, hidT_get e (free b ⟨o, e, es, ep, dd⟩), dd, r⟩
    have hKb : K.In (hidT sx.heap H) := by
      intro b o e
      refine hidT_get (KI b o e) ?_
      cases q : H b with
      | none => rfl
      | some u =>
        have eb : b = a := hA b (by simp [q])
        rw [eb, hK (by rw [← eb]; simp [q])] at e
        cases e
    obtain ⟨mc, l1, l2⟩ := hl0
    have hM : Mod K mg (hidT sx.heap H) := ⟨hKb, nsK hn1, ⟨mb, nsK hb, hbb⟩, mc, nsK l1, l2⟩
    have hD : (hidT sx.heap H).NoDigits := let ⟨mc2, d1, d2⟩ := hd0; ⟨mc2, nsK d1, d2⟩
    have e0 : Env0 P w K mg (hidT sx.heap H) callerA [] sx H :=
      ⟨rfl, hM, fun b o e => of_hidT e, Nat.le_of_eq (hidT_size _ _), trivial, fun b z => absurd (show b ∈ ([] : List Addr) from z) (by simp), hok, .of_eq hg⟩
    have cc := (F _ hKb (nsK hn1) hD).run callerA [] sx H ⟨[.ref a], []⟩ [.ref a] [.ref a] _ _ rfl hr e0 (hbind sx (.ref a)) (.cons rfl .nil) (hsp H hS)
    refine codeAny_mono cc fun res s2 h => ?_
    match res, h with
    | .error _, h => exact h.elim
    | .ok .next, h => exact h.elim
    | .ok .brk, h => exact h.elim
    | .ok .cont, h => exact h.elim
    | .ok (.ret u), ⟨v, H', os, bare, un, hok', r', q⟩ =>
      have q' : v = .bl true := q
      subst q'
      obtain rfl : u = .bool true := r'
      refine ⟨rfl, .of_keep fun b o e => ?_, os, bare⟩
      cases q : H b with
      | none => exact un.keep b o e q (fun z => absurd (show b ∈ ([] : List Addr) from z) (by simp)) (by simp)
      | some u =>
        cases hO b with
        | inl z => rw [q] at z; cases z
        | inr z =>
          obtain ⟨ob, xs, z⟩ := z
          obtain ⟨e1, _⟩ := hok b _ z
          obtain ⟨e2, _⟩ := hok' b _ (un.frzs b ob _ z)
          rw [e] at e1; cases e1; exact e2
  cases hk : K.lookup a with
  | some o =>
    have e := KI a o hk
    rw [ha] at e
    cases e
    refine main (fun _ => none) (fun _ => .inl rfl) (.inr ⟨_, vs.toArray, _, hk, rfl, rfl, rfl, by rw [List.size_toArray, lenV]; exact hl, by simpa using rv⟩) ?_ (fun b z => absurd rfl z) fun z => absurd rfl z
    intro b u z
    have z' : (none : Option HO) = some u := z
    cases z'
  | none =>
    have at1 : ∀ b, b ≠ a → (if b = a then some (HO.frz { cls := .type "list", data := .seq vs.toArray } (.lst (ns.map V.int))) else none) = none := fun b h => if_neg h
    refine main (fun b => if b = a then some (.frz { cls := .type "list", data := .seq vs.toArray } (.lst (ns.map V.int))) else none) (fun b => ?_) (.inl (.inr ⟨_, if_pos rfl⟩)) (fun b u z => ?_) (fun b z => ?_) fun _ => hk
    · by_cases hb : b = a
      · exact Or.inr ⟨_, _, if_pos hb⟩
      · exact .inl (if_neg hb)
    · by_cases hb : b = a
      · have zz := (if_pos hb).symm.trans z
        cases zz
        subst hb
        exact ⟨ha, by simpa using hl, vs, _, rv, ha⟩
      · have z' := (at1 b hb).symm.trans z
        cases z'
    · by_cases hb : b = a
      · exact hb
      · exact absurd (at1 b hb) z
theorem law_mkD {P : Program} {w : World} {K : PySem.W.Frag} {h : Heap} {mg : Str → Option Value} {st : Stmt} {fa f : Addr} {oc : Value} {od an : Option Addr} {osl : Array (Option Value)} {kV doc pm cdv ct : Value} {n : Nat}
    (X : K.In h) (G : h.Ns mainGlobals mg) (hfa : mg "law" = some (.ref fa)) (a : PySem.W.nsIn K mainGlobals "law" = some (some (.ref f)))
    (l : K.lookup f = some ⟨oc, od, .func (PySem.W.fnOf "law" "law" (defArgs st) (defBody st) (defScope st) .none kV doc pm an cdv ct), osl⟩) (c : PySem.W.codeIn K cdv "law" = true) (k : PySem.W.keepIn K (.ref f) = true)
    (b : ∀ (s : Shared) (v : Value), BindsTo s (PySem.W.fnOf "law" "law" (defArgs st) (defBody st) (defScope st) .none kV doc pm an cdv ct) ⟨[v], []⟩ [("_law_script", v)])
    (H : ∀ (base : Heap) (f : Addr) (fd : FuncData), base.NoDigits → Fun K "law" "law" st f fd → FnG P w K mg base n f fd ["_law_script"] (spLaw K)) :
    ∃ fd : FuncData, (∀ (s : Shared) (v : Value), BindsTo s fd ⟨[v], []⟩ [("_law_script", v)]) ∧ ∀ base : Heap, K.In base → base.Ns mainGlobals mg → base.NoDigits → FnG P w K mg base n fa fd ["_law_script"] (spLaw K) := by
  have e := hfa.symm.trans (PySem.W.mg_of X G a)
  cases e
  exact ⟨_, b, fun base _ _ nd => H base _ _ nd (fun_mk l c k)⟩
end Gd
set_option exponentiation.threshold 20000
namespace Lw
open PySem PySem.Spec PyProof.Rows L2 Gd Fr
open scoped Rat
mutual
theorem niceB_of : ∀ d : PyData, nice d = true → niceB d = true
  | .none, _ => by simp only [niceB]
  | .bool _, _ => by simp only [niceB]
  | .int i, h => by
    simp only [nice, decide_eq_true_eq] at h
    simp only [niceB, decide_eq_true_eq]
    omega
  | .str _, h => by simp only [nice] at h; simp only [niceB]; exact h
  | .list xs, h => by simp only [nice] at h; simp only [niceB]; exact niceB_ofA xs h
  | .tuple xs, h => by simp only [nice] at h; simp only [niceB]; exact niceB_ofA xs h
  | .dict _, h => by simp only [nice] at h; cases h
theorem niceB_ofA : ∀ ds : List PyData, niceAll ds = true → niceBAll ds = true
  | [], _ => by simp only [niceBAll]
  | x :: xs, h => by
    simp only [niceAll, Bool.and_eq_true] at h
    simp only [niceBAll, Bool.and_eq_true]
    exact ⟨niceB_of x h.1, niceB_ofA xs h.2⟩
end
structure NdB (D W : Nat) (d : PyData) : Prop where
  ni : niceB d = true
  dp : d.depth ≤ D
  bk : d.bulk ≤ W
structure NdBA (D W : Nat) (ds : List PyData) : Prop where
  ni : niceBAll ds = true
  dp : PyData.depthAll ds ≤ D
  bk : PyData.bulkAll ds ≤ W
theorem Nd.b {D W : Nat} {d : PyData} (h : Nd D W d) : NdB D W d := ⟨niceB_of d h.ni, h.dp, h.bk⟩
theorem NdBA.nil {D W : Nat} : NdBA D W [] := ⟨by simp only [niceBAll], by simp only [PyData.depthAll]; omega, by simp only [PyData.bulkAll]; omega⟩
theorem NdBA.cons {D W W' : Nat} {d : PyData} {ds : List PyData} (h : NdB D W d) (r : NdBA D W' ds) : NdBA D (W + 1 + W') (d :: ds) :=
  ⟨by simp only [niceBAll, h.ni, r.ni, Bool.and_self], by have := h.dp; have := r.dp; simp only [PyData.depthAll]; omega, by have := h.bk; have := r.bk; simp only [PyData.bulkAll]; omega⟩
theorem NdB.le {D W D' W' : Nat} {d : PyData} (h : NdB D W d) (e : D ≤ D') (f : W ≤ W') : NdB D' W' d := ⟨h.ni, Nat.le_trans h.dp e, Nat.le_trans h.bk f⟩
theorem NdB.list {D W : Nat} {ds : List PyData} (h : NdBA D W ds) : NdB (D + 1) W (.list ds) := ⟨by simp only [niceB]; exact h.ni, by have := h.dp; simp only [PyData.depth]; omega, by have := h.bk; simp only [PyData.bulk]; omega⟩
theorem NdB.tuple {D W : Nat} {ds : List PyData} (h : NdBA D W ds) : NdB (D + 1) W (.tuple ds) := ⟨by simp only [niceB]; exact h.ni, by have := h.dp; simp only [PyData.depth]; omega, by have := h.bk; simp only [PyData.bulk]; omega⟩
theorem NdB.int {n : Nat} {i : Int} (h : Bd n i) (e : n ≤ 12900 := by decide) : NdB 1 0 (.int i) := ⟨by
  simp only [niceB, decide_eq_true_eq]
  by_cases h0 : 0 < n
  · exact Nat.lt_of_lt_of_le (PySem.Flt.log2_lt_of h0 h) e
  · have : n = 0 := by omega
    subst this
    have : i.natAbs = 0 := by unfold Bd at h; omega
    rw [this]; decide, by simp only [PyData.depth]; omega, by simp only [PyData.bulk]; omega⟩
def Vcan (b p : Nat) (low high : Int) : Va → Prop
  | .num s c e => (s = 0 ∨ s = 1) ∧ Can b p low c e ∧ e ≤ high
  | .inf s => s = 0 ∨ s = 1
  | .nan => True
theorem Vcan.ok {b p : Nat} {low high : Int} {v : Va} (h : Vcan b p low high v) : Vok b p low high v := by
  cases v with
  | nan => trivial
  | inf s => exact h
  | num s c e => exact ⟨h.1, h.2.1.1, h.2.1.2.1, h.2.1.2.2.1, h.2.2⟩
theorem Vcan.opp {b p : Nat} {low high : Int} {v : Va} (h : Vcan b p low high v) : Vcan b p low high v.opp := by
  cases v with
  | nan => trivial
  | inf s => show (1 - s = 0 ∨ 1 - s = 1); have h : s = 0 ∨ s = 1 := h; omega
  | num s c e => exact ⟨by have := h.1; omega, h.2⟩
end Lw
set_option exponentiation.threshold 20000
namespace Lw
open PySem PySem.Spec PyProof.Rows L2 Gd Fr
open scoped Rat
section
variable {b p : Nat} {low high : Int} (F : Fm b p low high)
include F
end
end Lw
namespace Gd
open PySem PySem.Spec PyProof.Rows L2
section
variable {X : Cx} {Γ : List VD} {B B1 B2 : Bag} {e c elt : Expr} {scope : Scope} {acc : List PyData} {pos pos' : Pos} {rest : List Stmt} {E : En} {d : VD}
end
end Gd
set_option exponentiation.threshold 20000
namespace Lw
open PySem PySem.Spec PyProof.Rows L2 Gd Fr
open scoped Rat
noncomputable def unN (b p : Nat) (low : Int) (way : Str) (s : Int) (q : Rat) : Int × Int := nb b p (outw way s (cQ b (eQ b p low q) q) (pt (rQ b (eQ b p low q) q) (Dq b (eQ b p low q) q))) (cQ b (eQ b p low q) q) (eQ b p low q)
section
variable {b p : Nat} {low high : Int} (F : Fm b p low high)
include F
theorem unN_can {way : Str} {s : Int} {q : Rat} (h0 : 0 ≤ q) : Can b p low (unN b p low way s q).1 (unN b p low way s q).2 :=
  (nb_can F.b2 F.p2 (spot_can F.b2 (by have := F.p2; omega) h0 (eQ_is (p := p) F.b2 low q))).1
end
end Lw
namespace Gd
open PySem PySem.Spec PyProof.Rows L2
section
variable {X : Cx} {Γ : List VD} {B B1 B2 : Bag} {e c elt a b : Expr} {scope : Scope} {acc : List PyData} {pos pos' : Pos} {rest : List Stmt} {E : En} {d : VD}
end
end Gd
set_option exponentiation.threshold 20000
namespace Lw
open PySem PySem.Spec PyProof.Rows L2 Gd Fr
open scoped Rat
section
variable {b p : Nat} {low high : Int} (F : Fm b p low high)
include F
end
end Lw
namespace Gd
open PySem PySem.Spec PyProof.Rows L2
section
variable {P : Program} {w : World} {A : Around} {s : Shared} {E : Value → Shared → Prop}
end
section
variable {X : Cx}
end
end Gd
namespace Gd
open PySem PySem.Spec PyProof.Rows L2
section
variable {X : Cx} {Γ : List VD} {B B1 B2 : Bag} {e c elt a b : Expr} {scope : Scope} {acc : List PyData} {pos pos' p p' : Pos} {rest : List Stmt} {E : En} {d : VD}
end
end Gd
set_option exponentiation.threshold 20000
namespace Lw
open PySem PySem.Spec PyProof.Rows L2 Gd Fr
open scoped Rat
end Lw
set_option exponentiation.threshold 20000
namespace Lw
open PySem PySem.Spec PyProof.Rows L2 Gd Fr
open scoped Rat
section
variable {b p : Nat} {low high : Int} (F : Fm b p low high)
include F
end
end Lw
set_option exponentiation.threshold 20000
namespace Lw
open PySem PySem.Spec PyProof.Rows L2 Gd Fr
open scoped Rat
section
variable {X : Cx} {Γ : List VD} {B B1 B2 : Bag} {a b : Expr} {pos : Pos}
end
end Lw
namespace Gd
open PySem PySem.Spec PyProof.Rows L2
section
variable {P : Program} {w : World} {K : PySem.W.Frag} {mg : Str → Option Value} {base : Heap} {x : Str}
def CalE (P : Program) (w : World) (K : PySem.W.Frag) (mg : Str → Option Value) (base : Heap) (x : Str) (k : Nat) (Pre : List VD → Bag → Prop) (Post : List VD → Bag → PyData → Bag → Prop) : Prop :=
  ∃ R : Rel, Cal P w K mg base x k R ∧ ∀ Γ B, Pre Γ B → ∃ r B', R Γ B r B' ∧ Post Γ B r B'
theorem Cal.e {k : Nat} {R : Rel} (c : Cal P w K mg base x k R) {Pre : List VD → Bag → Prop} {Post : List VD → Bag → PyData → Bag → Prop} (h : ∀ Γ B, Pre Γ B → ∃ r B', R Γ B r B' ∧ Post Γ B r B') : CalE P w K mg base x k Pre Post := ⟨R, c, h⟩
end
section
variable {X : Cx} {Γ : List VD} {B B1 B2 : Bag} {a b c : Expr} {d : VD} {pos : Pos}
theorem ej_ifT (h : TJ X Γ B c true B1) (h1 : EJ X Γ B1 a d B2) : EJ X Γ B (.IfExp c a b pos) d B2 := ej_if h (fun _ => h1) (fun z => Bool.noConfusion z)
theorem ej_ifF (h : TJ X Γ B c false B1) (h1 : EJ X Γ B1 b d B2) : EJ X Γ B (.IfExp c a b pos) d B2 := ej_if h (fun z => Bool.noConfusion z) (fun _ => h1)
end
end Gd
namespace Gd
open PySem PySem.Spec PyProof.Rows L2
section
variable {X : Cx} {i : Nat} {Γ : List VD} {B B1 B2 B' : Bag} {ds : List PyData} {e a b c : Expr} {es : List Expr} {pos p p1 p2 p3 pos' : Pos} {rest ss s1 s2 : List Stmt} {E : En}
theorem sj_forLU (is : List Nat) {ts : List Expr} {k0} {pt : Pos} (n : Nat) (hc : X.calm = true) (P : Nat → List VD → Bag → Prop) (hi : EJ X Γ B e (.da (.list ds)) B1) (h0 : P 0 Γ B1) (hg : PGs X ts (gNames is)) (hln : is.length = n)
    (hs : ∀ k y Γ' B', ds[k]? = some y → P k Γ' B' → ∃ dd, y = .tuple dd ∧ dd.length = n ∧ SJ X (setAll Γ' is dd) B' s1 { nx := P (k + 1), ct := P (k + 1), bk := fun Γ' B' => SJ X Γ' B' rest E, rt := E.rt })
    (hd : ∀ Γ' B', P ds.length Γ' B' → SJ X Γ' B' rest E) (hn : (assignEach ts X.env).length = n := by rfl) (hst : (assignEach ts X.env).findIdx? (·.1) = none := by rfl)
    (hp : PassesOwn (model X.prog X.w) X.A X.env X.xe := by exact PassesOwn.never) (hq : ∀ x, foldedSetIterable e X.env x = pure x := by intro _; rfl) :
    SJ X Γ B (.For (.Tuple ts k0 pt) e s1 [] pos :: rest) E := fun g σ H0 H Ev O D G =>
  ⟨_, pss_cons (ps_for hp hc (pi_list (we e)) (pg_tup hc hg hn hst) (ws s1) hq) (ws rest), hi g σ H0 H Ev O _ fun v H1 H' t o r => by
    obtain ⟨p, xs, rfl, hxs, rs⟩ := rvL r
    refine ⟨p, rfl, ⟨xs, SqL.of (o.ex _ _ hxs)⟩, ?_⟩
    refine for_list (xs := xs) (fun i σ' H'' => ∃ Γ' B' H2, P i Γ' B' ∧ To g H1 H' H2 H'' ∧ EnvD X.K g H2 σ' Γ' ∧ On X.K g B' H2 H'') ⟨Γ, B1, H1, h0, To.refl, Ev.mono t.ex, o⟩ ?_ ?_ ?_
    · rintro i σ' H'' _ ⟨Γ', B', H2, _, t2, _, o2⟩
      exact SqL.of (o2.ex _ _ (t2.ex _ _ hxs))
    · rintro i y σ' H'' hy ⟨Γ', B', H2, hP, t2, e2, o2⟩
      obtain ⟨d, hdi, rd⟩ := rs.get hy
      obtain ⟨dd, rfl, hdl, hO⟩ := hs i d Γ' B' hdi hP
      obtain ⟨q2, ys, rfl, hys, rs2⟩ := rvT (show Rv X.K g H2 y (.da (.tuple dd)) from Rp.mono t2.ex rd)
      refine ⟨q2, ys, rfl, seqT o2.ex hys, by rw [rs2.length, hdl], gNames_run is ys dd σ' Γ' rs2 (by rw [hln, hdl]) e2 fun σ3 e3 => ?_⟩
      refine hO g σ3 H2 H'' e3 o2 _ ⟨?_, ?_, ?_, ?_⟩
      · intro Γ3 B3 σ3 H3 H3' q t3 e3 o3
        exact ⟨Γ3, B3, H3, q, t2.trans t3, e3, o3⟩
      · intro r B3 v H3 H3' q t3 o3 rv
        exact (G.on (t.trans t2)).rt r B3 v H3 H3' q t3 o3 rv
      · intro Γ3 B3 σ3 H3 H3' q t3 e3 o3
        exact q g σ3 H3 H3' e3 o3 D (G.on ((t.trans t2).trans t3))
      · intro Γ3 B3 σ3 H3 H3' q t3 e3 o3
        exact ⟨Γ3, B3, H3, q, t2.trans t3, e3, o3⟩
    · rintro σ' H'' ⟨Γ', B', H2, hP, t2, e2, o2⟩
      rw [rs.length] at hP
      exact hd Γ' B' hP g σ' H2 H'' e2 o2 D (G.on (t.trans t2))⟩
end
end Gd
set_option exponentiation.threshold 20000
namespace Lw
open PySem PySem.Spec PyProof.Rows L2 Gd Fr
open scoped Rat
end Lw
namespace Lw
open PySem PySem.Spec PyProof.Rows L2 Gd Fr
def thing (r : PyData) : Prop := ∃ (t : F4) (y : PyData), r = .tuple [t.d, y] ∧ t.ok ∧ (y = .none ∨ ∃ v : Va, y = v.d ∧ Vok t.1 t.2.1 t.2.2.1 t.2.2.2 v)
end Lw
namespace Gd
open PySem PySem.Spec PyProof.Rows L2
section
variable {X : Cx} {Γ : List VD} {B B1 B2 : Bag} {a b c : Expr} {es : List Expr} {pos p : Pos}
end
end Gd
set_option exponentiation.threshold 20000
namespace Gd
open PySem PySem.Spec PyProof.Rows L2
section
variable {X : Cx} {Γ : List VD} {B B1 B2 : Bag} {c : Expr} {pos : Pos} {rest s1 s2 : List Stmt} {E : En}
theorem sj_ifT (h : TJ X Γ B c true B1) (h1 : SJ X Γ B1 s1 { E with nx := fun Γ' B' => SJ X Γ' B' rest E }) : SJ X Γ B (.If c s1 s2 pos :: rest) E := sj_if h (fun _ => h1) (fun z => Bool.noConfusion z)
end
end Gd
namespace Lw
open PySem PySem.Spec PyProof.Rows L2 Gd Fr
open scoped Rat
end Lw
set_option exponentiation.threshold 20000
namespace Lw
open PySem PySem.Spec PyProof.Rows L2 Gd Fr
open scoped Rat
def fmI (b p : Nat) : Int := ((b : Int) - 1) * ((b ^ (p - 1) : Nat) : Int)
def mostI (b p : Nat) (low high : Int) : Int := ((b ^ p : Nat) : Int) + (high - low) * fmI b p
def rkS (b p : Nat) (low high : Int) : Va → Int
  | .num _ c e => c + (e - low) * fmI b p
  | _ => mostI b p low high
def rkI (b p : Nat) (low high : Int) (v : Va) : Int := if v.sg = 1 then -rkS b p low high v else rkS b p low high v
variable {b p : Nat} {low high : Int} (F : Fm b p low high)
include F
end Lw
namespace Gd
open PySem PySem.Spec PyProof.Rows L2
section
variable {X : Cx} {Γ : List VD} {B B1 B2 : Bag} {a b c e : Expr} {pos p pos' : Pos} {rest : List Stmt} {E : En} {elt : Expr} {scope : Scope} {j : Nat} {x : Str} {px : Pos} {d : VD}
theorem call_reprL : CallR X (.builtin "repr") (fun xs H Q => ∃ b, xs = [.bl b] ∧ Q (.str (if b then "True" else "False")) H) := by
  intro pins s σ H xs us Q I r h
  obtain ⟨b, rfl, q⟩ := h
  obtain ⟨u, rfl, rfl⟩ := vals1 r
  exact PySem.P.repr_of_bool ⟨.str _, H, I.tok _, ⟨_, rfl⟩, q⟩
theorem ej_reprL {b : Bool} (hm : X.mg "repr" = none) (ha : EJ X Γ B a (.da (.bool b)) B1) (hs : starEach [a] X.env = [(false, eval a X.env)] := by rfl) (hg : Gl X "repr" := by rfl) :
    EJ X Γ B (.Call (.Name "repr" p) [a] [] pos) (.da (.str (if b then "True" else "False"))) B1 :=
  ej_callB call_reprL hm (aj_cons ha aj_nil hs) (fun gh vs H0 H O r Q q => by
    obtain ⟨v, rfl, h⟩ := rv1 r
    exact ⟨b, by rw [rvB h], q _ _ _ To.refl O (Rp.str _)⟩) (hg := hg) (he := hs)
theorem ej_reprI {i : Int} (hi : i.natAbs.log2 < 1920) (hm : X.mg "repr" = none) (ha : EJ X Γ B a (.da (.int i)) B1) (hs : starEach [a] X.env = [(false, eval a X.env)] := by rfl) (hg : Gl X "repr" := by rfl) :
    EJ X Γ B (.Call (.Name "repr" p) [a] [] pos) (.da (.str (toString i))) B1 :=
  ej_callB SkE.call_repr_int hm (aj_cons ha aj_nil hs) (fun gh vs H0 H O r Q q => by
    obtain ⟨v, rfl, h⟩ := rv1 r
    exact ⟨i, by rw [rvI h], hi, q _ _ _ To.refl O (Rp.str _)⟩) (hg := hg) (he := hs)
end
end Gd
namespace Gd
open PySem PySem.Spec PyProof.Rows L2
section
variable {X : Cx} {Γ : List VD} {B B1 B2 : Bag} {a b c e : Expr} {pos p pos' : Pos} {rest s1 : List Stmt} {E : En}
end
end Gd
set_option exponentiation.threshold 20000
namespace Lw
open PySem PySem.Spec PyProof.Rows L2 Gd Fr
open scoped Rat
noncomputable instance instVa : DecidableEq Va := fun x y => Classical.propDecidable (x = y)
section
variable {b p : Nat} {low high : Int} (F : Fm b p low high)
include F
end
inductive R_alikeA : Rel
  | mk (d : PyData) (B : Bag) (h : Okd d) (hb : boxed d = true ∨ d = .none ∨ (∃ b, d = .bool b) ∨ ∃ i, d = .int i) : R_alikeA [.da d, .da d] B (.bool true) B
end Lw
namespace Gd
open PySem PySem.Spec PyProof.Rows L2
section
variable {X : Cx} {Γ : List VD} {B B1 B2 : Bag} {a b c e : Expr} {pos p pos' : Pos} {rest s1 : List Stmt} {E : En}
end
end Gd
set_option exponentiation.threshold 20000
namespace Lw
open PySem PySem.Spec PyProof.Rows L2 Gd Fr
open scoped Rat
section
variable {b p : Nat} {low high : Int} (F : Fm b p low high)
include F
theorem rdV_un {way : Str} {x : Rat} {s : Int} : rdV b p low high way x s = if high < (unN b p low way (if x = 0 then s else sgn x) (absQ x)).2 then (if isInf way (if x = 0 then s else sgn x) = true then .inf (if x = 0 then s else sgn x) else .num (if x = 0 then s else sgn x) (((b ^ p : Nat) : Int) - 1) high)
    else .num (if x = 0 then s else sgn x) (unN b p low way (if x = 0 then s else sgn x) (absQ x)).1 (unN b p low way (if x = 0 then s else sgn x) (absQ x)).2 := rfl
theorem rdV_can {way : Str} {x : Rat} {s : Int} (hs : s = 0 ∨ s = 1) : Vcan b p low high (rdV b p low high way x s) ∧ (rdV b p low high way x s).isNan = false := by
  have hS : (if x = 0 then s else sgn x) = 0 ∨ (if x = 0 then s else sgn x) = 1 := by split; exact hs; exact sgn_01 x
  have hC := unN_can F (way := way) (s := if x = 0 then s else sgn x) (absQ_nonneg x)
  rw [rdV_un F]
  generalize (if x = 0 then s else sgn x) = S at *
  split
  · split
    · exact ⟨hS, rfl⟩
    · exact ⟨⟨hS, great_can F, Int.le_refl _⟩, rfl⟩
  · next h => exact ⟨⟨hS, hC, by omega⟩, rfl⟩
end
section
variable {b p : Nat} {low high : Int} (F : Fm b p low high)
include F
end
end Lw
set_option exponentiation.threshold 20000
namespace Lw
open PySem PySem.Spec PyProof.Rows L2 Gd Fr
open scoped Rat
def exQ (b p : Nat) (low high : Int) (x : Rat) : Prop := rQ b (eQ b p low (absQ x)) (absQ x) = 0 ∧ eQ b p low (absQ x) ≤ high
section
variable {b p : Nat} {low high : Int} (F : Fm b p low high)
include F
end
end Lw
namespace Lw
open PySem PySem.Spec PyProof.Rows L2 Gd Fr
end Lw
namespace Gd
open PySem PySem.Spec PyProof.Rows L2
section
variable {X : Cx} {Γ : List VD} {B B1 B2 : Bag} {a b c e elt : Expr} {scope : Scope} {pos p pos' : Pos} {rest s1 : List Stmt} {E : En} {d : VD}
end
end Gd
set_option exponentiation.threshold 20000
namespace Lw
open PySem PySem.Spec PyProof.Rows L2 Gd Fr
open scoped Rat
section
variable {b p : Nat} {low high : Int} (F : Fm b p low high)
include F
end
end Lw
namespace Lw
end Lw
namespace Gd
open PySem PySem.Spec PyProof.Rows L2
def tyN : PyData → Option String
  | .none => some "NoneType"
  | .bool _ => some "bool"
  | .int _ => some "int"
  | .str _ => some "str"
  | .list _ => some "list"
  | .tuple _ => some "tuple"
  | .dict _ => some "dict"
section
variable {X : Cx} {Γ : List VD} {B B1 B2 : Bag} {e c elt a b : Expr} {scope : Scope} {acc : List PyData} {pos pos' p p' : Pos} {rest : List Stmt} {E : En} {d : VD}
theorem rp_ty {K : PySem.W.Frag} {H0 H : Hp} (ex : Same H0 H) {v : V} {y : PyData} {t : String} (r : Rp K H0 v y) (h : tyN y = some t) : TyX K H v (.type t) := by
  cases r with
  | non => cases h; exact .base .non
  | bl b => cases h; exact .base (.bl b)
  | int i => cases h; exact .base (.int i)
  | str x => cases h; exact .base (.str x)
  | lst hx _ => cases h; exact .base (.lst (ex _ _ hx))
  | tup hx _ =>
    cases h
    rcases hx with (hh | ⟨ob, hh⟩) | hh
    · exact .base (.tup (ex _ _ hh))
    · exact .fTuple (ex _ _ hh)
    · obtain ⟨ob, its, n, h1, h2, _⟩ := hh; exact .kTuple h1 h2
  | dct hx => cases h; exact .base (.dK (ex _ _ hx))
  | dctT kvs hx => cases h; exact .base (.dT (ex _ _ hx))
theorem ej_isi {x : Str} {T t : String} {r : Bool} {y : PyData} (hm : X.mg "isinstance" = none) (hmT : X.mg x = none) (ha : EJ X Γ B a (.da y) B1) (ht : tyN y = some t := by rfl) (hk : kitB t T = some r := by decide +kernel)
    (hv : bootBuiltins x = some (.type T) := by decide +kernel) (hgT : Gl X x := by rfl) (hn : x ≠ "__name__" := by decide) (hdb : (x == ("__debug__" : Str)) = false := by decide)
    (hs : starEach [a, .Name x p'] X.env = (false, eval a X.env) :: starEach [.Name x p'] X.env := by rfl) (hs2 : starEach [.Name x p'] X.env = (false, eval (.Name x p') X.env) :: starEach [] X.env := by rfl)
    (hpl : (backTo pos (starEach [.Name x p'] X.env)).any (·.1) = false := by rfl) (hg : Gl X "isinstance" := by rfl) :
    EJ X Γ B (.Call (.Name "isinstance" p) [a, .Name x p'] [] pos) (.da (.bool r)) B1 := fun g σ H0 H Ev O Q q =>
  ⟨_, pe_callB call_isi hg hm (by decide +kernel) (pa_cons (we a) (pa_cons (pe_bltn (v := .ty T) hgT hmT hv rfl hn hdb) pa_nil hs2) hs) (by decide) (by decide) hs hpl,
   ha g σ H0 H Ev O _ fun v H1 H' t1 o rv => ⟨v, .ty T, .type t, .type T, r, rfl, .ty T, rp_ty o.ex rv ht, kit_ty hk, q _ _ _ t1 o (Rp.bl r)⟩⟩
end
end Gd
set_option exponentiation.threshold 20000
namespace Lw
open PySem PySem.Spec PyProof.Rows L2 Gd Fr
open scoped Rat
noncomputable instance exQ_dec (b p : Nat) (low high : Int) (x : Rat) : Decidable (exQ b p low high x) := by unfold exQ; infer_instance
section
variable {b p : Nat} {low high : Int} {b' p' : Nat} {low' high' : Int} (F : Fm b p low high) (F' : Fm b' p' low' high')
include F F'
end
end Lw
set_option exponentiation.threshold 20000
namespace Lw
open PySem PySem.Spec PyProof.Rows L2 Gd Fr
open scoped Rat
theorem can_sgn {b : Nat} (h2 : 2 ≤ b) {s c e : Int} (hs : s = 0 ∨ s = 1) (h0 : 0 ≤ c) : (if (Va.num s c e).wQ b = 0 then s else sgn ((Va.num s c e).wQ b)) = s := by
  have ws := wQ_sign h2 (c := c) (e := e) hs h0
  split
  · rfl
  · next hz =>
    rw [sgn_eq]
    by_cases hn : (Va.num s c e).wQ b < 0
    · rw [if_pos hn]; exact (ws.1 hn).symm
    · rw [if_neg hn]; exact (ws.2 (by grind)).symm
def Pre_cpl (Γ : List VD) (B : Bag) : Prop := Γ = [.bag] ∧ Bok B
end Lw
set_option exponentiation.threshold 20000
namespace Lw
open PySem PySem.Spec PyProof.Rows L2 Gd Fr
open scoped Rat
end Lw
namespace Gd
open PySem PySem.Spec PyProof.Rows L2
section
variable {X : Cx} {Γ : List VD} {B B1 B2 B3 : Bag} {e c elt a b o i f : Expr} {scope : Scope} {acc : List PyData} {pos pos' p p' : Pos} {rest : List Stmt} {E : En} {d : VD}
end
end Gd
namespace Gd
open PySem PySem.Spec PyProof.Rows L2
section
variable {X : Cx} {Γ : List VD} {B B1 B2 : Bag} {a b c e : Expr} {pos p pos' : Pos} {rest s1 : List Stmt} {E : En}
end
end Gd
set_option exponentiation.threshold 20000
namespace Lw
open PySem PySem.Spec PyProof.Rows L2 Gd Fr
open scoped Rat
section
variable {b p : Nat} {low high : Int} (F : Fm b p low high)
include F
end
end Lw
namespace Lw
open PySem PySem.Spec PyProof.Rows L2 Gd Fr
open scoped Rat
end Lw
namespace Fr
open Gd PySem
open scoped Rat
def tw (k : Nat) (a : Int) : Int := 2 ^ k * (2 * a + 1)
theorem tw_of : ∀ (m : Nat) (n : Int), n.natAbs ≤ m → n ≠ 0 → ∃ k a, n = tw k a := by
  intro m
  induction m with
  | zero => intro n h hn; omega
  | succ m ih =>
    intro n h hn
    by_cases ho : n % 2 = 1
    · exact ⟨0, n / 2, by unfold tw; omega⟩
    · obtain ⟨k, a, e⟩ := ih (n / 2) (by omega) (by omega)
      refine ⟨k + 1, a, ?_⟩
      unfold tw at *
      rw [Int.pow_succ, Int.mul_comm _ 2, Int.mul_assoc, ← e]; omega
theorem tw_ex {n : Int} (h : n ≠ 0) : ∃ k a, n = tw k a := tw_of _ n (Nat.le_refl _) h
theorem tw_ne (k : Nat) (a : Int) : tw k a ≠ 0 := by
  unfold tw
  exact Int.mul_ne_zero (Int.ne_of_gt (Int.pow_pos (by decide))) (by omega)
theorem tw_low (k : Nat) (a : Int) : Builtin.bitAnd (tw k a) (-(tw k a)) = 2 ^ k := PySem.W.kbt_low k a
theorem bits_two (k : Nat) : ((Builtin.Int.intBits ((2 : Int) ^ k) : Nat) : Int) - 1 = (k : Int) := by
  have e : ((2 : Int) ^ k) = ((2 ^ k : Nat) : Int) := by rw [Int.natCast_pow]; rfl
  have p : 0 < 2 ^ k := Nat.pow_pos (by decide)
  unfold Builtin.Int.intBits
  rw [e, if_neg (by rw [beq_iff_eq]; omega), Int.natAbs_natCast, Nat.log2_two_pow]
  omega
theorem tw_shr {j k : Nat} (h : j ≤ k) (a : Int) : tw k a / 2 ^ j = tw (k - j) a := by
  unfold tw
  have e : (2 : Int) ^ k = 2 ^ j * 2 ^ (k - j) := by rw [← Int.pow_add]; congr 1; omega
  rw [e, Int.mul_assoc]
  exact Int.mul_ediv_cancel_left _ (Int.ne_of_gt (Int.pow_pos (by decide)))
theorem tw_zero (a : Int) : tw 0 a = 2 * a + 1 := by unfold tw; omega
theorem tw_split {j k : Nat} (h : j ≤ k) (a : Int) : tw k a = 2 ^ j * tw (k - j) a := by
  unfold tw
  rw [← Int.mul_assoc, ← Int.pow_add]; congr 2; omega
theorem gcd_odd {n : Int} (k : Nat) (b : Int) (h : n % 2 = 1 ∨ k = 0) : Nat.gcd n.natAbs (tw k b).natAbs = Nat.gcd n.natAbs (tw 0 b).natAbs := by
  rcases h with h | rfl
  · have e : (tw k b).natAbs = 2 ^ k * (tw 0 b).natAbs := by
      unfold tw; rw [Int.natAbs_mul, Int.natAbs_pow, Int.pow_zero, Int.one_mul]; rfl
    rw [e]
    have c : Nat.Coprime n.natAbs (2 ^ k) := by
      refine Nat.Coprime.pow_right _ ?_
      rw [Nat.coprime_comm]
      have : n.natAbs % 2 = 1 := by omega
      rw [Nat.Coprime, Nat.gcd_rec, this]; decide
    exact Nat.Coprime.gcd_mul_left_cancel_right _ c.symm
  · rfl
theorem tw_odd (a : Int) : tw 0 a % 2 = 1 := by rw [tw_zero]; omega
theorem bd_tw {m j k : Nat} {a : Int} (h : Bd m (tw k a)) (hj : j ≤ k) : Bd m (tw j a) := by
  unfold Bd tw at *
  rw [Int.natAbs_mul, Int.natAbs_pow] at *
  refine Nat.lt_of_le_of_lt (Nat.mul_le_mul_right _ ?_) h
  exact Nat.pow_le_pow_right (by decide) hj
theorem divInt_tw {i j t : Nat} (hi : t ≤ i) (hj : t ≤ j) (a b : Int) : tw i a /. tw j b = tw (i - t) a /. tw (j - t) b := by
  rw [tw_split hi, tw_split hj, Rat.divInt_mul_left (Int.ne_of_gt (Int.pow_pos (by decide)))]
end Fr
namespace Gd
open PySem PySem.Spec PyProof.Rows L2
section
variable {X : Cx} {Γ : List VD} {B B1 B2 B3 B' : Bag} {e a b c : Expr} {es : List Expr} {d da db dc : VD} {pos p pos' apos : Pos} {rest ss s1 s2 : List Stmt} {E : En}
theorem ej_band {i j : Int} (ha : EJ X Γ B a (.da (.int i)) B1) (hb : EJ X Γ B1 b (.da (.int j)) B2) : EJ X Γ B (.BinOp a .BitAnd b pos) (.da (.int (Builtin.bitAnd i j))) B2 :=
  ej_ii ha hb op_and fun _ => .int _
theorem ej_shr {i : Int} {k : Nat} (ha : EJ X Γ B a (.da (.int i)) B1) (hb : EJ X Γ B1 b (.da (.int (k : Int))) B2) : EJ X Γ B (.BinOp a .RShift b pos) (.da (.int (i / 2 ^ k))) B2 :=
  ej_iic ha hb op_shr (Int.natCast_nonneg k) fun _ => .int _
theorem ej_bits {i : Int} (ha : EJ X Γ B a (.da (.int i)) B1) (hbase : attributeBase a "bit_length" X.env (eval a X.env) = eval a X.env := by rfl) (hline : (apos.endLine == pos.line) = true := by rfl) :
    EJ X Γ B (.Call (.Attribute a "bit_length" apos) [] [] pos) (.da (.int (Builtin.Int.intBits i : Nat))) B1 := fun g σ H0 H E O Q q =>
  ⟨_, pe_bits (we a) hbase hline, ha g σ H0 H E O _ fun v H1 H' t o r => ⟨i, rvI r, q _ H1 H' t o (Rp.int _)⟩⟩
end
end Gd
namespace Lw
open PySem PySem.Spec PyProof.Rows L2 Gd Fr
open scoped Rat
inductive R_twos : Rel
  | mk (k : Nat) (a : Int) (B : Bag) : R_twos [.da (.int (tw k a))] B (.int (k : Int)) B
theorem fq_cop {n : Int} {d : Nat} (hd : d ≠ 0) (h : Nat.Coprime n.natAbs d) : fq (n /. (d : Int)) = .tuple [.int n, .int (d : Int)] := by
  have hd' : (d : Int) ≠ 0 := by omega
  have c1 : com n (d : Int) = 1 := by
    unfold com
    rw [if_neg (by omega), Int.natAbs_natCast, h.gcd_eq_one]; rfl
  have e1 := red_num (n := n) hd'
  have e2 := red_den (n := n) hd'
  rw [c1, Int.fdiv_one] at e1 e2
  unfold fq
  rw [← e1, ← e2]
theorem div_eq {n d n' d' : Int} (h : d ≠ 0) (h' : d' ≠ 0) (e : n * d' = n' * d) : n /. d = n' /. d' := (Rat.divInt_eq_divInt_iff h h').mpr e
theorem div_cross {n d : Int} (h : d ≠ 0) : n * ((n /. d).den : Int) = (n /. d).num * d := by
  have := (Rat.divInt_eq_divInt_iff h (den_ne (n /. d))).mp (self_div (n /. d)).symm
  exact this
theorem num_dvd {n d : Int} (h : d ≠ 0) : (n /. d).num.natAbs ∣ n.natAbs := by
  have e := congrArg Int.natAbs (div_cross (n := n) h)
  rw [Int.natAbs_mul, Int.natAbs_mul, Int.natAbs_natCast] at e
  have : (n /. d).num.natAbs ∣ n.natAbs * (n /. d).den := ⟨_, e⟩
  exact Nat.Coprime.dvd_of_dvd_mul_right (n /. d).reduced this
theorem den_dvd {n d : Int} (h : d ≠ 0) : (n /. d).den ∣ d.natAbs := by
  have e := congrArg Int.natAbs (div_cross (n := n) h)
  rw [Int.natAbs_mul, Int.natAbs_mul, Int.natAbs_natCast] at e
  have : (n /. d).den ∣ (n /. d).num.natAbs * d.natAbs := ⟨n.natAbs, by rw [← e, Nat.mul_comm]⟩
  exact Nat.Coprime.dvd_of_dvd_mul_left (n /. d).reduced.symm this
theorem mul_by (x y : Rat) : (.tuple [.int ((x.num /. (y.den : Int)).num * (y.num /. (x.den : Int)).num), .int (((y.num /. (x.den : Int)).den : Int) * ((x.num /. (y.den : Int)).den : Int))] : PyData) = fq (x * y) := by
  have c1 := div_cross (n := x.num) (den_ne y)
  have c2 := div_cross (n := y.num) (den_ne x)
  have d1 := num_dvd (n := x.num) (den_ne y)
  have d2 := den_dvd (n := x.num) (den_ne y)
  have d3 := num_dvd (n := y.num) (den_ne x)
  have d4 := den_dvd (n := y.num) (den_ne x)
  have r1 := (x.num /. (y.den : Int)).reduced
  have r2 := (y.num /. (x.den : Int)).reduced
  have p1 := (x.num /. (y.den : Int)).den_pos
  have p2 := (y.num /. (x.den : Int)).den_pos
  generalize x.num /. (y.den : Int) = u at *
  generalize y.num /. (x.den : Int) = v at *
  rw [Int.natAbs_natCast] at d2 d4
  have k1 : Nat.Coprime u.num.natAbs v.den := (x.reduced.coprime_dvd_left d1).coprime_dvd_right d4
  have k2 : Nat.Coprime v.num.natAbs u.den := (y.reduced.coprime_dvd_left d3).coprime_dvd_right d2
  have k : Nat.Coprime (u.num * v.num).natAbs (v.den * u.den) := by
    rw [Int.natAbs_mul]
    exact Nat.Coprime.mul_left (Nat.Coprime.mul_right k1 r1) (Nat.Coprime.mul_right r2 k2)
  have hne : v.den * u.den ≠ 0 := Nat.ne_of_gt (Nat.mul_pos p2 p1)
  have e := fq_cop hne k
  rw [← Int.natCast_mul, ← e, ← mul_div x y]
  congr 1
  refine div_eq (by omega) (Int.mul_ne_zero (den_ne x) (den_ne y)) ?_
  rw [Int.natCast_mul]
  have : u.num * (y.den : Int) * (v.num * (x.den : Int)) = x.num * (u.den : Int) * (y.num * (v.den : Int)) := by rw [c1, c2]
  grind
end Lw
namespace Gd
open PySem PySem.Spec PyProof.Rows L2
section
variable {X : Cx}
end
section
variable {X : Cx} {Γ : List VD} {B B1 B2 B3 B' : Bag} {e a b c : Expr} {es : List Expr} {d da db dc : VD} {pos p pos' apos : Pos} {kp : Pos} {rest ss s1 s2 : List Stmt} {E : En}
end
end Gd
namespace Gd
open PySem PySem.Spec PyProof.Rows L2
section
variable {X : Cx} {Γ : List VD} {B B1 B2 : Bag} {e c elt : Expr} {scope : Scope} {acc : List PyData} {pos pos' : Pos} {rest : List Stmt} {E : En} {d : VD}
end
end Gd
set_option exponentiation.threshold 20000
namespace Lw
open PySem PySem.Spec PyProof.Rows L2 Gd Fr
open scoped Rat
end Lw
namespace Gd
open PySem PySem.Spec PyProof.Rows L2
section
variable {P : Program} {w : World} {A : Around} {s : Shared} {E : Value → Shared → Prop}
end
section
variable {X : Cx} {Γ : List VD} {B B1 B2 B' : Bag} {e a b c : Expr} {es : List Expr} {d da db dc : VD} {pos p p' pos' : Pos} {rest ss s1 s2 : List Stmt} {E : En}
end
end Gd
namespace Gd
open PySem PySem.Spec PyProof.Rows L2
section
variable {K : PySem.W.Frag} {H : Hp} {a : Addr} {zs : List V}
end
section
variable {X : Cx} {i : Nat} {Γ : List VD} {B B1 B2 B' : Bag} {acc ds : List PyData} {e e2 a b c : Expr} {es : List Expr} {d da db : VD} {y y2 : PyData} {pos p p1 p2 p3 pos' : Pos} {rest ss s1 s2 : List Stmt} {E : EnO}
end
end Gd
namespace Gd
open PySem PySem.Spec PyProof.Rows L2
abbrev Post := PyData → Bag → Prop
def EX (X : Cx) (Γ : List VD) (B : Bag) (e : Expr) (Φ : Post) : Prop :=
  ∀ g σ H0 H, EnvD X.K g H0 σ Γ → On X.K g B H0 H → ∀ Q : VK,
    (∀ v H0' H' y B', Φ y B' → To g H0 H H0' H' → On X.K g B' H0' H' → Rp X.K H0' v y → Q v H') → WE X e σ H Q
def AX (X : Cx) (Γ : List VD) (B : Bag) (es : List Expr) (Φ : List VD → Bag → Prop) : Prop :=
  ∀ g σ H0 H, EnvD X.K g H0 σ Γ → On X.K g B H0 H → ∀ Q : List V → Hp → Prop,
    (∀ vs H0' H' ds B', Φ ds B' → To g H0 H H0' H' → On X.K g B' H0' H' → RvAll X.K g H0' vs ds → Q vs H') → WA X es σ H Q
def TX (X : Cx) (Γ : List VD) (B : Bag) (e : Expr) (Φ : Bool → Bag → Prop) : Prop :=
  ∀ g σ H0 H, EnvD X.K g H0 σ Γ → On X.K g B H0 H → ∀ Q : Bool → Hp → Prop,
    (∀ b H0' H' B', Φ b B' → To g H0 H H0' H' → On X.K g B' H0' H' → Q b H') → WT X e σ H Q
def DefSpX (K : PySem.W.Frag) (Pre : List VD → Bag → Prop) (Po : List VD → Bag → Post) : Sp := fun vs H Q _ =>
  ∃ g Γ B H0, RvAll K g H0 vs Γ ∧ On K g B H0 H ∧ Pre Γ B ∧
    ∀ v H0' H' r B', Po Γ B r B' → To g H0 H H0' H' → On K g B' H0' H' → Rp K H0' v r → Q v H'
def CalX (P : Program) (w : World) (K : PySem.W.Frag) (mg : Str → Option Value) (base : Heap) (x : Str) (k : Nat) (Pre : List VD → Bag → Prop) (Po : List VD → Bag → Post) : Prop :=
  ∃ f fd ps, FnG P w K mg base k f fd ps (DefSpX K Pre Po) ∧ mg x = some (.ref f) ∧ PySem.W.keepIn K (.ref f) = true ∧ Binds K fd ps []
theorem calx_at {P : Program} {w : World} {K : PySem.W.Frag} {mg : Str → Option Value} {base : Heap} {x : Str} {st : Stmt} {N ps : List Str} {k : Nat} {Pre : List VD → Bag → Prop} {Po : List VD → Bag → Post}
    (T : At K mg x st ps) (S : FnScope N ps (defScope st)) (len : ∀ Γ B, Pre Γ B → Γ.length = ps.length)
    (body : ∀ (f : Addr) (cdv : Value) (A : Around) (out : List Env) (s : Shared) (H : Hp) (E : XK),
      Gx k (cxOf CX0 P w K mg base N x (defScope st) f cdv A out s H E).nox → ∀ Γ B, Pre Γ B →
      SJ (cxOf CX0 P w K mg base N x (defScope st) f cdv A out s H E).nox (Γ ++ List.replicate (N.length - ps.length) .no) B (defBody st)
        { nx := fun _ B2 => Po Γ B .none B2, rt := fun d B2 => Po Γ B d B2 }) : CalX P w K mg base x (k + 1) Pre Po := by
  obtain ⟨f, fd, F, hm, hb⟩ := T
  have hpl : ps.length ≤ N.length := by
    have := congrArg List.length S.pre
    rw [List.length_take] at this; omega
  refine ⟨f, fd, ps, fnG_of F S ?_ ?_, hm, F.kp, hb⟩
  · rintro vs H Q E ⟨g, Γ, B, H0, a, b, c, d⟩
    rw [a.length]; exact len _ _ c
  · intro cdv A out s H vs Q E G ⟨g, Γ, B, H0, a, b, c, d⟩
    have hl := len _ _ c
    have E0' := start_env (N := N) a (by rw [hl]; exact hpl)
    rw [hl] at E0'
    refine body f cdv A out s H E G Γ B c g _ H0 H E0' b _ ⟨?_, ?_, ?_, ?_⟩
    · intro Γ2 B2 σ H1 H' z t _ o
      exact d _ _ _ _ _ z t o .non
    · intro r2 B2 v H1 H' z t o rv
      exact d _ _ _ _ _ z t o rv
    · intro _ _ _ _ _ z; exact z.elim
    · intro _ _ _ _ _ z; exact z.elim
theorem Cal.x {P : Program} {w : World} {K : PySem.W.Frag} {mg : Str → Option Value} {base : Heap} {x : Str} {k : Nat} {R : Rel} {Pre : List VD → Bag → Prop} {Po : List VD → Bag → Post}
    (c : Cal P w K mg base x k R) (h : ∀ Γ B, Pre Γ B → ∃ r B', R Γ B r B' ∧ Po Γ B r B') : CalX P w K mg base x k Pre Po := by
  obtain ⟨f, fd, ps, F, h1, h2, h3⟩ := c
  have im : ∀ vs H Q E, DefSpX K Pre Po vs H Q E → DefSp K R vs H Q E := by
    rintro vs H Q E ⟨g, Γ, B, H0, a, b, c, d⟩
    obtain ⟨r, B', hR, hP⟩ := h Γ B c
    exact ⟨g, Γ, B, H0, r, B', a, b, hR, fun v H0' H' t o rv => d v H0' H' r B' hP t o rv⟩
  exact ⟨f, fd, ps, ⟨fun vs H Q E q => F.len vs H Q E (im _ _ _ _ q), fun A o s H ar us vs Q E q1 q2 q3 q4 q5 q => F.run A o s H ar us vs Q E q1 q2 q3 q4 q5 (im _ _ _ _ q)⟩, h1, h2, h3⟩
section
variable {X : Cx} {Γ : List VD} {B B1 B2 B' : Bag} {e a b c : Expr} {es : List Expr} {d da db : VD} {y : PyData} {pos p pos' : Pos} {rest ss s1 s2 : List Stmt} {E : En} {Φ : Post} {Ω : List VD → Bag → Prop} {Ψ : Bool → Bag → Prop}
theorem ex_ej (h : EJ X Γ B e (.da y) B1) (hΦ : Φ y B1) : EX X Γ B e Φ := fun g σ H0 H Ev O Q q => h g σ H0 H Ev O Q fun v H1 H' t o r => q v H1 H' y B1 hΦ t o r
theorem ex_mono {Φ' : Post} (h : EX X Γ B e Φ) (m : ∀ y B', Φ y B' → Φ' y B') : EX X Γ B e Φ' := fun g σ H0 H Ev O Q q => h g σ H0 H Ev O Q fun v H1 H' y B' hy t o r => q v H1 H' y B' (m _ _ hy) t o r
theorem ax_aj {ds : List VD} (h : AJ X Γ B es ds B1) (hΩ : Ω ds B1) : AX X Γ B es Ω := fun g σ H0 H Ev O Q q => h g σ H0 H Ev O Q fun v H1 H' t o r => q v H1 H' ds B1 hΩ t o r
theorem ax_nil (h : Ω [] B) : AX X Γ B [] Ω := fun g σ H0 H _ O Q q => ⟨_, pa_nil, q [] H0 H [] B h To.refl O trivial⟩
theorem ax_cons (h : EX X Γ B e fun y B1 => AX X Γ B1 es fun ds B2 => Ω (.da y :: ds) B2) (hs : starEach (e :: es) X.env = (false, eval e X.env) :: starEach es X.env := by rfl) : AX X Γ B (e :: es) Ω := fun g σ H0 H E O Q q =>
  ⟨_, pa_cons (we e) (wa es) hs, h g σ H0 H E O _ fun v H1 H' y B1 hy t o rv => hy g σ H1 H' (E.mono t.ex) o _ fun vs H2 H'' ds B2 hd t2 o2 rs => q (v :: vs) H2 H'' _ _ hd (t.trans t2) o2 ⟨Rp.mono t2.ex rv, rs⟩⟩
theorem ax_bag (i : Nat) {x : Str} (r : AX X Γ B es fun ds B2 => Ω (.bag :: ds) B2) (h : Γ[i]? = some .bag := by rfl) (hN : X.N[i]? = some x := by rfl)
    (hv : Vis X.env.scope x := by first | exact Or.inl rfl | exact Or.inr (Or.inl rfl) | exact Or.inr (Or.inr rfl))
    (h1 : (x == ("__debug__" : Str)) = false := by decide) (h2 : (x == ("__classdict__" : Str)) = false := by decide)
    (hs : starEach (.Name x pos :: es) X.env = (false, eval (.Name x pos) X.env) :: starEach es X.env := by rfl) : AX X Γ B (.Name x pos :: es) Ω := fun g σ H0 H E O Q q =>
  ⟨_, pa_cons (we (.Name x pos)) (wa es) hs, (ej_bag (B := B) i h hN hv h1 h2) g σ H0 H E O _ fun v H1 H' t o rv => r g σ H1 H' (E.mono t.ex) o _ fun vs H2 H'' ds B2 hd t2 o2 rs => q (v :: vs) H2 H'' _ _ hd (t.trans t2) o2 ⟨rv.mono t2.ex, rs⟩⟩
theorem ex_call {x : Str} {k : Nat} {Pre : List VD → Bag → Prop} {Po : List VD → Bag → Post} (c : CalX X.prog X.w X.K X.mg X.base x k Pre Po) (g : Gx k X) (ha : AX X Γ B (e :: es) fun ds B1 => Pre ds B1 ∧ ∀ r B', Po ds B1 r B' → Φ r B')
    (hg : Gl X x := by rfl) (hdb : (x == ("__debug__" : Str)) = false := by decide) (he : starEach (e :: es) X.env = (false, eval e X.env) :: starEach es X.env := by rfl)
    (hpl : (backTo pos (starEach es X.env)).any (·.1) = false := by rfl) : EX X Γ B (.Call (.Name x p) (e :: es) [] pos) Φ := by
  obtain ⟨f, fd, ps, F, hm, hk, hb⟩ := c
  intro gh σ H0 H E O Q q
  refine ⟨fun σ H Q => WA X (e :: es) σ H fun vs H1 => DefSpX X.K Pre Po vs H1 Q E0, ⟨fun pins s σ H Q I h => ?_⟩, ?_⟩
  · refine wpAny_Call_Name_kw (ld_glob I hg hm ?_ hdb)
    refine PySem.W.callWith_K (h₀ := X.base) I.ok.mod.kin hk (thn ((wa (e :: es)).run pos pins s σ H _ I h) ?_) he hpl
    rintro us s1 ⟨vs, H1, I1, r1, q1⟩
    exact ⟨I1.kIn, runG F g hb I1 r1 q1⟩
  · refine ha gh σ H0 H E O _ fun vs H1 H' ds B1 hd t o rs => ?_
    exact ⟨gh, ds, B1, H1, rs, o, hd.1, fun v H2 H'' r B2 hr t2 o2 rv => q v H2 H'' _ _ (hd.2 _ _ hr) (t.trans t2) o2 rv⟩
theorem ex_tup {k} (h : AX X Γ B es fun ds B1 => ∃ ys : List PyData, ds = ys.map .da ∧ ys.length ≤ 1000 ∧ Φ (.tuple ys) B1) : EX X Γ B (.Tuple es k pos) Φ := fun g σ H0 H Ev O Q q =>
  ⟨_, pe_tup (wa es), h g σ H0 H Ev O _ fun vs H1 H' ds B1 hd t o rs => by
    obtain ⟨ys, rfl, hl, hΦ⟩ := hd
    have rs := RvAll.dat rs
    refine ⟨by rw [rs.length]; exact Nat.le_of_lt (small1000 hl), fun n hn => ?_⟩
    obtain ⟨t2, o2⟩ := laid (o := .tup vs) o hn
    exact q _ _ _ _ _ hΦ (t.trans t2) o2 (Rp.tup (SqT.of upd_same) (rs.mono t2.ex))⟩
theorem tx_tj {x : Bool} (h : TJ X Γ B e x B1) (hΨ : Ψ x B1) : TX X Γ B e Ψ := fun g σ H0 H Ev O Q q => h g σ H0 H Ev O Q fun H1 H' t o => q x H1 H' B1 hΨ t o
theorem sj_setX (i : Nat) {x : Str} (nd : X.N.Nodup) (h : EX X Γ B e fun y B1 => SJ X (Γ.set i (.da y)) B1 rest E) (hi : X.N[i]? = some x := by rfl)
    (hx : Loc X.env.scope x := by first | exact Or.inl rfl | exact Or.inr rfl) (hs : swapsWith e (some (.Name x pos')) pos.line X.env = pure false := by rfl)
    (hf : X.fn x = true ∨ X.env.scope.names.lookup x = some .local := by first | exact Or.inl rfl | exact Or.inr rfl) : SJ X Γ B (.Assign [.Name x pos'] e pos :: rest) E := fun g σ H0 H Ev O D G =>
  ⟨_, pss_cons (ps_set nd hi hx (we e) hs hf) (ws rest), h g σ H0 H Ev O _ fun v H1 H' y B1 k t o r => k g _ H1 H' ((Ev.mono t.ex).set i r) o D (G.on t)⟩
theorem sj_unpackX (is : List Nat) {ts : List Expr} {k n : Nat} {pt : Pos} (hc : X.calm = true) (h : EX X Γ B e fun y B1 => ∃ ds, y = .tuple ds ∧ ds.length = n ∧ SJ X (setAll Γ is ds) B1 rest E) (hg : PGs X ts (gNames is)) (hl : is.length = n)
    (hn : (assignEach ts X.env).length = n := by rfl) (hst : (assignEach ts X.env).findIdx? (·.1) = none := by rfl)
    (h1 : swapsWithSole [.Tuple ts k pt] e pos.line X.env = pure false := by rfl) (h2 : swappedStores [.Tuple ts k pt] e X.env = pure none := by rfl)
    (h3 : (assignEach [.Tuple ts k pt] X.env).map (·.2) = [assign (.Tuple ts k pt) X.env] := by rfl) : SJ X Γ B (.Assign [.Tuple ts k pt] e pos :: rest) E := fun g σ H0 H Ev O D G =>
  ⟨_, pss_cons (ps_asg (we e) (pg_tup hc hg hn hst) h1 h2 h3) (ws rest), h g σ H0 H Ev O _ fun v H1 H' y B1 hy t o r => by
    obtain ⟨ds, rfl, hdl, q⟩ := hy
    obtain ⟨p, xs, rfl, hxs, rs⟩ := rvT (g := g) r
    exact ⟨p, xs, rfl, seqT o.ex hxs, by rw [rs.length]; exact hdl, gNames_run is xs ds σ Γ rs (by omega) (Ev.mono t.ex) fun σ' e' => q g σ' H1 H' e' o D (G.on t)⟩⟩
theorem sj_retX (h : EX X Γ B e E.rt) : SJ X Γ B (.Return (some e) pos :: rest) E := fun g σ H0 H Ev O D G =>
  ⟨_, pss_cons (ps_ret (we e)) (ws rest), h g σ H0 H Ev O _ fun v H1 H' y B1 hy t o r => G.rt _ B1 v H1 H' hy t o r⟩
theorem sj_ifX (h : TX X Γ B c fun x B1 => (x = true → SJ X Γ B1 s1 { E with nx := fun Γ' B' => SJ X Γ' B' rest E }) ∧ (x = false → SJ X Γ B1 s2 { E with nx := fun Γ' B' => SJ X Γ' B' rest E })) :
    SJ X Γ B (.If c s1 s2 pos :: rest) E := fun g σ H0 H Ev O D G =>
  ⟨_, pss_cons (ps_if (wt c) (ws s1) (ws s2)) (ws rest), h g σ H0 H Ev O _ fun x H1 H' B1 hx t o => by
    have G' : Gets X { E with nx := fun Γ' B' => SJ X Γ' B' rest E } g H1 H' { D with nx := WS X rest D } :=
      ⟨fun Γ2 B2 σ2 H2 H'' q t2 ev o2 => q g σ2 H2 H'' ev o2 D (G.on (t.trans t2)), (G.on t).rt, (G.on t).bk, (G.on t).ct⟩
    cases x with
    | true => exact iteT (hx.1 rfl g σ H1 H' (Ev.mono t.ex) o _ G')
    | false => exact iteF (hx.2 rfl g σ H1 H' (Ev.mono t.ex) o _ G')⟩
end
section
variable {X : Cx} {i : Nat} {Γ : List VD} {B B1 B2 B' : Bag} {acc ds : List PyData} {e e2 a b c : Expr} {es : List Expr} {d da db : VD} {y y2 : PyData} {pos p p1 p2 p3 pos' : Pos} {rest ss s1 s2 : List Stmt} {E : EnO} {Φ : Post}
end
section
variable {X : Cx} {Γ : List VD} {B B1 B2 B' : Bag} {e a : Expr} {elt : Expr} {scope : Scope} {j : Nat} {x : Str} {px : Pos} {ds ys : List PyData} {pos pos' : Pos} {rest : List Stmt} {E : En} {Φ : Post}
end
end Gd
namespace Gd
open PySem PySem.Spec PyProof.Rows L2
section
variable {X : Cx} {Γ : List VD} {B B1 B2 B' : Bag} {e a b c : Expr} {es : List Expr} {d da db : VD} {y : PyData} {pos p pos' : Pos} {rest ss s1 s2 : List Stmt} {E : En} {Φ : Post} {Ω : List VD → Bag → Prop} {Ψ : Bool → Bag → Prop}
theorem ax_one (h : EX X Γ B e fun y B1 => Ω [.da y] B1) (hs : starEach [e] X.env = [(false, eval e X.env)] := by rfl) : AX X Γ B [e] Ω := ax_cons (ex_mono h fun y B1 hy => ax_nil hy) hs
end
end Gd
set_option exponentiation.threshold 20000
namespace Lw
open PySem PySem.Spec PyProof.Rows L2 Gd Fr
open scoped Rat
theorem lay_all {ds : List PyData} (h : ∀ d ∈ ds, d.canLay0 = true) : PyData.canLayAll0 ds = true := by
  induction ds with
  | nil => simp only [PyData.canLayAll0]
  | cons d ds ih => simp only [PyData.canLayAll0, h d List.mem_cons_self, ih fun x hx => h x (List.mem_cons_of_mem _ hx), Bool.and_self]
theorem depth_all {n : Nat} {ds : List PyData} (h : ∀ d ∈ ds, d.depth ≤ n) : PyData.depthAll ds ≤ n := by
  induction ds with
  | nil => exact Nat.zero_le _
  | cons d ds ih =>
    show max d.depth (PyData.depthAll ds) ≤ n
    exact Nat.max_le.mpr ⟨h d List.mem_cons_self, ih fun x hx => h x (List.mem_cons_of_mem _ hx)⟩
def Sh (n : Nat) (d : PyData) : Prop := d.canLay0 = true ∧ d.depth ≤ n
theorem Sh.shaped {n : Nat} {d : PyData} (h : Sh n d) (hn : n ≤ 64 := by decide) : SeqAt.shaped d = true := by
  unfold SeqAt.shaped
  rw [h.1, Bool.true_and, decide_eq_true_eq]
  exact Nat.le_trans h.2 hn
theorem Sh.lst {n : Nat} {ds : List PyData} (h : ∀ d ∈ ds, Sh n d) : Sh (n + 1) (.list ds) :=
  ⟨by simp only [PyData.canLay0]; exact lay_all fun d hd => (h d hd).1, by show PyData.depthAll ds + 1 ≤ n + 1; have := depth_all fun d hd => (h d hd).2; omega⟩
theorem Sh.tup {n : Nat} {ds : List PyData} (h : ∀ d ∈ ds, Sh n d) : Sh (n + 1) (.tuple ds) :=
  ⟨by simp only [PyData.canLay0]; exact lay_all fun d hd => (h d hd).1, by show PyData.depthAll ds + 1 ≤ n + 1; have := depth_all fun d hd => (h d hd).2; omega⟩
theorem Sh.int (i : Int) : Sh 0 (.int i) := ⟨by simp only [PyData.canLay0], Nat.le_refl _⟩
theorem Sh.str {x : Str} (h : PyData.strOk x = true) : Sh 0 (.str x) := ⟨by simp only [PyData.canLay0]; exact h, Nat.le_refl _⟩
theorem Sh.mono {n m : Nat} {d : PyData} (h : Sh n d) (e : n ≤ m) : Sh m d := ⟨h.1, Nat.le_trans h.2 e⟩
inductive Te where
  | nan
  | inf (s : Int)
  | x (q : Rat) (s : Int)
def Te.d : Te → PyData
  | .nan => .tuple [.str "nan"]
  | .inf s => .tuple [.str "inf", .int s]
  | .x q s => .tuple [.str "x", fq q, .int s]
def Te.isNan : Te → Bool
  | .nan => true
  | _ => false
def Te.isInf : Te → Bool
  | .inf _ => true
  | _ => false
def Te.sg : Te → Int
  | .nan => 0
  | .inf s => s
  | .x _ s => s
def Te.q : Te → Rat
  | .x q _ => q
  | _ => 0
end Lw
namespace Lw
open PySem PySem.Spec PyProof.Rows L2 Gd Fr
end Lw
set_option exponentiation.threshold 20000
namespace Lw
open PySem PySem.Spec PyProof.Rows L2 Gd Fr
open scoped Rat
theorem F4.inj {t u : F4} (h : t.d = u.d) : t = u := by
  obtain ⟨a, b, c, d⟩ := t
  obtain ⟨a', b', c', d'⟩ := u
  have h : fmP a b c d = fmP a' b' c' d' := h
  unfold fmP at h
  injection h with h
  injection h with h1 h
  injection h with h2 h
  injection h with h3 h
  injection h with h4 h
  injection h1 with h1
  injection h2 with h2
  injection h3 with h3
  injection h4 with h4
  have h1 : a = a' := by omega
  have h2 : b = b' := by omega
  subst h1; subst h2; subst h3; subst h4; rfl
section
variable {b p : Nat} {low high : Int} (F : Fm b p low high)
include F
end
end Lw
namespace Lw
open Gd
end Lw
set_option exponentiation.threshold 20000
namespace Lw
open PySem PySem.Spec PyProof.Rows L2 Gd Fr
open scoped Rat
end Lw
set_option exponentiation.threshold 20000
namespace Lw
open PySem PySem.Spec PyProof PyProof.Rows L2 Gd Fr
open scoped Rat
theorem big_lt {b D t P : Nat} (h2 : 2 ≤ b) (hD : 1 ≤ D) (h : (b ^ D - 1) * b ^ t < b ^ P) : D + t ≤ P := by
  refine Nat.not_lt.mp fun hn => ?_
  have h1 : b ^ P ≤ b ^ (D - 1 + t) := Nat.pow_le_pow_right (by omega) (by omega)
  have h3 : b ^ (D - 1) ≤ b ^ D - 1 := by
    have e : b ^ D = b ^ (D - 1) * b := by rw [← Nat.pow_succ]; exact congrArg (b ^ ·) (by omega)
    have p : 0 < b ^ (D - 1) := Nat.pow_pos (by omega)
    have := Nat.mul_le_mul_left (b ^ (D - 1)) h2
    omega
  have h4 : b ^ (D - 1) * b ^ t ≤ (b ^ D - 1) * b ^ t := Nat.mul_le_mul_right _ h3
  rw [← Nat.pow_add] at h4
  omega
end Lw
namespace Gd
open PySem PySem.Spec PyProof.Rows L2
section
variable {X : Cx} {Γ : List VD} {B B1 B2 : Bag} {e c elt : Expr} {scope : Scope} {acc : List PyData} {pos pos' : Pos} {rest : List Stmt} {E : En} {d : VD}
theorem wj_andF (h : TJ X Γ B e false B1) : WJ X Γ B (.BoolOp .And (e :: a :: es) pos) false B1 := fun g σ H0 H E O Q q =>
  ⟨_, pw_and (wt e) (ww _), h g σ H0 H E O _ fun H1 H' t o => iteF (q H1 H' t o)⟩
end
end Gd
set_option exponentiation.threshold 20000
namespace Lw
open PySem PySem.Spec PyProof.Rows L2 Gd Fr
open scoped Rat
end Lw
namespace Lw
open PySem PySem.Spec PyProof.Rows L2 Gd Fr
open scoped Rat
end Lw
namespace Gd
open PySem PySem.Spec PyProof.Rows L2
section
variable {X : Cx} {Γ : List VD} {B B1 B2 : Bag} {e c elt : Expr} {scope : Scope} {acc : List PyData} {pos pos' : Pos} {rest : List Stmt} {E : En} {d : VD} {Φ : Post}
end
end Gd
set_option exponentiation.threshold 20000
namespace Lw
open PySem PySem.Spec PyProof.Rows L2 Gd Fr
open scoped Rat
end Lw
set_option exponentiation.threshold 20000
namespace Lw
open PySem PySem.Spec PyProof.Rows L2 Gd Fr
open scoped Rat
def Te.opp : Te → Te
  | .nan => .nan
  | .inf s => .inf (1 - s)
  | .x q s => .x (-q) (1 - s)
def Fl (fl : List Str) : Prop := fl = [] ∨ fl = (["invalid"] : List Str) ∨ fl = (["inexact", "over"] : List Str) ∨ fl = (["inexact", "tiny"] : List Str) ∨ fl = (["inexact"] : List Str)
theorem Fl.sh {fl : List Str} (h : Fl fl) : SeqAt.shaped (words fl) = true := by
  rcases h with rfl | rfl | rfl | rfl | rfl <;> decide +kernel
theorem Fl.eqv {fl : List Str} (h : Fl fl) : PyData.eqv (words fl) (.tuple []) = decide (fl = []) := by
  rcases h with rfl | rfl | rfl | rfl | rfl <;> rfl
end Lw
namespace Gd
open PySem PySem.Spec PyProof.Rows L2
section
variable {prog : Program} {w : World} {A : Around} {E : Value → Shared → Prop} {s : Shared}
end
section
variable {X : Cx} {Γ : List VD} {B B1 B2 : Bag} {a b c e : Expr} {pos p pos' : Pos} {rest s1 : List Stmt} {E : En}
end
end Gd
namespace Gd
open PySem PySem.Spec PyProof.Rows L2
section
variable {X : Cx} {Γ : List VD} {B B1 B2 B3 B' : Bag} {e a b c : Expr} {es : List Expr} {d da db dc : VD} {pos p pos' apos p1 p2 p3 : Pos} {rest ss s1 s2 : List Stmt} {E : En}
end
end Gd
set_option exponentiation.threshold 20000
namespace Lw
open PySem PySem.Spec PyProof.Rows L2 Gd Fr
open scoped Rat
inductive Sp where
  | none
  | span (u v : Va)
def Sp.d : Sp → PyData
  | .none => .tuple [.str "none"]
  | .span u v => .tuple [.str "span", u.d, v.d]
def Sp.ok (b p : Nat) (low high : Int) : Sp → Prop
  | .none => True
  | .span u v => (Vcan b p low high u ∧ u.isNan = false) ∧ Vcan b p low high v ∧ v.isNan = false
def apI (b p : Nat) (low high : Int) : Sp → Int
  | .none => 0
  | .span u v => rkI b p low high v - rkI b p low high u
inductive Wd (b p : Nat) (low high : Int) (L : List Sp) : PyData → Prop
  | none (h : ∀ s ∈ L, apI b p low high s < 2) : Wd b p low high L .none
  | some (i : Nat) (x : Sp) (hi : L[i]? = .some x) (h2 : 2 ≤ apI b p low high x) (h3 : ∀ s ∈ L, apI b p low high s ≤ apI b p low high x) (h4 : ∀ j y, j < i → L[j]? = .some y → apI b p low high y < apI b p low high x) : Wd b p low high L (.int (i : Nat))
theorem Wd.one {b p : Nat} {low high : Int} {L : List Sp} {d e : PyData} (h : Wd b p low high L d) (h' : Wd b p low high L e) : d = e := by
  cases h with
  | none h =>
    cases h' with
    | none _ => rfl
    | some i x hi h2 _ _ => have := h x (List.mem_of_getElem? hi); omega
  | some i x hi h2 h3 h4 =>
    cases h' with
    | none h => have := h x (List.mem_of_getElem? hi); omega
    | some j y hj g2 g3 g4 =>
      have a1 := h3 y (List.mem_of_getElem? hj)
      have a2 := g3 x (List.mem_of_getElem? hi)
      rcases Nat.lt_trichotomy i j with z | z | z
      · have := g4 i x z hi; omega
      · rw [z]
      · have := h4 j y z hj; omega
noncomputable def wdP (b p : Nat) (low high : Int) (L : List Sp) : PyData := by
  classical exact if h : ∃ d, Wd b p low high L d then h.choose else .none
theorem Wd.is {b p : Nat} {low high : Int} {L : List Sp} {d : PyData} (h : Wd b p low high L d) : wdP b p low high L = d := by
  have hx : ∃ d, Wd b p low high L d := ⟨d, h⟩
  unfold wdP
  rw [dif_pos hx]
  exact hx.choose_spec.one h
theorem pick_ex {α : Type} (xs : List α) (f : α → PyData) (B : Bag) (h : 0 < xs.length) : ∃ x ∈ xs, pick (xs.map f) B = f x := by
  have h0 := tkV_ge B (m := (xs.map f).length) (by rw [List.length_map]; omega)
  have h1 := tkV_lt B (m := (xs.map f).length) (by rw [List.length_map]; omega)
  have hlt : (tkV B (xs.map f).length).toNat < xs.length := by rw [List.length_map] at h1 ⊢; rw [List.length_map] at h0; omega
  refine ⟨xs[(tkV B (xs.map f).length).toNat], List.getElem_mem hlt, ?_⟩
  unfold pick
  rw [List.getD_eq_getElem?_getD, List.getElem?_map, List.getElem?_eq_getElem hlt]
  rfl
end Lw
namespace PySem
end PySem
namespace Gd
open PySem PySem.Spec PyProof.Rows L2
end Gd
namespace Gd
open PySem PySem.Spec PyProof.Rows L2
end Gd
namespace Gd
open PySem PySem.Spec PyProof.Rows L2
section
variable {X : Cx} {Γ : List VD} {B B1 : Bag} {a : Expr} {p p' kp pos : Pos}
end
end Gd
set_option exponentiation.threshold 20000
namespace Lw
open PySem PySem.Spec PyProof.Rows L2 Gd Fr
open scoped Rat
def plT : Va → Int × Int × Int
  | .nan => (2, 0, 0)
  | .inf s => if s = 0 then (1, 0, 0) else (-2, 0, 0)
  | .num s c e => if s = 0 then (0, e, c) else (-1, -e, -c)
def t3 (x : Int × Int × Int) : PyData := .tuple [.int x.1, .int x.2.1, .int x.2.2]
end Lw
set_option exponentiation.threshold 20000
namespace Lw
open PySem PySem.Spec PyProof.Rows L2 Gd Fr
open scoped Rat
section
variable {b p : Nat} {low high : Int} (F : Fm b p low high)
include F
end
section
variable {b p : Nat} {low high : Int} (F : Fm b p low high)
include F
end
end Lw
set_option exponentiation.threshold 20000
namespace Gd
open PySem PySem.Spec PyProof.Rows L2
section
variable {X : Cx} {Γ : List VD} {B B1 B2 B' : Bag} {e a b c : Expr} {pos : Pos}
end
end Gd
set_option exponentiation.threshold 20000
namespace Lw
open PySem PySem.Spec PyProof.Rows L2 Gd Fr
open scoped Rat
def lex3 (x y : Int × Int × Int) : Prop := x.1 < y.1 ∨ (x.1 = y.1 ∧ (x.2.1 < y.2.1 ∨ (x.2.1 = y.2.1 ∧ x.2.2 < y.2.2)))
instance (x y : Int × Int × Int) : Decidable (lex3 x y) := by unfold lex3; infer_instance
theorem lex3_asym {x y : Int × Int × Int} (h : lex3 x y) : ¬ lex3 y x := by unfold lex3 at *; omega
section
variable {b p : Nat} {low high : Int} (F : Fm b p low high)
include F
end
section
variable {b p : Nat} {low high : Int} (F : Fm b p low high)
include F
end
end Lw
namespace Lw
open PySem PySem.Spec PyProof.Rows L2 Gd Fr
end Lw
namespace Lw
open PySem PySem.Spec PyProof.Rows L2 Gd Fr
end Lw
namespace Lw
open PySem PySem.Spec PyProof.Rows L2 Gd Fr
end Lw
namespace Lw
open PySem PySem.Spec PyProof.Rows L2 Gd Fr
open scoped Rat
end Lw
namespace Lw
open PySem PySem.Spec PyProof.Rows L2 Gd Fr
open scoped Rat
end Lw
namespace Lw
open PySem PySem.Spec PyProof.Rows L2 Gd Fr
end Lw
set_option exponentiation.threshold 20000
namespace Gd
open PySem PySem.Spec PyProof.Rows L2
section
variable {X : Cx} {Γ : List VD} {B B1 B2 B' : Bag} {e a b c : Expr} {pos p : Pos}
end
end Gd
set_option exponentiation.threshold 20000
namespace Lw
open PySem PySem.Spec PyProof.Rows L2 Gd Fr
open scoped Rat
section
variable {b p : Nat} (h2 : 2 ≤ b)
include h2
end
section
variable {b p : Nat} (h2 : 2 ≤ b)
include h2
end
end Lw
set_option exponentiation.threshold 20000
namespace Lw
open PySem PySem.Spec PyProof.Rows L2 Gd Fr
open scoped Rat
structure RtOk (b : Nat) (low : Int) (q : Rat) (n d : Nat) : Prop where
  h0 : 0 < q
  hq : Qz n d q
  hn : n ≤ 8800
  hd : d ≤ 8800
  hL : q.den * b ^ (2 * low).toNat < 2 ^ 8800
section
variable {b p : Nat} {low high : Int} (F : Fm b p low high)
include F
end
end Lw
set_option exponentiation.threshold 20000
namespace Lw
open PySem PySem.Spec PyProof.Rows L2 Gd Fr
open scoped Rat
section
variable {b : Nat} (h2 : 2 ≤ b)
include h2
end
end Lw
set_option exponentiation.threshold 20000
namespace Lw
open PySem PySem.Spec PyProof.Rows L2 Gd Fr
open scoped Rat
section
variable {b p : Nat} {low high : Int} (F : Fm b p low high)
include F
end
section
variable (b p : Nat) (low high : Int)
end
end Lw
set_option exponentiation.threshold 20000
namespace Gd
open PySem PySem.Spec PyProof.Rows L2
section
variable {X : Cx} {Γ : List VD} {B B1 B2 B' : Bag} {e a b c : Expr} {pos p : Pos} {rest s1 : List Stmt} {E : En} {Φ : Post}
end
end Gd
set_option exponentiation.threshold 20000
namespace Lw
open PySem PySem.Spec PyProof.Rows L2 Gd Fr
open scoped Rat
end Lw
namespace Lw
open PySem PySem.Spec PyProof.Rows L2 Gd Fr
open scoped Rat
end Lw
namespace Lw
open PySem PySem.Spec PyProof.Rows L2 Gd Fr
open scoped Rat
end Lw
set_option exponentiation.threshold 20000
namespace Lw
open PySem PySem.Spec PyProof.Rows L2 Gd Fr
open scoped Rat
structure Sz (b p : Nat) (low high : Int) (P H J : Nat) : Prop where
  hP : b ^ p < 2 ^ P
  hH : b ^ high.toNat < 2 ^ H
  hL : b ^ (-low).toNat < 2 ^ J
  pj : P + H ≤ J
  p1 : 1 ≤ P
  h1 : 1 ≤ H
section
variable {b p : Nat} {low high : Int} {P H J : Nat} (F : Fm b p low high) (Z : Sz b p low high P H J)
include F Z
theorem Sz.pw {e : Int} (h : low ≤ e) (h' : e ≤ high) : Qz H J (pw b e) := by
  have b2 := F.b2
  refine pw_bd b2 ?_ ?_ Z.h1 (by have := Z.pj; have := Z.p1; omega)
  · exact Nat.lt_of_le_of_lt (Nat.pow_le_pow_right (by omega) (by omega)) Z.hH
  · exact Nat.lt_of_le_of_lt (Nat.pow_le_pow_right (by omega) (by omega)) Z.hL
theorem Sz.c {c : Int} (h0 : 0 ≤ c) (h1 : c < ((b ^ p : Nat) : Int)) : Qz P 1 (c : Rat) := by
  have := Z.hP
  exact ⟨by rw [Rat.num_intCast]; unfold Bd; omega, by rw [Rat.den_intCast]; unfold Bd; decide⟩
theorem Sz.half {q : Rat} (h0 : 0 ≤ q) (hq : Qz (J + 540) (J + 540) q) : Qz (P + 2 + (J + 540)) (2 + J) (((2 * cQ b (eQ b p low q) q + 1 : Int) : Rat) / 2 * Lw.pw b (eQ b p low q)) := by
  have b2 := F.b2
  have pj := Z.pj; have p1 := Z.p1; have z1 := Z.h1
  have hE := eQ_is (p := p) b2 low q
  have c0 := c_ge b2 h0 (eQ b p low q)
  have c1 := c_lt b2 hE
  have ebd := F.e_bd hq h0 hE
  have el := hE.1
  generalize eQ b p low q = e at *
  have hu : Qz (J + 540) J (Lw.pw b e) := by
    refine pw_bd b2 ?_ ?_ (by omega) (by omega)
    · have h3 : 2 ^ H ≤ 2 ^ (J + 540) := Nat.pow_le_pow_right (by decide) (by omega)
      rcases ebd with ⟨h, _, _⟩ | h | h
      · exact Nat.lt_of_le_of_lt (Nat.le_mul_of_pos_left _ q.den_pos) h
      · have : e.toNat = 0 := by omega
        rw [this, Nat.pow_zero]; exact Nat.one_lt_two_pow (by omega)
      · have h5 : b ^ e.toNat ≤ b ^ high.toNat := Nat.pow_le_pow_right (by omega) (by have := F.lh; omega)
        have := Z.hH
        omega
    · exact Nat.lt_of_le_of_lt (Nat.pow_le_pow_right (by omega) (by omega)) Z.hL
  have hc : Qz (P + 2) 1 ((2 * cQ b e q + 1 : Int) : Rat) := by
    have := Z.hP
    have e4 : 2 ^ (P + 2) = 2 ^ P * 4 := by rw [Nat.pow_add]
    exact ⟨by rw [Rat.num_intCast]; unfold Bd; omega, by rw [Rat.den_intCast]; unfold Bd; decide⟩
  have h2 : Qz 2 1 (2 : Rat) := ⟨by unfold Bd; decide, by unfold Bd; decide⟩
  have h2' : Qz (P + 2) 2 (((2 * cQ b e q + 1 : Int) : Rat) / 2) := by
    rw [Rat.div_def]
    have hi : Qz 1 2 ((2 : Rat)⁻¹) := ⟨by unfold Bd; decide +kernel, by unfold Bd; decide +kernel⟩
    have e1 : ((2 * cQ b e q + 1 : Int) : Rat) * (2 : Rat)⁻¹ = (2 * cQ b e q + 1) /. 2 := by rw [← Rat.div_def, Rat.divInt_eq_div]; rfl
    rw [e1]
    have hn : Bd (P + 2) (2 * cQ b e q + 1) := by have := hc.nu; rwa [Rat.num_intCast] at this
    obtain ⟨z1, z2⟩ := divInt_bd (n := 2 * cQ b e q + 1) (d := 2) (by decide) hn (b := 2) (by unfold Bd; decide)
    exact ⟨z1, z2⟩
  exact (h2'.mul hu).le (by omega) (by omega)
end
end Lw
set_option exponentiation.threshold 20000
namespace Gd
open PySem PySem.Spec PyProof.Rows L2
section
variable {X : Cx} {Γ : List VD} {B B1 B2 B' : Bag} {e a b c : Expr} {pos : Pos}
end
end Gd
set_option exponentiation.threshold 20000
namespace Lw
open PySem PySem.Spec PyProof.Rows L2 Gd Fr
open scoped Rat
section
variable {X : Cx} {Γ : List VD} {B B1 B2 B' : Bag} {e a b c : Expr} {pos : Pos} {x y : Int × Int × Int}
end
def plc (v : Va) : Prop := v.isZ = true → v.sg = 0
def Sp.gd (b : Nat) : Sp → Prop
  | .none => True
  | .span u v => plc u ∧ plc v ∧ u ≠ .inf 0 ∧ v ≠ .inf 1 ∧ ¬ lex3 (plT v) (plT u)
def Sp.ok2 (b p : Nat) (low high : Int) (s : Sp) : Prop := s.ok b p low high ∧ s.gd b
end Lw
namespace Lw
open PySem PySem.Spec PyProof.Rows L2 Gd Fr
open scoped Rat
def liesB : Sp → Sp → Bool
  | .none, _ => true
  | _, .none => false
  | .span a b, .span c d => !decide (lex3 (plT a) (plT c)) && !decide (lex3 (plT d) (plT b))
section
variable {b p : Nat} {low high : Int} (F : Fm b p low high)
theorem Sp.u2 {u v : Va} (h : (Sp.span u v).ok2 b p low high) : Vcan b p low high u ∧ u.isNan = false ∧ plc u := ⟨h.1.1.1, h.1.1.2, h.2.1⟩
theorem Sp.v2 {u v : Va} (h : (Sp.span u v).ok2 b p low high) : Vcan b p low high v ∧ v.isNan = false ∧ plc v := ⟨h.1.2.1, h.1.2.2, h.2.2.1⟩
include F
omit F in
theorem lex3_trans {x y z : Int × Int × Int} (h1 : ¬ lex3 y x) (h2 : ¬ lex3 z y) : ¬ lex3 z x := by unfold lex3 at *; omega
end
section
variable {b p : Nat} {low high : Int} (F : Fm b p low high)
include F
end
end Lw
set_option exponentiation.threshold 20000
namespace Lw
open PySem PySem.Spec PyProof.Rows L2 Gd Fr
open scoped Rat
section
variable {b p : Nat} {low high : Int} (F : Fm b p low high)
include F
end
def plcV : Va → Va
  | .num s c e => .num (if c = 0 then 0 else s) c e
  | v => v
end Lw
namespace Lw
open PySem PySem.Spec PyProof.Rows L2 Gd Fr
open scoped Rat
def xn (b : Nat) : Va → Int
  | .inf s => if s = 0 then 1 else -1
  | v => (v.wQ b).num
end Lw
set_option exponentiation.threshold 20000
namespace Lw
open PySem PySem.Spec PyProof.Rows L2 Gd Fr
open scoped Rat
theorem lex_irr (x : Int × Int × Int) : ¬ lex3 x x := fun h => lex3_asym h h
def Cm (N k : Nat) (x : Rat) : Prop := ∃ m : Int, x * ((N : Int) : Rat) = (m : Rat) ∧ Bd k m
theorem Cm.add {N k j : Nat} {x y : Rat} (h : Cm N k x) (h' : Cm N j y) : Cm N (k + j + 1) (x + y) := by
  obtain ⟨m, e, b⟩ := h
  obtain ⟨m', e', b'⟩ := h'
  exact ⟨m + m', by rw [Rat.intCast_add, ← e, ← e']; grind, b.add b'⟩
theorem Cm.neg {N k : Nat} {x : Rat} (h : Cm N k x) : Cm N k (-x) := by
  obtain ⟨m, e, b⟩ := h
  exact ⟨-m, by rw [Rat.intCast_neg, ← e]; grind, b.neg⟩
theorem Cm.le {N k j : Nat} {x : Rat} (h : Cm N k x) (e : k ≤ j) : Cm N j x := by
  obtain ⟨m, e1, b⟩ := h
  exact ⟨m, e1, b.le e⟩
end Lw
set_option exponentiation.threshold 20000
namespace Gd
open PySem PySem.Spec PyProof.Rows L2
section
variable {X : Cx} {Γ : List VD} {B B1 B2 B' : Bag} {e a b c : Expr} {pos p : Pos} {Φ : Post}
end
end Gd
set_option exponentiation.threshold 20000
namespace Lw
open PySem PySem.Spec PyProof.Rows L2 Gd Fr
open scoped Rat
section
variable {b p : Nat} {low high : Int} (F : Fm b p low high)
include F
end
end Lw
set_option exponentiation.threshold 20000
namespace Lw
open PySem PySem.Spec PyProof.Rows L2 Gd Fr
open scoped Rat
inductive Xe | lo | hi | q (r : Rat)
deriving DecidableEq
namespace Xe
def d : Xe → PyData
  | .lo => .tuple [.int (-1), .int 0]
  | .hi => .tuple [.int 1, .int 0]
  | .q r => fq r
def n : Xe → Int
  | .lo => -1
  | .hi => 1
  | .q r => r.num
def e : Xe → Int
  | .q r => (r.den : Int)
  | _ => 0
theorem pair (x : Xe) : x.d = .tuple [.int x.n, .int x.e] := by cases x <;> rfl
def bd (n d : Nat) : Xe → Prop
  | .q r => Qz n d r
  | _ => True
def lt : Xe → Xe → Bool
  | .q a, .q b => decide (a < b)
  | .lo, .lo => false
  | .lo, _ => true
  | .q _, .hi => true
  | _, _ => false
def add : Xe → Xe → Xe
  | .q a, .q b => .q (a + b)
  | .q _, y => y
  | x, _ => x
def neg : Xe → Xe
  | .lo => .hi
  | .hi => .lo
  | .q a => .q (-a)
def mul (x y : Xe) : Xe :=
  if x.n = 0 ∨ y.n = 0 then .q 0 else match x, y with
    | .q a, .q b => .q (a * b)
    | _, _ => if decide (0 < x.n) = decide (0 < y.n) then .hi else .lo
def min (x y : Xe) : Xe := if y.lt x = true then y else x
def max (x y : Xe) : Xe := if x.lt y = true then y else x
theorem eqs (x y : Xe) : (decide (x.n = y.n) && decide (x.e = y.e)) = true ↔ x = y := by
  rw [Bool.and_eq_true, decide_eq_true_eq, decide_eq_true_eq]
  refine ⟨fun ⟨h1, h2⟩ => ?_, fun h => by rw [h]; exact ⟨rfl, rfl⟩⟩
  cases x with
  | q a =>
    have da : ¬ (a.den : Int) = 0 := den_ne a
    cases y with
    | q b =>
      have h1 : a.num = b.num := h1
      have h2 : (a.den : Int) = (b.den : Int) := h2
      congr 1
      exact Rat.ext h1 (by omega)
    | lo => exact absurd h2 da
    | hi => exact absurd h2 da
  | lo =>
    cases y with
    | q b => exact absurd h2.symm (den_ne b)
    | lo => rfl
    | hi => exact absurd h1 (by decide)
  | hi =>
    cases y with
    | q b => exact absurd h2.symm (den_ne b)
    | hi => rfl
    | lo => exact absurd h1 (by decide)
theorem eqv (x y : Xe) : PyData.eqv x.d y.d = true ↔ x = y := by rw [pair x, pair y, eqv_ii]; exact eqs x y
theorem irr (x : Xe) : x.lt x = false := by
  cases x with
  | q a => exact decide_eq_false (by grind)
  | _ => rfl
theorem asym {x y : Xe} (h : x.lt y = true) : y.lt x = false := by
  cases x <;> cases y <;> simp_all [lt] <;> grind
theorem tot {x y : Xe} (h : x.lt y = false) (h2 : y.lt x = false) : x = y := by
  cases x <;> cases y <;> simp_all [lt] <;> grind
theorem trans {x y z : Xe} (h : x.lt y = true) (h2 : y.lt z = true) : x.lt z = true := by
  cases x <;> cases y <;> cases z <;> simp_all [lt] <;> grind
def of (b : Nat) : Va → Xe
  | .inf s => if s = 0 then .hi else .lo
  | v => .q (v.wQ b)
theorem sh (x : Xe) : SeqAt.shaped x.d = true := by rw [pair]; exact shaped_ii _ _
theorem mul_zero {x y : Xe} (h : (decide (x.n = 0) || decide (y.n = 0)) = true) : mul x y = .q 0 := by
  unfold mul
  rw [Bool.or_eq_true, decide_eq_true_eq, decide_eq_true_eq] at h
  rw [if_pos h]
end Xe
end Lw
namespace Gd
open PySem PySem.Spec PyProof.Rows L2
section
variable {X : Cx} {Γ : List VD} {B B1 : Bag} {e e1 elt : Expr} {scope : Scope} {pos pos' : Pos} {rest : List Stmt} {E : En} {d : VD}
end
end Gd
namespace Gd
open PySem PySem.Spec PyProof.Rows L2
section
variable {X : Cx} {Γ : List VD} {B B1 B2 : Bag} {e : Expr} {es : List Expr} {p pos : Pos}
end
end Gd
set_option exponentiation.threshold 20000
namespace Lw
open PySem PySem.Spec PyProof.Rows L2 Gd Fr
open scoped Rat
namespace Xe
theorem neg_lt (x y : Xe) : x.neg.lt y.neg = y.lt x := by
  cases x <;> cases y <;> simp [neg, lt] <;> grind
def cm (N k : Nat) : Xe → Prop
  | .q r => Cm N k r
  | _ => True
end Xe
structure Rok (N : Nat) (a : Xe × Xe) : Prop where
  b1 : a.1.bd 3040 2341
  b2 : a.2.bd 3040 2341
  c1 : a.1.cm N 5380
  c2 : a.2.cm N 5380
  l1 : a.1 ≠ .hi
  l2 : a.2 ≠ .lo
  le : a.2.lt a.1 = false
end Lw
namespace Gd
open PySem PySem.Spec PyProof.Rows L2
section
variable {X : Cx} {Γ : List VD} {B B1 B2 : Bag} {i f : Expr}
end
end Gd
set_option exponentiation.threshold 20000
namespace Lw
open PySem PySem.Spec PyProof.Rows L2 Gd Fr
open scoped Rat
def opMany (w : Str) : Nat := if ("fused" : Str) = w then 3 else if ("opposite" : Str) = w then 1 else if ("size" : Str) = w then 1 else 2
theorem op_le (w : Str) : 1 ≤ opMany w ∧ opMany w ≤ 3 := by
  unfold opMany
  split
  · exact ⟨by decide, by decide⟩
  · split
    · exact ⟨by decide, by decide⟩
    · split <;> exact ⟨by decide, by decide⟩
section
variable {b p : Nat} {low high : Int} (F : Fm b p low high)
include F
end
end Lw
set_option exponentiation.threshold 20000
namespace Lw
open PySem PySem.Spec PyProof.Rows L2 Gd Fr
open scoped Rat
namespace Xe
theorem le_cases {x y : Xe} (h : y.lt x = false) : x = y ∨ x.lt y = true := by
  cases c : x.lt y with
  | true => exact .inr rfl
  | false => exact .inl (tot c h)
theorem le_trans {x y z : Xe} (h : y.lt x = false) (h2 : z.lt y = false) : z.lt x = false := by
  rcases le_cases h with rfl | a
  · exact h2
  · rcases le_cases h2 with rfl | b
    · exact h
    · exact asym (trans a b)
end Xe
section
variable {b p : Nat} {low high : Int} (F : Fm b p low high)
include F
end
section
variable {b p : Nat} {low high : Int} (F : Fm b p low high)
include F
end
end Lw
namespace Gd
open PySem PySem.Spec PyProof.Rows L2
section
variable {X : Cx} {i : Nat} {Γ : List VD} {B B1 B2 B' : Bag} {acc ds ys : List PyData} {e a b c : Expr} {es : List Expr} {d da db : VD} {y : PyData} {pos p p1 p2 p3 pos' : Pos} {rest ss s1 s2 : List Stmt} {E : EnO} {Es : En}
end
end Gd
set_option exponentiation.threshold 20000
namespace Lw
open PySem PySem.Spec PyProof.Rows L2 Gd Fr
open scoped Rat
section
variable {b p : Nat} {low high : Int} (F : Fm b p low high)
include F
end
def Xe.rt (b : Nat) (low : Int) (x : Xe) : Prop := x.e = 0 ∨ x.n ≤ 0 ∨ ∃ r, x = .q r ∧ RtOk b low r 3040 2341
end Lw
set_option exponentiation.threshold 20000
namespace Lw
open PySem PySem.Spec PyProof.Rows L2 Gd Fr
open scoped Rat
section
variable {b p : Nat} {low high : Int} (F : Fm b p low high)
include F
end
end Lw
set_option exponentiation.threshold 20000
namespace Lw
open PySem PySem.Spec PyProof.Rows L2 Gd Fr
open scoped Rat
section
variable {b p : Nat} {low high : Int} (F : Fm b p low high)
include F
end
end Lw
namespace Gd
open PySem PySem.Spec PyProof.Rows L2
section
variable {X : Cx} {Γ : List VD} {B B0 B1 B2 : Bag} {e fe i : Expr} {es : List Expr} {p pos dpos : Pos}
end
end Gd
set_option exponentiation.threshold 20000
namespace Lw
open PySem PySem.Spec PyProof.Rows L2 Gd Fr
open scoped Rat
section
variable {b p : Nat} {low high : Int} (F : Fm b p low high)
include F
end
end Lw
set_option exponentiation.threshold 20000
namespace Lw
open PySem PySem.Spec PyProof.Rows L2 Gd Fr
open scoped Rat
def sgl (v : Va) : Sp := .span (plcV v) (plcV v)
section
variable {b p : Nat} {low high : Int} (F : Fm b p low high)
include F
end
end Lw
set_option exponentiation.threshold 20000
namespace Lw
open PySem PySem.Spec PyProof.Rows L2 Gd Fr
open scoped Rat
section
variable {b p : Nat} {low high : Int} (F : Fm b p low high)
include F
end
end Lw
set_option exponentiation.threshold 20000
namespace Lw
open PySem PySem.Spec PyProof.Rows L2 Gd Fr
open scoped Rat
section
variable {b p : Nat} {low high : Int}
end
end Lw
namespace Gd
open PySem PySem.Spec PyProof.Rows L2
theorem RpAll.put {K : PySem.W.Frag} {H : Hp} {v : V} {y : PyData} (r : Rp K H v y) : ∀ {zs : List V} {ds : List PyData} (k : Nat), RpAll K H zs ds → RpAll K H (zs.set k v) (ds.set k y)
  | _, _, _, .nil => .nil
  | _, _, 0, .cons _ t => .cons r t
  | _, _, k + 1, .cons h t => .cons h (RpAll.put r k t)
section
variable {X : Cx} {i : Nat} {Γ : List VD} {B B1 B2 B3 B' : Bag} {acc ds : List PyData} {e e2 a b c : Expr} {d da db : VD} {y y2 : PyData} {pos p p1 p2 p3 pos' px : Pos} {rest ss s1 s2 : List Stmt} {E : EnO}
end
end Gd
namespace Gd
open PySem PySem.Spec PyProof.Rows L2
section
variable {X : Cx} {Γ : List VD} {B B1 B2 : Bag} {i f : Expr}
end
end Gd
namespace Gd
open PySem PySem.Spec PyProof.Rows L2
section
variable {X : Cx} {Γ : List VD} {B B1 B2 : Bag} {a b : Expr} {pos : Pos}
end
end Gd
set_option exponentiation.threshold 20000
namespace Lw
open PySem PySem.Spec PyProof.Rows L2 Gd Fr
open scoped Rat
section
variable {b p : Nat} {low high : Int}
end
end Lw
set_option exponentiation.threshold 20000
namespace Lw
open PySem PySem.Spec PyProof.Rows L2 Gd Fr
open scoped Rat
end Lw
namespace Gd
open PySem PySem.Spec PyProof.Rows L2
section
variable {X : Cx} {Γ : List VD} {B B1 B2 : Bag} {e1 e2 e3 e4 i : Expr} {pos dpos : Pos}
end
section
variable {X : Cx} {Γ : List VD} {B B1 B2 B' : Bag} {e a b c elt : Expr} {scope : Scope} {j : Nat} {x : Str} {px : Pos} {ds ys acc : List PyData} {pos pos' p : Pos} {rest : List Stmt} {E : EnO} {d : VD} {y y1 : PyData}
variable {i : Nat}
theorem Own.put {K : PySem.W.Frag} {g : Gh} {A0 A1 : Hp} {a : Addr} {σ : L2.St} {H0 H : Hp} {v : V} (w : Own K i g A0 A1 a B Γ acc σ H0 H) (j : Nat) (hij : j ≠ i) (r : Rv K g H0 v d) : Own K i g A0 A1 a B (Γ.set j d) acc (σ.set j (some v)) H0 H :=
  ⟨w.to, w.fr, w.off, w.ev.set j r, by rw [List.getElem?_set_ne hij]; exact w.at', w.no, w.ls, w.on⟩
end
end Gd
set_option exponentiation.threshold 20000
namespace Lw
open PySem PySem.Spec PyProof.Rows L2 Gd Fr
open scoped Rat
inductive Stp where
  | input (i : Nat)
  | told (q : Rat)
  | op (w : Str) (is : List Nat)
def Stp.d : Stp → PyData
  | .input i => .tuple [.str "input", .int (i : Nat)]
  | .told q => .tuple [.str "told", fq q]
  | .op w is => .tuple (.str w :: is.map fun i => PyData.int (i : Nat))
def pgWords : List Str := ["add", "take", "if", "least", "greatest", "opposite", "size", "times", "by", "fused", "root"]
def arity (w : Str) : Nat := if ("fused" : Str) = w then 3 else if ("if" : Str) = w then 4 else if ("opposite" : Str) = w then 1 else if ("size" : Str) = w then 1 else if ("root" : Str) = w then 1 else 2
def Stp.ok (many k : Nat) : Stp → Prop
  | .input i => i < many
  | .told q => Qz 11 5 q
  | .op w is => w ∈ pgWords ∧ is.length = arity w ∧ ∀ i ∈ is, i < k
abbrev SB := Sp × Bool
structure Xe2 (r : Xe × Xe) : Prop where
  l1 : r.1 ≠ .hi
  l2 : r.2 ≠ .lo
  le : r.2.lt r.1 = false
theorem Rok.two {N : Nat} {a : Xe × Xe} (h : Rok N a) : Xe2 a := ⟨h.l1, h.l2, h.le⟩
namespace Xe
end Xe
section
variable {b p : Nat} {low high : Int} (F : Fm b p low high)
include F
end
end Lw
namespace Gd
open PySem PySem.Spec PyProof.Rows L2
section
variable {X : Cx} {i : Nat} {Γ : List VD} {B B1 B2 B' : Bag} {acc ds dd : List PyData} {e c : Expr} {es : List Expr} {d : VD} {y : PyData} {pos p p1 p2 p3 pos' : Pos} {rest ss s1 s2 : List Stmt}
variable {E : EnO}
end
end Gd
namespace Gd
open PySem PySem.Spec PyProof.Rows L2
section
variable {X : Cx} {Γ : List VD} {B B1 B2 B' : Bag} {e a b c elt : Expr} {scope : Scope} {j : Nat} {x : Str} {px : Pos}
end
end Gd
namespace Gd
open PySem PySem.Spec PyProof.Rows L2
section
variable {X : Cx} {i : Nat} {Γ : List VD} {B B1 B2 B' : Bag} {acc ds : List PyData} {e a b c : Expr} {es : List Expr} {d : VD} {y : PyData} {pos p p1 p2 p3 pos' : Pos} {rest ss s1 s2 : List Stmt} {E : EnO} {Φ : List PyData → Bag → Prop}
theorem ow_par (j k : Nat) {x y : Str} {px py pt : Pos} {kt k2 pt2} {d1 d2 : VD} (nd : X.N.Nodup) (hc : X.calm = true) (h : AJ X Γ B [a, b] [d1, d2] B1) (q : OwJ X i ((Γ.set j d1).set k d2) B1 acc rest E)
    (hij : j ≠ k) (hji : j ≠ i) (hki : k ≠ i) (hw : swappedStores [.Tuple [.Name x px, .Name y py] kt pt] (.Tuple [a, b] k2 pt2) X.env = pure (some [x, y]) := by rfl) (hi : X.N[j]? = some x := by rfl) (hj : X.N[k]? = some y := by rfl)
    (hx : X.env.scope.names.lookup x = some .local := by rfl) (hy : X.env.scope.names.lookup y = some .local := by rfl)
    (hsw : swapsWithSole [.Tuple [.Name x px, .Name y py] kt pt] (.Tuple [a, b] k2 pt2) pos.line X.env = pure false := by rfl) :
    OwJ X i Γ B acc (.Assign [.Tuple [.Name x px, .Name y py] kt pt] (.Tuple [a, b] k2 pt2) pos :: rest) E := fun g σ A0 A1 ad H0 H w D G =>
  ⟨_, pss_cons (ps_par hc nd hi hj hij hx hy (wa [a, b]) hw hsw) (ws rest), h g σ H0 H w.ev w.on _ fun vs H1 H' t o r => by
    obtain ⟨v, w', rfl, r1, r2⟩ := rv2 r
    exact ⟨v, w', rfl, q g _ A0 A1 ad H1 H' (((w.step t o).put j hji r1).put k hki r2) D (G.on t.ex)⟩⟩
end
end Gd
set_option exponentiation.threshold 20000
namespace Lw
open PySem PySem.Spec PyProof.Rows L2 Gd Fr
open scoped Rat
section
variable {b p : Nat} {low high : Int} (F : Fm b p low high)
include F
end
end Lw
set_option exponentiation.threshold 20000
namespace Lw
open PySem PySem.Spec PyProof.Rows L2 Gd Fr
open scoped Rat
def xle (x y : Xe) : Prop := y.lt x = false
theorem xle.refl (x : Xe) : xle x x := Xe.irr x
theorem xle.trans {x y z : Xe} (h : xle x y) (h2 : xle y z) : xle x z := Xe.le_trans h h2
theorem xle.tot (x y : Xe) : xle x y ∨ xle y x := by
  unfold xle
  cases c : y.lt x with
  | false => exact .inl rfl
  | true => exact .inr (Xe.asym c)
theorem xle.neg {x y : Xe} (h : xle x y) : xle y.neg x.neg := by unfold xle; rw [Xe.neg_lt]; exact h
end Lw
set_option exponentiation.threshold 20000
namespace Lw
open PySem PySem.Spec PyProof.Rows L2 Gd Fr
open scoped Rat
section
variable {b p : Nat} {low high : Int} (F : Fm b p low high)
include F
end
def spin (s t : Sp) : Prop := liesB s t = true
theorem spin_span {u v x y : Va} : spin (.span u v) (.span x y) ↔ ¬ lex3 (plT u) (plT x) ∧ ¬ lex3 (plT y) (plT v) := by
  show ((!decide (lex3 (plT u) (plT x))) && !decide (lex3 (plT y) (plT v))) = true ↔ _
  rw [Bool.and_eq_true, Bool.not_eq_true', Bool.not_eq_true', decide_eq_false_iff_not, decide_eq_false_iff_not]
theorem spin.refl (s : Sp) : spin s s := by
  cases s with
  | none => rfl
  | span u v => exact spin_span.mpr ⟨lex_irr _, lex_irr _⟩
theorem spin.trans {s t u : Sp} (h : spin s t) (h2 : spin t u) : spin s u := by
  cases s with
  | none => rfl
  | span a b => cases t with
    | none => cases h
    | span c d => cases u with
      | none => cases h2
      | span e f =>
        have h := spin_span.mp h; have h2 := spin_span.mp h2
        exact spin_span.mpr ⟨lex3_trans h2.1 h.1, lex3_trans h.2 h2.2⟩
section
variable {b p : Nat} {low high : Int} (F : Fm b p low high)
include F
end
end Lw
set_option exponentiation.threshold 20000
namespace Lw
open PySem PySem.Spec PyProof.Rows L2 Gd Fr
open scoped Rat
section
variable {b p : Nat} {low high : Int} (F : Fm b p low high)
include F
omit F in
def sbin (x' x : SB) : Prop := spin x'.1 x.1 ∧ (x.2 = true → x'.2 = true)
omit F in
theorem sbin.refl (x : SB) : sbin x x := ⟨spin.refl _, fun h => h⟩
omit F in
def bxin (box' box : List Sp) : Prop := box'.length = box.length ∧ ∀ (i : Nat) s s', box[i]? = some s → box'[i]? = some s' → spin s' s
end
end Lw
namespace Gd
open PySem PySem.Spec PyProof.Rows L2
section
variable {X : Cx} {Γ : List VD} {B B1 B2 B' : Bag} {e a b c elt : Expr} {scope : Scope} {j : Nat} {x : Str} {px pos : Pos} {Φ : Post}
end
end Gd
set_option exponentiation.threshold 20000
namespace Lw
open PySem PySem.Spec PyProof.Rows L2 Gd Fr
open scoped Rat
section
variable {b p : Nat} {low high : Int} (F : Fm b p low high)
include F
end
theorem bxin.refl (L : List Sp) : bxin L L := ⟨rfl, fun i s s' h h' => by rw [h] at h'; obtain rfl := Option.some.inj h'; exact spin.refl _⟩
theorem bxin.trans {L L' L'' : List Sp} (h : bxin L L') (h' : bxin L' L'') : bxin L L'' := ⟨by rw [h.1, h'.1], fun i s s' e e' => by
  have hl : i < L'.length := by rw [h'.1]; exact (List.getElem?_eq_some_iff.mp e).1
  have e2 : L'[i]? = some L'[i] := List.getElem?_eq_getElem hl
  exact (h.2 i _ _ e2 e').trans (h'.2 i _ _ e e2)⟩
end Lw
namespace Lw
open PySem PySem.Spec PyProof.Rows L2 Gd Fr
end Lw
set_option exponentiation.threshold 20000
namespace Lw
open PySem PySem.Spec PyProof.Rows L2 Gd Fr
open scoped Rat
structure Sml (b p : Nat) (low high : Int) : Prop where
  bp : b ^ p < 2 ^ 8
  bh : b ^ high.toNat < 2 ^ 11
  bl : b ^ (-low).toNat < 2 ^ 20
  nn : 0 ≤ (p : Int) + high + (-low).toNat
  bt : b ^ ((p : Int) + high + (-low).toNat).toNat < 2 ^ 17
section
variable {b p : Nat} {low high : Int} (F : Fm b p low high) (S : Sml b p low high)
include F S
end
def pt2 (x : Rat) : Xe × Xe := (.q x, .q x)
section
variable {b p : Nat} {low high : Int} (F : Fm b p low high)
include F
end
section
variable {b p : Nat} {low high : Int} (F : Fm b p low high)
include F
end
end Lw
set_option exponentiation.threshold 20000
namespace Lw
open PySem PySem.Spec PyProof.Rows L2 Gd Fr
open scoped Rat
end Lw
namespace Lw
end Lw
set_option exponentiation.threshold 20000
namespace Lw
open PySem PySem.Spec PyProof.Rows L2 Gd Fr
open scoped Rat
end Lw
set_option exponentiation.threshold 20000
namespace Lw
open PySem PySem.Spec PyProof.Rows L2 Gd Fr
open scoped Rat
section
variable {b p : Nat} {low high : Int} (F : Fm b p low high)
include F
end
end Lw
namespace Gd
open PySem PySem.Spec PyProof.Rows L2
section
variable {X : Cx} {Γ : List VD} {B B1 : Bag} {a : Expr} {p p2 p3 pos : Pos}
variable {elt e : Expr} {scope : Scope} {j : Nat} {ds : List PyData} {Φ : Post}
end
end Gd
set_option exponentiation.threshold 20000
namespace Lw
open PySem PySem.Spec PyProof.Rows L2 Gd Fr
open scoped Rat
section
variable {t : F4} (F : Fm t.1 t.2.1 t.2.2.1 t.2.2.2)
include F
end
end Lw
set_option exponentiation.threshold 20000
namespace Lw
open PySem PySem.Spec PyProof.Rows L2 Gd Fr
open scoped Rat
end Lw
namespace Lw
open PySem PySem.Spec PyProof.Rows L2 Gd Fr
open scoped Rat
end Lw
set_option exponentiation.threshold 20000
namespace Lw
open PySem PySem.Spec PyProof.Rows L2 Gd Fr
open scoped Rat
end Lw
namespace Gd
open PySem PySem.Spec PyProof.Rows L2
section
variable {X : Cx} {i : Nat} {Γ : List VD} {B : Bag} {acc : List PyData} {e : Expr} {pos : Pos} {s1 rest : List Stmt} {E : EnO}
end
end Gd
set_option exponentiation.threshold 20000
namespace Lw
open PySem PySem.Spec PyProof.Rows L2 Gd Fr
open scoped Rat
end Lw
namespace Gd
open PySem PySem.Spec PyProof.Rows L2
section
variable {X : Cx} {Γ : List VD} {B B1 B2 : Bag} {a b c e elt : Expr} {scope : Scope} {pos p pos' : Pos} {rest s1 : List Stmt} {E : En} {d : VD}
end
section
variable {X : Cx} {Γ : List VD} {B : Bag} {a b : Expr} {pos : Pos} {Φ : Post}
end
end Gd
set_option exponentiation.threshold 20000
namespace Lw
open PySem PySem.Spec PyProof.Rows L2 Gd Fr
open scoped Rat
section
variable {b p : Nat} {low high : Int} (F : Fm b p low high)
include F
end
def bnd : Nat → Nat × Nat
  | 0 => (38, 35)
  | k + 1 => (2 * (bnd k).1 + (bnd k).2 + 1, 3 * (bnd k).2)
end Lw
namespace Gd
open PySem PySem.Spec PyProof.Rows L2 RZ
section
variable {X : Cx} {Γ : List VD} {B B1 B2 B' : Bag} {a b c e e1 elt : Expr} {es : List Expr} {scope : Scope} {pos pos' p p2 p3 : Pos} {rest s1 : List Stmt} {E : En} {d : VD} {ds : List PyData} {y : PyData}
end
end Gd
set_option exponentiation.threshold 20000
namespace Lw
open PySem PySem.Spec PyProof.Rows L2 Gd Fr
open scoped Rat
section
variable {b p : Nat} {low high : Int} (F : Fm b p low high)
include F
end
section
variable {b p : Nat} {low high : Int} {L : List Stp} {s : Sp}
variable (F : Fm b p low high)
include F
end
end Lw
namespace Gd
open PySem PySem.Spec PyProof.Rows L2
def dict1 : List (PyData × PyData) → Bool
  | [(.tuple [.int i, .int j], .int n)] => decide (i.natAbs.log2 < 1920) && (decide (j.natAbs.log2 < 1920) && decide (n.natAbs.log2 < 1920))
  | _ => false
theorem dict1_inv {kvs : List (PyData × PyData)} (h : dict1 kvs = true) : ∃ i j n, kvs = [(.tuple [.int i, .int j], .int n)] ∧ i.natAbs.log2 < 1920 ∧ j.natAbs.log2 < 1920 ∧ n.natAbs.log2 < 1920 := by
  unfold dict1 at h
  split at h
  · rename_i i j n
    simp only [Bool.and_eq_true, decide_eq_true_eq] at h
    exact ⟨i, j, n, rfl, h.1, h.2.1, h.2.2⟩
  · cases h
mutual
def datB : PyData → Bool
  | .none => true
  | .bool _ => true
  | .int i => decide (i.natAbs.log2 < 1920)
  | .str x => PyData.strOk x
  | .list xs => datA xs
  | .tuple xs => datA xs
  | .dict kvs => kvs.isEmpty || dict1 kvs
def datA : List PyData → Bool
  | [] => true
  | x :: xs => datB x && datA xs
end
structure OkA (d : PyData) : Prop where
  any : datB d = true
  dp : d.depth ≤ 60
  bulk : d.bulk ≤ 5000
mutual
theorem any_show : ∀ d : PyData, datB d = true → d.showable = true ∧ d.leavesShort 1921 = true
  | .none, _ => by simp only [PyData.showable, PyData.leavesShort, and_self]
  | .bool _, _ => by simp only [PyData.showable, PyData.leavesShort, and_self]
  | .int i, h => by
    simp only [datB] at h
    exact ⟨by simp only [PyData.showable]; exact h, nice_short (.int i) (by simp only [nice]; exact h)⟩
  | .str x, h => by
    simp only [datB] at h
    exact ⟨by simp only [PyData.showable], nice_short (.str x) (by simp only [nice]; exact h)⟩
  | .list xs, h => by simp only [datB] at h; simp only [PyData.showable, PyData.leavesShort]; exact any_showA xs h
  | .tuple xs, h => by simp only [datB] at h; simp only [PyData.showable, PyData.leavesShort]; exact any_showA xs h
  | .dict kvs, h => by
    simp only [datB, Bool.or_eq_true, List.isEmpty_iff] at h
    rcases h with h | h
    · subst h
      simp only [PyData.showable, PyData.showableKv, PyData.leavesShort, PyData.leavesShortKv, and_self]
    · obtain ⟨i, j, n, rfl, h1, h2, h3⟩ := dict1_inv h
      have k : ∀ i : Int, i.natAbs.log2 < 1920 → PyData.showable (.int i) = true ∧ PyData.leavesShort 1921 (.int i) = true := fun i h =>
        ⟨by simp only [PyData.showable]; exact decide_eq_true h, nice_short (.int i) (by simp only [nice]; exact decide_eq_true h)⟩
      simp only [PyData.showable, PyData.showableAll, PyData.showableKv, PyData.leavesShort, PyData.leavesShortAll, PyData.leavesShortKv, Bool.and_eq_true, Bool.and_true]
      have k1 := k i h1
      have k2 := k j h2
      have k3 := k n h3
      simp only [PyData.showable, PyData.leavesShort] at k1 k2 k3
      simp only [k1, k2, k3, and_self]
theorem any_showA : ∀ ds : List PyData, datA ds = true → PyData.showableAll ds = true ∧ PyData.leavesShortAll 1921 ds = true
  | [], _ => by simp only [PyData.showableAll, PyData.leavesShortAll, and_self]
  | x :: xs, h => by
    simp only [datA, Bool.and_eq_true] at h
    simp only [PyData.showableAll, PyData.leavesShortAll, Bool.and_eq_true]
    exact ⟨⟨(any_show x h.1).1, (any_showA xs h.2).1⟩, (any_show x h.1).2, (any_showA xs h.2).2⟩
end
theorem OkA.len {d : PyData} (h : OkA d) : d.shown.length ≤ sizeLine := by
  have h1 := PyData.shown_le_bulk 1921 (by decide) d (any_show d h.any).2
  have h2 := h.bulk
  rw [show sizeLine = 16777216 from by decide]
  omega
theorem Rp.dict1 {K : PySem.W.Frag} {H : Hp} {v : V} {i j n : Int} (h : Rp K H v (.dict [(.tuple [.int i, .int j], .int n)])) : ∃ a, v = .ref a ∧ H a = some (.dT [([.inl i, .inl j], V.int n)]) := by
  generalize hd : PyData.dict [(.tuple [.int i, .int j], .int n)] = d at h
  cases h with
  | non => cases hd
  | bl b => cases hd
  | int i => cases hd
  | str x => cases hd
  | lst _ _ => cases hd
  | tup _ _ => cases hd
  | dct h => cases hd
  | dctT kvs h =>
    injection hd with hd
    cases kvs with
    | nil => cases hd
    | cons p r =>
      obtain ⟨k, m⟩ := p
      cases r with
      | cons q r => simp only [List.map_cons, List.cons.injEq] at hd; obtain ⟨_, hd⟩ := hd; cases hd
      | nil =>
        simp only [List.map_cons, List.map_nil, List.cons.injEq, Prod.mk.injEq, PyData.tuple.injEq, PyData.int.injEq, and_true] at hd
        obtain ⟨hk, rfl⟩ := hd
        cases k with
        | nil => cases hk
        | cons x k =>
          cases k with
          | nil => simp only [List.map_cons, List.map_nil, List.cons.injEq] at hk; obtain ⟨_, hk⟩ := hk; cases hk
          | cons y k =>
            cases k with
            | cons z k => simp only [List.map_cons, List.cons.injEq] at hk; obtain ⟨_, _, hk⟩ := hk; cases hk
            | nil =>
              simp only [List.map_cons, List.map_nil, List.cons.injEq, PyData.int.injEq, and_true] at hk
              obtain ⟨rfl, rfl⟩ := hk
              exact ⟨_, rfl, h⟩
section
variable {X : Cx} {pins : List (Addr × Obj)} {σ : L2.St} {H : Hp} {s : Shared}
end
section
variable {X : Cx} {Γ : List VD} {B B1 B2 B' : Bag} {a b e : Expr} {es : List Expr} {d : VD} {y : PyData} {pos p pos' : Pos}
end
end Gd
set_option exponentiation.threshold 20000
namespace Lw
open PySem PySem.Spec PyProof.Rows L2 Gd Fr
open scoped Rat
def intB : PyData → Bool
  | .int _ => true
  | _ => false
inductive R_anyint : Rel
  | mk (d : PyData) (B : Bag) : R_anyint [.da d] B (.bool (intB d)) B
inductive Pap where
  | in_
  | part (i : Nat) (x y : Pap)
def Pap.d : Pap → PyData
  | .in_ => .tuple [.str "in"]
  | .part i x y => .tuple [.str "part", .int (i : Nat), x.d, y.d]
section
variable {b p : Nat} {low high : Int} {L : List Stp} {s : Sp}
end
structure An (D W : Nat) (d : PyData) : Prop where
  any : datB d = true
  dp : d.depth ≤ D
  bk : d.bulk ≤ W
structure AnA (D W : Nat) (ds : List PyData) : Prop where
  any : datA ds = true
  dp : PyData.depthAll ds ≤ D
  bk : PyData.bulkAll ds ≤ W
theorem An.le {D W D' W' : Nat} {d : PyData} (h : An D W d) (e : D ≤ D') (f : W ≤ W') : An D' W' d := ⟨h.any, Nat.le_trans h.dp e, Nat.le_trans h.bk f⟩
theorem AnA.le {D W D' W' : Nat} {d : List PyData} (h : AnA D W d) (e : D ≤ D') (f : W ≤ W') : AnA D' W' d := ⟨h.any, Nat.le_trans h.dp e, Nat.le_trans h.bk f⟩
theorem An.ok {D W : Nat} {d : PyData} (h : An D W d) (e : D ≤ 60 := by decide) (f : W ≤ 5000 := by decide) : OkA d := ⟨h.any, Nat.le_trans h.dp e, Nat.le_trans h.bk f⟩
theorem AnA.nil {D W : Nat} : AnA D W [] := ⟨by simp only [datA], by simp only [PyData.depthAll]; omega, by simp only [PyData.bulkAll]; omega⟩
theorem AnA.cons {D W W' : Nat} {d : PyData} {ds : List PyData} (h : An D W d) (r : AnA D W' ds) : AnA D (W + 1 + W') (d :: ds) :=
  ⟨by simp only [datA, Bool.and_eq_true]; exact ⟨h.any, r.any⟩, by have := h.dp; have := r.dp; simp only [PyData.depthAll]; omega, by have := h.bk; have := r.bk; simp only [PyData.bulkAll]; omega⟩
theorem An.tup {D W : Nat} {ds : List PyData} (h : AnA D W ds) : An (D + 1) W (.tuple ds) := ⟨by simp only [datB]; exact h.any, by have := h.dp; simp only [PyData.depth]; omega, by have := h.bk; simp only [PyData.bulk]; omega⟩
theorem An.lst {D W : Nat} {ds : List PyData} (h : AnA D W ds) : An (D + 1) W (.list ds) := ⟨by simp only [datB]; exact h.any, by have := h.dp; simp only [PyData.depth]; omega, by have := h.bk; simp only [PyData.bulk]; omega⟩
theorem An.tup_inv {D W : Nat} {ds : List PyData} (h : An (D + 1) W (.tuple ds)) : AnA D W ds := ⟨by have := h.any; simp only [datB] at this; exact this, by have := h.dp; simp only [PyData.depth] at this; omega, by have := h.bk; simp only [PyData.bulk] at this; omega⟩
theorem AnA.mem {D W : Nat} : ∀ {ds : List PyData}, AnA D W ds → ∀ d ∈ ds, An D W d
  | [], _, _, h => by cases h
  | x :: xs, h, d, hd => by
    have a := h.any
    have b := h.dp
    have c := h.bk
    simp only [datA, Bool.and_eq_true] at a
    simp only [PyData.depthAll] at b
    simp only [PyData.bulkAll] at c
    rcases List.mem_cons.mp hd with rfl | hd
    · exact ⟨a.1, by omega, by omega⟩
    · exact AnA.mem (ds := xs) ⟨a.2, by omega, by omega⟩ d hd
theorem AnA.app {D W W' : Nat} : ∀ {ds es : List PyData}, AnA D W ds → AnA D W' es → AnA D (W + W') (ds ++ es)
  | [], es, _, h => h.le (Nat.le_refl _) (by omega)
  | x :: xs, es, h, h' => by
    have a := h.any
    have b := h.dp
    have c := h.bk
    simp only [datA, Bool.and_eq_true] at a
    simp only [PyData.depthAll] at b
    simp only [PyData.bulkAll] at c
    have r := AnA.app (D := D) (W := W - (x.bulk + 1)) (ds := xs) ⟨a.2, by omega, by omega⟩ h'
    rw [List.cons_append]
    exact (AnA.cons (D := D) (W := x.bulk) ⟨a.1, by omega, Nat.le_refl _⟩ r).le (Nat.le_refl _) (by omega)
theorem An.int {D W n : Nat} {i : Int} (h : Bd n i) (e : n ≤ 1920 := by decide) : An D W (.int i) := ⟨by
  have := nice_int h e
  simp only [nice] at this
  simp only [datB]; exact this, by simp only [PyData.depth]; omega, by simp only [PyData.bulk]; omega⟩
theorem An.bool {D W : Nat} {i : Bool} : An D W (.bool i) := ⟨by simp only [datB], by simp only [PyData.depth]; omega, by simp only [PyData.bulk]; omega⟩
theorem An.none {D W : Nat} : An D W .none := ⟨by simp only [datB], by simp only [PyData.depth]; omega, by simp only [PyData.bulk]; omega⟩
theorem An.dict {D W : Nat} (h : 1 ≤ D) : An D W (.dict []) := ⟨by simp only [datB, List.isEmpty_nil, Bool.true_or], by simp only [PyData.depth, PyData.depthKv]; omega, by simp only [PyData.bulk, PyData.bulkKv]; omega⟩
theorem An.str {D W : Nat} {x : Str} (h : PyData.strOk x = true) (h2 : x.cps.size ≤ W) : An D W (.str x) := ⟨by simp only [datB]; exact h, by simp only [PyData.depth]; omega, by simp only [PyData.bulk]; exact h2⟩
end Lw
namespace Lw
open PySem PySem.Spec PyProof.Rows L2 Gd Fr
def Pap.dep : Pap → Nat
  | .in_ => 1
  | .part _ x y => max x.dep y.dep + 1
theorem Pap.sh : ∀ (x : Pap) {n : Nat}, x.dep ≤ n → Sh n x.d
  | .in_, n + 1, _ => Sh.tup fun e he => by rw [List.mem_singleton.mp he]; exact (Sh.str (x := "in") (by decide +kernel)).mono (Nat.zero_le _)
  | .in_, 0, h => by simp only [Pap.dep] at h; omega
  | .part i x y, 0, h => by simp only [Pap.dep] at h; omega
  | .part i x y, n + 1, h => by
    simp only [Pap.dep] at h
    refine Sh.tup fun e he => ?_
    simp only [List.mem_cons, List.not_mem_nil, or_false] at he
    rcases he with rfl | rfl | rfl | rfl
    · exact (Sh.str (x := "part") (by decide +kernel)).mono (Nat.zero_le _)
    · exact (Sh.int _).mono (Nat.zero_le _)
    · exact Pap.sh x (by omega)
    · exact Pap.sh y (by omega)
end Lw
namespace Lw
open PySem PySem.Spec PyProof.Rows L2 Gd Fr
section
variable {b p : Nat} {low high : Int} {L : List Stp} {s : Sp}
end
end Lw
namespace HT
open PySem PySem.Spec PyProof.Rows L2
section
variable {prog : Program} {w : World} {A : Around} {E : Value → Shared → Prop} {s : Shared}
end
end HT
namespace Gd
open PySem PySem.Spec PyProof.Rows L2
section
variable {X : Cx} {Γ : List VD} {B B1 : Bag} {a b e : Expr} {k : Nat} {p p1 p2 p3 pos : Pos} {ds : List PyData} {Φ : Post}
theorem ej_strI {i : Int} (hi : i.natAbs.log2 < 1920) (hm : X.mg "str" = none) (ha : EJ X Γ B a (.da (.int i)) B1) (hs : starEach [a] X.env = [(false, eval a X.env)] := by rfl) (hg : Gl X "str" := by rfl) :
    EJ X Γ B (.Call (.Name "str" p) [a] [] pos) (.da (.str (toString i))) B1 :=
  ej_callTy call_str_int hm (aj_cons ha aj_nil hs) (fun g vs H0 H O r Q q => by
    obtain ⟨v, rfl, h⟩ := rv1 r
    exact ⟨i, by rw [rvI h], hi, q _ _ _ To.refl O (Rp.str _)⟩) (hg := hg) (he := hs)
end
end Gd
set_option exponentiation.threshold 20000
namespace Lw
open PySem PySem.Spec PyProof.Rows L2 Gd Fr
open scoped Rat
def Pap.ok : Pap → Prop
  | .in_ => True
  | .part i x y => i ≤ 8 ∧ x.ok ∧ y.ok
theorem an_str {D W : Nat} {x : Str} (h : PyData.strOk x = true := by decide +kernel) (h2 : x.cps.size ≤ W := by decide) : An D W (.str x) := An.str h h2
theorem small_int {D W : Nat} {i : Int} (h0 : -100 ≤ i) (h1 : i ≤ 100) : An D W (.int i) := An.int (n := 8) (by unfold Bd; omega)
theorem an_part {n W : Nat} {i x y : PyData} (hi : An n 0 i) (hx : An n W x) (hy : An n W y) : An (n + 1) (8 + 2 * W) (.tuple [.str "part", i, x, y]) :=
  (An.tup (AnA.cons (an_str (D := n) (W := 4)) (AnA.cons hi (AnA.cons hx (AnA.cons hy (AnA.nil (W := 0))))))).le (Nat.le_refl _) (by omega)
def wp : Nat → Nat
  | 0 => 0
  | n + 1 => 8 + 2 * wp n
theorem Pap.an : ∀ (x : Pap) {n : Nat}, x.dep ≤ n → x.ok → An n (wp n) x.d
  | .in_, 0, h, _ => by simp only [Pap.dep] at h; omega
  | .in_, n + 1, _, _ => (An.tup (AnA.cons (an_str (D := n) (W := 2)) (AnA.nil (W := 0)))).le (Nat.le_refl _) (by simp only [wp]; omega)
  | .part i x y, 0, h, _ => by simp only [Pap.dep] at h; omega
  | .part i x y, n + 1, h, ok => by
    simp only [Pap.dep] at h
    obtain ⟨h1, h2, h3⟩ := ok
    exact an_part (small_int (by omega) (by omega)) (x.an (by omega) h2) (y.an (by omega) h3)
inductive PB : Nat → PyData → Prop
  | none (n : Nat) : PB n .none
  | inw (n : Nat) : PB n (.str "in")
  | partw (n : Nat) : PB n (.str "part")
  | int (n i : Nat) (h : i ≤ 8) : PB n (.int (i : Nat))
  | pap (n : Nat) (x : Pap) (h : x.dep ≤ n) (ok : x.ok) : PB n x.d
theorem Pap.items (x : Pap) {n : Nat} (h : x.dep ≤ n + 1) (ok : x.ok) : ∃ ds : List PyData, x.d = .tuple ds ∧ ds ≠ [] ∧ ds.length ≤ 4 ∧ AnA n (wp (n + 1)) ds ∧ ∀ d ∈ ds, PB n d := by
  have a := x.an h ok
  cases x with
  | in_ => exact ⟨_, rfl, by simp, by simp, a.tup_inv, fun d hd => by rw [List.mem_singleton.mp hd]; exact .inw n⟩
  | part i x y =>
    obtain ⟨h1, h2, h3⟩ := ok
    simp only [Pap.dep] at h
    refine ⟨_, rfl, by simp, by simp, a.tup_inv, fun d hd => ?_⟩
    simp only [List.mem_cons, List.not_mem_nil, or_false] at hd
    rcases hd with rfl | rfl | rfl | rfl
    · exact .partw n
    · exact .int n i h1
    · exact .pap n x (by omega) h2
    · exact .pap n y (by omega) h3
theorem pick_in (ds : List PyData) (B : Bag) (h : 0 < ds.length) : pick ds B ∈ ds := by
  obtain ⟨x, hx, e⟩ := pick_ex ds id B h
  rw [List.map_id] at e
  rw [e]; exact hx
theorem len_bulk : ∀ ds : List PyData, ds.length ≤ PyData.bulkAll ds
  | [] => Nat.zero_le _
  | x :: xs => by
    have := len_bulk xs
    simp only [PyData.bulkAll, List.length_cons]; omega
end Lw
namespace Lw
open PySem PySem.Spec PyProof.Rows L2 Gd Fr
def wq : Nat → Nat
  | 0 => 0
  | n + 1 => 24 + 2 * wq n
theorem Pap.nd : ∀ (x : Pap) {n : Nat}, x.dep ≤ n → x.ok → Nd (n + 1) (wq n) x.d
  | .in_, 0, h, _ => by simp only [Pap.dep] at h; omega
  | .in_, n + 1, _, _ => (Nd.tuple (NdA.cons ((Nd.str (x := "in") (by decide +kernel) (by decide)).le (D' := n + 1) (W' := 20) (by omega) (Nat.le_refl _)) (NdA.nil (W := 0)))).le (Nat.le_refl _) (by simp only [wq]; omega)
  | .part i x y, 0, h, _ => by simp only [Pap.dep] at h; omega
  | .part i x y, n + 1, h, ok => by
    simp only [Pap.dep] at h
    obtain ⟨h1, h2, h3⟩ := ok
    have a := x.nd (n := n) (by omega) h2
    have b := y.nd (n := n) (by omega) h3
    exact (Nd.tuple (NdA.cons ((Nd.str (x := "part") (by decide +kernel) (by decide)).le (D' := n + 1) (W' := 20) (by omega) (Nat.le_refl _)) (NdA.cons ((Nd.int (n := 8) (i := (i : Nat)) (by unfold Bd; omega)).le (D' := n + 1) (W' := 0) (by omega) (Nat.le_refl _)) (NdA.cons a (NdA.cons b (NdA.nil (W := 0))))))).le (Nat.le_refl _) (by simp only [wq]; omega)
end Lw
namespace Gd
open PySem PySem.Spec PyProof.Rows L2
section
variable {X : Cx} {Γ : List VD} {B B1 B2 B3 B' : Bag} {a b e : Expr} {es : List Expr} {d : VD} {y : PyData} {pos p pos' p1 p2 p3 p4 : Pos}
theorem ej_catS {x z : Str} (ha : EJ X Γ B a (.da (.str x)) B1) (hb : EJ X Γ B1 b (.da (.str z)) B2) (hl : x.length + z.length ≤ sizeLine) : EJ X Γ B (.BinOp a .Add b pos) (.da (.str (x ++ z))) B2 :=
  ej_bin ha hb (fun t u p q => pe_op op_add_str p q) fun g v w H0 H O r1 r2 Q q => by
    obtain rfl := rvS r1
    obtain rfl := rvS r2
    exact ⟨_, _, rfl, rfl, hl, q _ _ _ To.refl O (Rp.str _)⟩
theorem ej_sliceS {lo hi : Option Expr} {l u : Option Int} {p2 : Pos} {x : Str} (ha : EJ X Γ B a (.da (.str x)) B1) (hl : OJ X Γ B1 lo l B2) (hu : OJ X Γ B2 hi u B3) (hz : x.length ≤ sizeLine) :
    EJ X Γ B (.Subscript a (.Slice lo hi none p2) pos) (.da (.str (cutS x l u))) B3 :=
  ej_slice sl_str ha hl hu fun g v H0 H O r Q q => by
    obtain rfl := rvS r
    exact ⟨_, rfl, hz, q _ _ _ To.refl O (Rp.str _)⟩
end
end Gd
set_option exponentiation.threshold 20000
namespace Lw
open PySem PySem.Spec PyProof.Rows L2 Gd Fr
open scoped Rat
def bendW : List Str := ["num", "inf", "nan", "span", "none", "inexact", "tiny", "over", "invalid", "by", "even", "up", "down", "zero", "away", "input", "told", "if", "add", "take", "times", "root", "fused", "size", "least", "greatest", "opposite", "few", "near", ""]
theorem bendW_facts : ∀ x ∈ bendW, (PyData.strOk x = true ∧ x.cps.size ≤ 10) ∧ (PyData.strOk (x ++ "s") = true ∧ (x ++ "s").cps.size ≤ 20) ∧ (PyData.strOk (cutS x none (some (-1))) = true ∧ (cutS x none (some (-1))).cps.size ≤ 20) ∧ (PyData.strOk (Txt.upper x) = true ∧ (Txt.upper x).cps.size ≤ 20) := by
  have key : bendW.all (fun x => (PyData.strOk x && decide (x.cps.size ≤ 10)) && ((PyData.strOk (x ++ "s") && decide ((x ++ "s").cps.size ≤ 20)) && ((PyData.strOk (cutS x none (some (-1))) && decide ((cutS x none (some (-1))).cps.size ≤ 20)) && (PyData.strOk (Txt.upper x) && decide ((Txt.upper x).cps.size ≤ 20))))) = true := by decide +kernel
  intro x hx
  have := List.all_eq_true.mp key x hx
  simp only [Bool.and_eq_true, decide_eq_true_eq] at this
  exact this
mutual
def bendB : PyData → Bool
  | .int i => decide (i.natAbs.log2 < 1900)
  | .str x => bendW.contains x
  | .tuple xs => bendA xs
  | d => datB d
def bendA : List PyData → Bool
  | [] => true
  | x :: xs => bendB x && bendA xs
end
mutual
theorem bendB_dat : ∀ d : PyData, bendB d = true → datB d = true
  | .none, h => by simp only [datB]
  | .bool _, h => by simp only [datB]
  | .int i, h => by simp only [bendB, decide_eq_true_eq] at h; simp only [datB, decide_eq_true_eq]; omega
  | .str x, h => by
    simp only [bendB] at h
    simp only [datB]
    exact (bendW_facts x (by simpa using h)).1.1
  | .list xs, h => by simpa only [bendB] using h
  | .tuple xs, h => by
    simp only [bendB] at h
    simp only [datB]
    exact bendA_dat xs h
  | .dict xs, h => by simpa only [bendB] using h
theorem bendA_dat : ∀ ds : List PyData, bendA ds = true → datA ds = true
  | [], _ => by simp only [datA]
  | x :: xs, h => by
    simp only [bendA, Bool.and_eq_true] at h
    simp only [datA, Bool.and_eq_true]
    exact ⟨bendB_dat x h.1, bendA_dat xs h.2⟩
end
theorem bendA_mem : ∀ {ds : List PyData}, bendA ds = true → ∀ d ∈ ds, bendB d = true
  | x :: xs, h, d, hd => by
    simp only [bendA, Bool.and_eq_true] at h
    rcases List.mem_cons.mp hd with rfl | hd
    · exact h.1
    · exact bendA_mem h.2 d hd
structure BN (n W : Nat) (d : PyData) : Prop where
  ok : bendB d = true
  dp : d.depth ≤ n
  bk : d.bulk ≤ W
theorem BN.an {n W : Nat} {d : PyData} (h : BN n W d) : An n W d := ⟨bendB_dat d h.ok, h.dp, h.bk⟩
theorem BN.tup {n W : Nat} {ds : List PyData} (h : BN n W (.tuple ds)) : (ds ≠ [] → 1 ≤ n) ∧ AnA (n - 1) W ds ∧ ∀ d ∈ ds, BN (n - 1) W d := by
  have h1 := h.ok
  have h2 := h.dp
  have h3 := h.bk
  simp only [bendB] at h1
  simp only [PyData.depth] at h2
  simp only [PyData.bulk] at h3
  have a : AnA (n - 1) W ds := ⟨bendA_dat ds h1, by omega, h3⟩
  exact ⟨fun _ => by omega, a, fun d hd => ⟨bendA_mem h1 d hd, (a.mem d hd).dp, (a.mem d hd).bk⟩⟩
def LenOk : PyData → Prop
  | .tuple ds => ds.length ≤ 1000
  | _ => True
theorem An.len {D W : Nat} {d : PyData} (h : An D W d) (e : W ≤ 1000) : LenOk d := by
  cases d with
  | tuple ds =>
    have := h.bk
    simp only [PyData.bulk] at this
    exact Nat.le_trans (len_bulk ds) (by omega)
  | _ => trivial
end Lw
namespace Gd
open PySem PySem.Spec PyProof.Rows L2
section
variable {X : Cx} {Γ : List VD} {B B1 B2 : Bag} {a b c e elt : Expr} {scope : Scope} {acc : List PyData} {pos pos' p : Pos} {rest : List Stmt} {E : En} {d : VD} {j : Nat} {x : Str} {px : Pos}
theorem ej_lenS {y : Str} (hl : y.length ≤ sizeLine) (hm : X.mg "len" = none) (ha : EJ X Γ B a (.da (.str y)) B1) (hs : starEach [a] X.env = [(false, eval a X.env)] := by rfl) (hg : Gl X "len" := by rfl) :
    EJ X Γ B (.Call (.Name "len" p) [a] [] pos) (.da (.int y.length)) B1 :=
  ej_callB call_len hm (aj_cons ha aj_nil hs) (fun g vs H0 H O r Q q => by
    obtain ⟨v, rfl, h⟩ := rv1 r
    refine ⟨v, y.length, rfl, ?_, q _ _ _ To.refl O (Rp.int _)⟩
    cases h with
    | str => exact ⟨hl, rfl⟩) (hg := hg) (he := hs)
end
end Gd
set_option exponentiation.threshold 20000
namespace Lw
open PySem PySem.Spec PyProof PyProof.Rows L2 Gd Fr
open scoped Rat
theorem tk_ex {B : Bag} (h : Bok B) (m : Int) (h0 : 0 < m) (h1 : m < 2 ^ 60) : ∃ (v : Int) (B' : Bag), R_take [.bag, .da (.int m)] B (.int v) B' ∧ 0 ≤ v ∧ v < m ∧ Bok B' :=
  ⟨tkV B m, tkB B m, R_take.mk B m h0 (by unfold Bd; exact Nat.lt_of_lt_of_le (show _ < 2 ^ 60 by omega) (Nat.pow_le_pow_right (by decide) (by decide))) h, tkV_ge B h0, tkV_lt B h0, tkB_ok h m⟩
theorem sm_ex {α : Type} (xs : List α) (f : α → PyData) {B : Bag} (hl : xs.length ≤ 1000) (h : Bok B) (h0 : 0 < xs.length) : ∃ x ∈ xs, ∃ B' : Bag, R_some [.bag, .da (.list (xs.map f))] B (f x) B' ∧ Bok B' := by
  obtain ⟨x, hx, hp⟩ := pick_ex xs f B h0
  have := R_some.mk B (xs.map f) (by rw [List.length_map]; exact h0) (by rw [List.length_map]; exact hl) h
  rw [hp] at this
  exact ⟨x, hx, _, this, tkB_ok h _⟩
def d3 (t : Int × Int × Int) : PyData := .tuple [.int t.1, .int t.2.1, .int t.2.2]
end Lw
namespace Gd
open PySem PySem.Spec PyProof.Rows L2 RZ
section
variable {X : Cx} {Γ : List VD} {B B1 B2 B' : Bag} {e a b c : Expr} {elt : Expr} {scope : Scope} {j : Nat} {x : Str} {px : Pos} {ds ys : List PyData} {pos pos' : Pos} {acc : List PyData}
end
end Gd
namespace Gd
open PySem PySem.Spec PyProof.Rows L2
section
variable {X : Cx} {Γ : List VD} {B B1 B2 B' : Bag} {e a b c : Expr} {es : List Expr} {elt : Expr} {scope : Scope} {pos pos' : Pos} {acc : List PyData}
end
end Gd
namespace Gd
open PySem PySem.Spec PyProof.Rows L2
section
variable {P : Program} {w : World} {A : Around} {E : Value → Shared → Prop} {s : Shared} {a : Addr} {l0 : Addr} {l : List Str} {items : Array Value}
end
section
variable {X : Cx} {Γ : List VD} {B B1 : Bag} {b : Expr} {pos p : Pos} {Φ : Post}
end
end Gd
namespace Gd
open PySem PySem.Spec PyProof.Rows L2
section
variable {X : Cx} {Γ : List VD} {B B1 B2 : Bag} {a e : Expr} {pos p p' kp : Pos} {rest : List Stmt} {ds : List PyData}
end
end Gd
namespace Gd
open PySem PySem.Spec PyProof.Rows L2
theorem str_ext {a b : Str} (h : a.cps.toList = b.cps.toList) : a = b := by
  cases a; cases b; simp at h; simp [h]
section
variable {X : Cx} {Γ : List VD} {B B1 B2 : Bag} {a b c elt : Expr} {scope : Scope} {pos p : Pos}
end
end Gd
namespace Gd
open PySem PySem.Spec PyProof.Rows L2
section
variable {X : Cx} {Γ : List VD} {B B1 B2 : Bag} {a b : Expr} {pos : Pos}
end
end Gd
namespace Gd
open PySem PySem.Spec PyProof.Rows L2
section
variable {X : Cx} {Γ : List VD} {B B1 B2 : Bag} {a b e : Expr} {pos p p' : Pos} {rest : List Stmt} {ds : List PyData}
end
end Gd
namespace HT
open PySem PySem.Spec PyProof.Rows L2
open PySem.Builtin PySem.Builtin.Str PySem.Builtin.Int
section
variable {prog : Program} {w : World} {A : Around} {E : Value → Shared → Prop} {s : Shared} {a : Int} {t : Tok}
theorem call_int_reprD {Q : Value → Shared → Prop} (hn : s.heap.NoDigits) (hl : a.natAbs < 10 ^ 4300) (h1 : Q (.str (toString a) s.toks) { s with toks := s.toks + 1 }) :
    wpAny (model prog w) A (call (.builtin "int.__repr__") [.int a t]) Q E s := by
  refine wpAny_call_entry F.slot_int_repr (typeIs_int s a t) F.entry_int_repr ?_ (F.args_int_repr_1 _)
  unfold Builtin.«int.__repr__»
  show wpAny _ _ (do let r ← Builtin.overDigitLimit? a; _) _ _ s
  refine wpAny_bind (overDigitLimit_any hn (fun hlt => ?_) (fun hge => absurd hl (Nat.not_lt.mpr hge)))
  exact wpAny_bind (wpAny_mkStr (wpAny_pure ⟨_, rfl, h1⟩) (int_text_fits10 hlt))
theorem strOf_intD {Q : Value → Shared → Prop} (hn : s.heap.NoDigits) (hl : a.natAbs < 10 ^ 4300) (h1 : Q (.str (toString a) s.toks) { s with toks := s.toks + 1 }) :
    wpAny (model prog w) A (PySem.Builtin.Str.strOf (.int a t)) Q E s := by
  unfold PySem.Builtin.Str.strOf
  rw [show isExactStr (.int a t) = false from rfl]
  try (have hv : [Value.int a t].any Value.onHeap = false := rfl; simp only [cRoomFor, hv, Bool.false_eq_true, if_false, pure_bind])
  refine wpAny_bind (m := callSpecial? (.int a t) (Str.ofString "__str__")) (wpAny_callSpecial?_slot (name := Str.ofString "__str__") (typeIs_int s a t) F.slot_int_str ?_)
  refine wpAny_call_entry F.slot_int_str (typeIs_int s a t) entry_object_str ?_ (args_object_str _)
  unfold Builtin.«object.__str__»
  refine wpAny_bind (m := slotArgs "__str__" 0 _) (wpAny_pure ?_)
  try (have hv : [Value.int a t].any Value.onHeap = false := rfl; simp only [cRoomFor, hv, Bool.false_eq_true, if_false, pure_bind])
  refine wpAny_bind (m := callSpecialIfBound? (.int a t) (Str.ofString "__repr__")) (wpAny_callSpecialIfBound?_slot (name := Str.ofString "__repr__") (typeIs_int s a t) F.slot_int_repr
    (call_int_reprD hn hl ?_))
  exact wpAny_pure ⟨_, rfl, wpAny_pure h1⟩
theorem str_of_intD {Q : Value → Shared → Prop} (hn : s.heap.NoDigits) (hl : a.natAbs < 10 ^ 4300) (h1 : Q (.str (toString a) s.toks) { s with toks := s.toks + 1 }) :
    wpAny (model prog w) A (call (.type "str") [.int a t]) Q E s :=
  callType_new F.called_str (by decide) (F.typeCall_str_1 _) (F.newCall_str_1 _) (fun obj => F.args_object_init_2 obj _) F.entry_str_new
    (meets_str_new (S := fun A R s => s.heap.NoDigits ∧ R (.ok (.ret (.str (toString a) s.toks))) { s with toks := s.toks + 1 })
      fun _ _ _ _ _ hq => strOf_intD hq.1 hl hq.2)
    ⟨hn, ⟨typeIs_str _ _ _, h1⟩⟩
end
end HT
namespace Gd
open PySem PySem.Spec PyProof.Rows L2
section
variable {X : Cx} {Γ : List VD} {B B1 B2 : Bag} {a b c e elt : Expr} {scope : Scope} {acc : List PyData} {pos pos' p : Pos} {rest : List Stmt} {E : En} {d : VD} {j : Nat} {x : Str} {px : Pos}
theorem call_strD {k : Nat} (g : Gx k X) (nd : X.base.NoDigits) : CallR X (.type "str") (fun xs H Q => ∃ i : Int, xs = [.int i] ∧ i.natAbs < 10 ^ 4300 ∧ Q (.str (toString i)) H) := by
  intro pins s σ H xs us Q I r h
  obtain ⟨i, rfl, hz, q⟩ := h
  obtain ⟨u, rfl, t, rfl⟩ := vals1 r
  exact HT.str_of_intD (nd.keeps fun b o e => (I.env0.bs b o e).1) hz ⟨.str _, H, I.tok _, ⟨_, rfl⟩, q⟩
theorem ej_strD {k : Nat} {i : Int} (g : Gx k X) (nd : X.base.NoDigits) (hi : i.natAbs < 10 ^ 4300) (hm : X.mg "str" = none) (ha : EJ X Γ B a (.da (.int i)) B1) (hs : starEach [a] X.env = [(false, eval a X.env)] := by rfl) (hg : Gl X "str" := by rfl) :
    EJ X Γ B (.Call (.Name "str" p) [a] [] pos) (.da (.str (toString i))) B1 :=
  ej_callTy (call_strD g nd) hm (aj_cons ha aj_nil hs) (fun g vs H0 H O r Q q => by
    obtain ⟨v, rfl, h⟩ := rv1 r
    exact ⟨i, by rw [rvI h], hi, q _ _ _ To.refl O (Rp.str _)⟩) (hg := hg) (he := hs)
theorem divp2 {i j : Int} (hj : 0 < j) (h : Bd 8999 j ∨ Bd 8999 i) : CDivP i j := by
  by_cases hl : j.natAbs.log2 < 9000
  · exact ⟨hj, PyProof.noPylong_of_log2 hl⟩
  · have hi : Bd 8999 i := by
      rcases h with h | h
      · exact absurd (lg (h.le (Nat.le_refl _)) (by decide)) hl
      · exact h
    refine divp_ok hj ?_
    have e1 := intBits_le hi
    have e2 : Builtin.Int.intBits j = j.natAbs.log2 + 1 := by
      unfold Builtin.Int.intBits
      rw [if_neg (show ¬ (j == 0) = true by simpa using (show j ≠ 0 by omega))]
    omega
theorem ej_divmodP {i j : Int} (hm : X.mg "divmod" = none) (ha : EJ X Γ B a (.da (.int i)) B1) (hb : EJ X Γ B1 b (.da (.int j)) B2) (hc : CDivP i j) (hg : Gl X "divmod" := by rfl)
    (h1 : starEach [a, b] X.env = (false, eval a X.env) :: starEach [b] X.env := by rfl) (h2 : starEach [b] X.env = (false, eval b X.env) :: starEach [] X.env := by rfl)
    (hpl : (backTo pos (starEach [b] X.env)).any (·.1) = false := by rfl) :
    EJ X Γ B (.Call (.Name "divmod" p) [a, b] [] pos) (.da (.tuple [.int (i / j), .int (i % j)])) B2 :=
  ej_callB call_divmodW hm (aj_cons ha (aj_cons hb aj_nil h2) h1) (fun g vs H0 H O r Q q => by
    obtain ⟨v, w, rfl, r1, r2⟩ := rv2 r
    refine ⟨i, j, by rw [rvI r1, rvI r2], hc, fun n hn => ?_⟩
    obtain ⟨t2, o2⟩ := laid (o := .tup [.int (i / j), .int (i % j)]) O hn
    exact q _ _ _ t2 o2 (Rp.tup (SqT.of upd_same) (.cons (.int _) (.cons (.int _) .nil)))) (hg := hg) (he := h1) (hpl := hpl)
theorem op_fdivP : OpR X (binaryOp .FloorDiv) (rI CDivP fun i j => .int (i / j)) := opI fun i j _ _ _ _ _ hc q => by
  exact floordiv_int (by have := hc.1; omega) (by rw [Int.fdiv_eq_ediv_of_nonneg i (by have := hc.1; omega)]; exact q) (.inl hc.2)
theorem ej_fdivP {i j : Int} (ha : EJ X Γ B a (.da (.int i)) B1) (hb : EJ X Γ B1 b (.da (.int j)) B2) (hc : CDivP i j) : EJ X Γ B (.BinOp a .FloorDiv b pos) (.da (.int (i / j))) B2 :=
  ej_iic ha hb op_fdivP hc fun _ => .int _
end
end Gd
set_option exponentiation.threshold 20000
namespace Lw
open PySem PySem.Spec PyProof PyProof.Rows L2 Gd Fr
open scoped Rat
theorem rep {y : Rat} {N D : Int} (hD : 0 < D) (h : (N : Rat) = y * (D : Rat)) : ∃ g : Int, 0 < g ∧ N = y.num * g ∧ D = (y.den : Int) * g := by
  have dp := den_pos y
  have e1 : y.num * D = N * (y.den : Int) := by
    have e : y * ((y.den : Int) : Rat) = (y.num : Rat) := by
      exact num_den y
    have e2 : ((N * (y.den : Int) : Int) : Rat) = ((y.num * D : Int) : Rat) := by
      rw [Rat.intCast_mul, Rat.intCast_mul, h, ← e]; grind
    exact (Rat.intCast_inj.mp e2).symm
  have dv : (y.den : Int) ∣ D := by
    have h1 : (y.den : Int) ∣ y.num * D := ⟨N, by rw [e1, Int.mul_comm]⟩
    have h2 : y.den ∣ y.num.natAbs * D.natAbs := by
      have := Int.natAbs_dvd_natAbs.mpr h1
      rwa [Int.natAbs_mul, Int.natAbs_natCast] at this
    have h3 := Nat.Coprime.dvd_of_dvd_mul_left y.reduced.symm h2
    exact Int.natAbs_dvd_natAbs.mp (by rw [Int.natAbs_natCast]; exact h3)
  obtain ⟨g, rfl⟩ := dv
  have hg : 0 < g := by
    refine Decidable.byContradiction fun z => ?_
    have : (y.den : Int) * g ≤ (y.den : Int) * 0 := Int.mul_le_mul_of_nonneg_left (by omega) (by omega)
    omega
  refine ⟨g, hg, ?_, rfl⟩
  refine Int.eq_of_mul_eq_mul_right (show (y.den : Int) ≠ 0 by omega) ?_
  rw [← e1]
  simp only [Int.mul_assoc, Int.mul_comm, Int.mul_left_comm]
section
variable {way : Str} {s g : Int} {y : Rat}
theorem toC_parts (hg : 0 < g) : (y.num * g) / ((y.den : Int) * g) = y.num / (y.den : Int) ∧ y.num * g - y.num / (y.den : Int) * ((y.den : Int) * g) = (y.num % (y.den : Int)) * g := by
  have dp := den_pos y
  refine ⟨Int.mul_ediv_mul_of_pos_left _ _ hg, ?_⟩
  have := Int.emod_add_mul_ediv y.num (y.den : Int)
  have e : y.num % (y.den : Int) = y.num - y.num / (y.den : Int) * (y.den : Int) := by
    have := Int.mul_comm (y.den : Int) (y.num / (y.den : Int)); omega
  rw [e, Int.sub_mul, Int.mul_assoc]
end
def dl (n : Nat) : Nat := (Nat.repr n).length
theorem dl_pos (n : Nat) : 1 ≤ dl n := by
  exact Nat.length_repr_pos
theorem dl_str (n : Nat) : (toString (n : Int) : Str).length = dl n := by rw [PySem.ofString_length]; rfl
end Lw
set_option exponentiation.threshold 20000
namespace Lw
open PySem PySem.Spec PyProof PyProof.Rows L2 Gd Fr
open scoped Rat
structure FmD (b p : Nat) (low high : Int) : Prop where
  b2 : 2 ≤ b
  b6 : b < 2 ^ 6
  p2 : 2 ≤ p
  bp : b ^ p < 2 ^ 400
  lo : -1200 ≤ low
  lh : low ≤ high
  hi : high ≤ 1200
  bl : b ^ (-low).toNat ≤ 10 ^ 1400
  bh : b ^ p * b ^ high.toNat ≤ 10 ^ 400
def fmdB (t : F4) : Bool := decide (2 ≤ t.1) && (decide (t.1 < 2 ^ 6) && (decide (2 ≤ t.2.1) && (decide (t.1 ^ t.2.1 < 2 ^ 400) && (decide (-1200 ≤ t.2.2.1) && (decide (t.2.2.1 ≤ t.2.2.2) && (decide (t.2.2.2 ≤ 1200) && (decide (t.1 ^ (-t.2.2.1).toNat ≤ 10 ^ 1400) && decide (t.1 ^ t.2.1 * t.1 ^ t.2.2.2.toNat ≤ 10 ^ 400))))))))
theorem fmd_of {t : F4} (h : fmdB t = true) : FmD t.1 t.2.1 t.2.2.1 t.2.2.2 := by
  unfold fmdB at h
  simp only [Bool.and_eq_true, decide_eq_true_eq] at h
  obtain ⟨h1, h2, h3, h4, h5, h6, h7, h8, h9⟩ := h
  exact ⟨h1, h2, h3, h4, h5, h6, h7, h8, h9⟩
def NumD (b p : Nat) (low high s c e : Int) : Prop := (s = 0 ∨ s = 1) ∧ 0 ≤ c ∧ c < ((b ^ p : Nat) : Int) ∧ low ≤ e ∧ e ≤ high
def Pre_tc (Γ : List VD) (B : Bag) : Prop := ∃ (b p : Nat) (low high e : Int), Γ = [.bag, .da (fmP b p low high), .da (.int e)] ∧ FmD b p low high ∧ Bok B
def Post_tc (Γ : List VD) (_ : Bag) (r : PyData) (B' : Bag) : Prop := Bok B' ∧ ∀ (b p : Nat) (low high e : Int), Γ = [.bag, .da (fmP b p low high), .da (.int e)] → ∃ c : Int, r = .int c ∧ 1 ≤ c ∧ c < ((b ^ p : Nat) : Int)
def Pre_tn (Γ : List VD) (B : Bag) : Prop := ∃ (b p : Nat) (low high : Int), Γ = [.bag, .da (fmP b p low high)] ∧ FmD b p low high ∧ Bok B
def Post_tn (Γ : List VD) (_ : Bag) (r : PyData) (B' : Bag) : Prop := Bok B' ∧ ∀ (b p : Nat) (low high : Int), Γ = [.bag, .da (fmP b p low high)] → ∃ s c e : Int, r = (Va.num s c e).d ∧ NumD b p low high s c e ∧ 0 < c
def Post_tw (_ : List VD) (_ : Bag) (r : PyData) (B' : Bag) : Prop := Bok B' ∧ ∃ way ∈ wayList, r = .str way
section
variable {b p : Nat} {low high : Int} (F : FmD b p low high)
include F
end
inductive R_cross : Rel
  | mk (a b c d : Int) (B : Bag) (h1 : Bd 20000 a) (h2 : Bd 20000 b) (h3 : Bd 20000 c) (h4 : Bd 20000 d) : R_cross [.da (.tuple [.int a, .int b]), .da (.tuple [.int c, .int d])] B (.int (a * d - c * b)) B
section
variable {b p : Nat} {low high s c e : Int} (F : FmD b p low high) (h : NumD b p low high s c e)
include F h
end
theorem ten_ne (e : Int) : pw 10 e ≠ 0 := fun z => by have := pw_pos (b := 10) (by decide) e; rw [z] at this; exact absurd this (by decide)
def natI (n : Nat) : PyData := .int (n : Int)
end Lw
set_option exponentiation.threshold 200000
namespace Lw
open PySem PySem.Spec PyProof PyProof.Rows L2 Gd Fr
open scoped Rat
def farN (p : Nat) (low high : Int) : Nat := 2 * (low.natAbs + high.natAbs + p) + 1
structure FmR (b p : Nat) (low high : Int) : Prop where
  D : FmD b p low high
  p7 : p ≤ 120
  far : farN p low high ≤ 4900
  sq : ∀ i, i ≤ 16 → 2 ^ 8999 ≤ b ^ 2 ^ i → b ^ 2 ^ i ≤ 10 ^ (farN p low high + 2) → 10 ^ (farN p low high + 2) < b ^ 2 ^ i * 2 ^ 3990
  bl2 : b ^ (-low).toNat ≤ 10 ^ 1300
  sh : ∃ k : Int, Fm b p (low + k) (high + k)
def fmrB (t : F4) : Bool := (decide (t.1 ^ (-t.2.2.1).toNat ≤ 10 ^ 1300) && (fmB (t.1, t.2.1, t.2.2.1 + 0, t.2.2.2 + 0) || fmB (t.1, t.2.1, t.2.2.1 + -t.2.2.1, t.2.2.2 + -t.2.2.1))) && (fmdB t && (decide (t.2.1 ≤ 120) && (decide (farN t.2.1 t.2.2.1 t.2.2.2 ≤ 4900) && (List.range 17).all fun i => decide (t.1 ^ 2 ^ i < 2 ^ 8999) || (decide (10 ^ (farN t.2.1 t.2.2.1 t.2.2.2 + 2) < t.1 ^ 2 ^ i) || decide (10 ^ (farN t.2.1 t.2.2.1 t.2.2.2 + 2) < t.1 ^ 2 ^ i * 2 ^ 3990)))))
theorem fmr_of {t : F4} (h : fmrB t = true) : FmR t.1 t.2.1 t.2.2.1 t.2.2.2 := by
  unfold fmrB at h
  rw [Bool.and_eq_true, Bool.and_eq_true, Bool.and_eq_true, Bool.and_eq_true, Bool.and_eq_true, Bool.or_eq_true] at h
  obtain ⟨⟨h5, h6⟩, h1, h2, h3, h4⟩ := h
  refine ⟨fmd_of h1, of_decide_eq_true h2, of_decide_eq_true h3, fun i hi a b => ?_, of_decide_eq_true h5, h6.elim (fun z => ⟨0, fm_of z⟩) (fun z => ⟨-t.2.2.1, fm_of z⟩)⟩
  have := List.all_eq_true.mp h4 i (List.mem_range.mpr (by omega))
  rw [Bool.or_eq_true, Bool.or_eq_true, decide_eq_true_iff, decide_eq_true_iff, decide_eq_true_iff] at this
  omega
theorem divpW {l sq w : Nat} (h0 : 0 < sq) (hl : l ≤ w) (h : 2 ^ 8999 ≤ sq → w < sq * 2 ^ 3990) : CDivP (l : Int) (sq : Int) := by
  by_cases hs : sq < 2 ^ 8999
  · exact divp2 (by omega) (.inl (by unfold Bd; rw [Int.natAbs_natCast]; exact hs))
  · have hw := h (by omega)
    refine divp_ok (by omega) ?_
    have e2 : Builtin.Int.intBits (sq : Int) = sq.log2 + 1 := by
      unfold Builtin.Int.intBits
      rw [if_neg (show ¬ ((sq : Int) == 0) = true by simpa using (show (sq : Int) ≠ 0 by omega)), Int.natAbs_natCast]
    have l2 : sq < 2 ^ (sq.log2 + 1) := Nat.lt_log2_self
    have l3 : Bd (sq.log2 + 1 + 3990) (l : Int) := by
      unfold Bd; rw [Int.natAbs_natCast, Nat.pow_add]
      exact Nat.lt_of_le_of_lt hl (Nat.lt_trans hw (Nat.mul_lt_mul_of_pos_right l2 (Nat.pow_pos (by decide))))
    have := intBits_le l3
    omega
def WhOk (b w : Nat) : Prop := w < 2 ^ 17000 ∧ ∀ i, i ≤ 16 → 2 ^ 8999 ≤ b ^ 2 ^ i → b ^ 2 ^ i ≤ w → w < b ^ 2 ^ i * 2 ^ 3990
theorem wh_small {b w : Nat} (h : w < 2 ^ 8999) : WhOk b w := ⟨Nat.lt_of_lt_of_le h (Nat.pow_le_pow_right (by decide) (by decide)), fun i _ h1 h2 => by omega⟩
theorem few_sqW {b j w : Nat} (h2 : 2 ≤ b) (hw : w < 2 ^ 17000) (h : ∀ i, i < j → b ^ 2 ^ i ≤ w) : j ≤ 15 := by
  refine Decidable.byContradiction fun hn => ?_
  have h1 := h 15 (by omega)
  have h3 : 2 ^ 2 ^ 15 ≤ b ^ 2 ^ 15 := Nat.pow_le_pow_left h2 _
  have h4 := (Nat.pow_lt_pow_iff_right (by decide : 1 < 2)).mp (Nat.lt_of_le_of_lt (Nat.le_trans h3 h1) hw)
  exact absurd h4 (by decide)
inductive R_withinW : Rel
  | mk (b w k : Nat) (B : Bag) (h2 : 2 ≤ b) (hw : WhOk b w) (h1 : b ^ k ≤ w) (h3 : w < b ^ (k + 1)) : R_withinW [.da (.int b), .da (.int w)] B (.int k) B
inductive R_pbelowW : Rel
  | mk (b : Nat) (q : Rat) (k : Int) (B : Bag) (h2 : 2 ≤ b) (h0 : 0 < q) (hz : Bd 8999 q.num ∨ Bd 8999 (q.den : Int)) (w1 : WhOk b (q.num.toNat / q.den)) (w2 : WhOk b ((q.den - 1) / q.num.toNat)) (h1 : pw b k ≤ q) (h3 : q < pw b (k + 1)) :
      R_pbelowW [.da (.int b), .da (fq q)] B (.int k) B
inductive R_redW : Rel
  | mk (n d : Int) (B : Bag) (h : d ≠ 0) (hn : Bd 8900 n ∨ Bd 8900 d) : R_redW [.da (.int n), .da (.int d)] B (fq (n /. d)) B
inductive R_timesX : Rel
  | mk (n d m c : Nat) (x y : Rat) (B : Bag) (hx : Qz n d x) (hy : Qz m c y) (h1 : n ≤ 90000) (h2 : m ≤ 90000) (h3 : d ≤ 90000) (h4 : c ≤ 90000) (a1 : Bd 8900 x.num ∨ Bd 8900 (y.den : Int)) (a2 : Bd 8900 y.num ∨ Bd 8900 (x.den : Int)) : R_timesX [.da (fq x), .da (fq y)] B (fq (x * y)) B
noncomputable def dqQ (s c e : Int) : Rat := ((if s = 1 then -c else c : Int) : Rat) * pw 10 e
def dcD (s c e : Int) : PyData := .tuple [.int s, .int c, .int e]
inductive R_dworth : Rel
  | mk (s c e : Int) (B : Bag) (hs : s = 0 ∨ s = 1) (h0 : 0 ≤ c) (hc : Bd 8900 c) (h1 : -8000 ≤ e) (h2 : e ≤ 8000) : R_dworth [.da (dcD s c e)] B (fq (dqQ s c e)) B
inductive R_spotW : Rel
  | mk (b p : Nat) (low high : Int) (q : Rat) (n d : Nat) (B : Bag) (F : FmR b p low high) (h0 : 0 < q) (hq : Qz n d q) (hn : n ≤ 40000) (hd : d ≤ 40000) (hz : Bd 8999 q.num ∨ Bd 8999 (q.den : Int))
      (l1 : pw 10 (-((farN p low high : Nat) : Int)) ≤ q) (l2 : q < pw 10 (((farN p low high : Nat) : Int) + 1)) :
      R_spotW [.da (fmP b p low high), .da (fq q)] B (.tuple [.int (eQ b p low q), .int (cQ b (eQ b p low q) q), .int (pt (rQ b (eQ b p low q) q) (Dq b (eQ b p low q) q))]) B
inductive R_roundW : Rel
  | mk (b p : Nat) (low high : Int) (way : Str) (x : Rat) (s : Int) (n d : Nat) (B : Bag) (F : FmR b p low high) (hw : way ∈ wayList) (hs : s = 0 ∨ s = 1) (hx : Qz n d x) (hn : n ≤ 40000) (hd : d ≤ 40000) (hz : Bd 8999 x.num ∨ Bd 8999 (x.den : Int))
      (l1 : x ≠ 0 → pw 10 (-((farN p low high : Nat) : Int)) ≤ absQ x) (l2 : absQ x < pw 10 (((farN p low high : Nat) : Int) + 1)) :
      R_roundW [.da (fmP b p low high), .da (.str way), .da (fq x), .da (.int s)] B (rdP b p low high way x s) B
inductive R_nearestW : Rel
  | mk (b p : Nat) (low high : Int) (way : Str) (s e c part : Int) (B : Bag) (F : FmR b p low high) :
      R_nearestW [.da (fmP b p low high), .da (.str way), .da (.int s), .da (.tuple [.int e, .int c, .int part])] B (nm s (nb b p (outw way s c part) c e).1 (nb b p (outw way s c part) c e).2) B
inductive R_outcomeW : Rel
  | mk (b p : Nat) (low high : Int) (way : Str) (s e c part : Int) (B : Bag) (F : FmR b p low high) :
      R_outcomeW [.da (fmP b p low high), .da (.str way), .da (.int s), .da (.tuple [.int e, .int c, .int part])] B (outP b p high way s e c part) B
inductive R_toogW : Rel
  | mk (b p : Nat) (low high : Int) (way : Str) (s : Int) (B : Bag) (F : FmR b p low high) : R_toogW [.da (fmP b p low high), .da (.str way), .da (.int s)] B (tooG b p high way s) B
inductive R_read : Rel
  | mk (b p : Nat) (low high : Int) (way : Str) (s c e : Int) (B : Bag) (F : FmR b p low high) (hw : way ∈ wayList) (hs : s = 0 ∨ s = 1) (h0 : 0 ≤ c) (hc : Bd 8900 c) (h1 : Bd 60 e) :
      R_read [.da (fmP b p low high), .da (.str way), .da (dcD s c e)] B (rdP b p low high way (dqQ s c e) s) B
theorem com_bdN {n d : Int} {k : Nat} (hn : n ≠ 0) (b : Bd k n) : Bd k (com n d) := by
  have h1 : Nat.gcd n.natAbs d.natAbs ≤ n.natAbs := Nat.gcd_le_left _ (by omega)
  unfold Bd com at *; split <;> omega
theorem outP_far {b p : Nat} {high : Int} {way : Str} {s e c part : Int} (he : high < e) : outP b p high way s e c part = .tuple [tooG b p high way s, words ["inexact", "over"]] := by
  unfold outP
  have : high < (nb b p (outw way s c part) c e).2 := by
    unfold nb upN; split
    · split <;> simp <;> omega
    · exact he
  rw [if_pos this]
theorem rd_hi {b p : Nat} {low high : Int} (h2 : 2 ≤ b) {way : Str} {x : Rat} {s : Int} (hx : x ≠ 0) (h : pw b (p + high) ≤ absQ x) : rdP b p low high way x s = .tuple [tooG b p high way (sgn x), words ["inexact", "over"]] := by
  rw [rdP_pos hx]
  refine outP_far ?_
  have hE := eQ_is (p := p) h2 low (absQ x)
  refine Int.not_le.mp fun z => ?_
  have := pw_mono h2 (show (p : Int) + eQ b p low (absQ x) ≤ p + high by omega)
  exact Rat.not_lt.mpr (Rat.le_trans this h) hE.2.1
theorem rd_lo {b p : Nat} {low high : Int} (h2 : 2 ≤ b) {way : Str} {x : Rat} {s : Int} (hx : x ≠ 0) (h : 2 * absQ x < pw b low) : rdP b p low high way x s = outP b p high way (sgn x) low 0 1 := by
  have q0 := absQ_pos hx
  have hE : IsE b p low (absQ x) low := ⟨Int.le_refl _, by
    have h3 : absQ x < pw b low := by grind
    exact ltle h3 (pw_mono h2 (by omega)), .inl rfl⟩
  rw [rdP_pos hx, eQ_of h2 hE]
  generalize absQ x = q at *
  have D0 := Dq_pos h2 low q
  have v := q_val h2 low q
  have c0 := c_ge h2 (Rat.le_of_lt q0) low
  have t0 : 0 ≤ tQ b low q := by
    unfold tQ; rw [Rat.div_def]
    exact Rat.mul_nonneg (by exact_mod_cast r_ge h2 low q) (Rat.le_of_lt (Rat.inv_pos.mpr (Dq_posQ h2 low q)))
  have hc : cQ b low q = 0 := by
    refine Int.le_antisymm (Int.le_of_lt_add_one (Int.not_le.mp fun z => ?_)) c0
    have h1 : (1 : Rat) ≤ (cQ b low q : Rat) := by exact_mod_cast z
    have h3 : (1 : Rat) * pw b low ≤ ((cQ b low q : Rat) + tQ b low q) * pw b low := Rat.mul_le_mul_of_nonneg_right (by grind) (Rat.le_of_lt (pw_pos h2 low))
    rw [← v, Rat.one_mul] at h3
    grind
  rw [hc]
  have ht : ((2 : Nat) : Rat) * tQ b low q < ((1 : Int) : Rat) := by
    rw [hc] at v
    have h4 : 2 * tQ b low q * pw b low < 1 * pw b low := by
      have : 2 * tQ b low q * pw b low = 2 * (((0 : Int) : Rat) + tQ b low q) * pw b low := by grind
      rw [this, Rat.mul_assoc, ← v, Rat.one_mul]; exact h
    have := Rat.lt_of_mul_lt_mul_right h4 (Rat.le_of_lt (pw_pos h2 low))
    exact_mod_cast this
  have ht2 := (t_lt_iff h2 low q 1 2 (by decide)).mp ht
  have hr : rQ b low q ≠ 0 := fun z => by
    have : tQ b low q = 0 := by unfold tQ; rw [z, Rat.intCast_zero, Rat.div_def, Rat.zero_mul]
    rw [hc, this] at v
    rw [v] at q0
    have : ((0 : Int) : Rat) + 0 = 0 := by grind
    rw [this, Rat.zero_mul] at q0
    exact absurd q0 (by decide)
  have hp : pt (rQ b low q) (Dq b low q) = 1 := by
    unfold pt; rw [if_neg hr, if_pos (by omega)]
  rw [hp]
theorem pw_ten_ge {b : Nat} (h2 : 2 ≤ b) (h6 : b < 2 ^ 6) (m : Int) : pw b m ≤ pw 10 (2 * (m.natAbs : Int)) := by
  refine Rat.le_trans (pw_mono h2 (show m ≤ (m.natAbs : Int) by omega)) ?_
  rw [show 2 * (m.natAbs : Int) = ((2 * m.natAbs : Nat) : Int) by omega, pw_nat, pw_nat, Nat.pow_mul]
  exact Rat.natCast_le_natCast.mpr (Nat.pow_le_pow_left (by omega) _)
theorem pw_ten_le {b : Nat} (h2 : 2 ≤ b) (h6 : b < 2 ^ 6) (m : Int) : pw 10 (-(2 * (m.natAbs : Int))) ≤ pw b m := by
  have t1 := pw_ten_ge h2 h6 (-m)
  rw [Int.natAbs_neg] at t1
  have t2 : pw b m * pw b (-m) = 1 := by rw [← pw_add h2, show m + -m = 0 by omega, pw_zero]
  have t3 : pw 10 (-(2 * (m.natAbs : Int))) * pw 10 (2 * (m.natAbs : Int)) = 1 := by rw [← pw_add (by decide), show -(2 * (m.natAbs : Int)) + 2 * (m.natAbs : Int) = 0 by omega, pw_zero]
  generalize 2 * (m.natAbs : Int) = f at *
  have t4 : pw 10 (-f) * pw b m * pw b (-m) ≤ pw 10 (-f) * pw b m * pw 10 f := Rat.mul_le_mul_of_nonneg_left t1 (Rat.le_of_lt (Rat.mul_pos (pw_pos (by decide) _) (pw_pos h2 _)))
  have t5 : pw 10 (-f) * pw b m * pw b (-m) = pw 10 (-f) := by rw [Rat.mul_assoc, t2, Rat.mul_one]
  have t6 : pw 10 (-f) * pw b m * pw 10 f = pw b m := by
    calc pw 10 (-f) * pw b m * pw 10 f = (pw 10 (-f) * pw 10 f) * pw b m := by grind
      _ = _ := by rw [t3, Rat.one_mul]
  rw [t5, t6] at t4
  exact t4
section
variable {s c e : Int} (hs : s = 0 ∨ s = 1) (hc : 0 < c)
include hs hc
theorem dq_ne : dqQ s c e ≠ 0 := by
  unfold dqQ
  intro z
  have pe := pw_pos (b := 10) (by decide) e
  rcases Rat.mul_eq_zero.mp z with h | h
  · have : (if s = 1 then -c else c) = 0 := by exact_mod_cast h
    split at this <;> omega
  · rw [h] at pe; exact absurd pe (by decide)
theorem dq_abs : absQ (dqQ s c e) = (c : Rat) * pw 10 e := absQ_w (b := 10) (by decide) (s := s) (e := e) (by omega)
theorem dq_sgn : sgn (dqQ s c e) = s := by
  have h := can_sgn (b := 10) (by decide) (s := s) (c := c) (e := e) hs (by omega)
  have hn : (Va.num s c e).wQ 10 ≠ 0 := dq_ne hs hc
  rw [if_neg hn] at h
  exact h
theorem rd_clamp {b p : Nat} {low high : Int} (h2 : 2 ≤ b) (h6 : b < 2 ^ 6) {way : Str} {k : Int} (k1 : pw 10 k ≤ (c : Rat)) (k2 : (c : Rat) < pw 10 (k + 1)) :
    ((farN p low high : Int) < k + e → rdP b p low high way (dqQ s c e) s = rdP b p low high way (dqQ s 1 (farN p low high : Int)) s) ∧
    (k + e < -(farN p low high : Int) → rdP b p low high way (dqQ s c e) s = rdP b p low high way (dqQ s 1 (-(farN p low high : Int))) s) := by
  have pe := pw_pos (b := 10) (by decide) e
  have n1 := dq_ne hs hc (e := e)
  have s1 := dq_sgn hs hc (e := e)
  have a1 := dq_abs hs hc (e := e)
  refine ⟨fun h => ?_, fun h => ?_⟩
  · have n2 := dq_ne hs (show (0 : Int) < 1 by decide) (e := (farN p low high : Int))
    have s2 := dq_sgn hs (show (0 : Int) < 1 by decide) (e := (farN p low high : Int))
    have a2 := dq_abs hs (show (0 : Int) < 1 by decide) (e := (farN p low high : Int))
    have g : pw b (p + high) ≤ pw 10 (farN p low high : Int) := Rat.le_trans (pw_ten_ge h2 h6 _) (pw_mono (by decide) (by unfold farN; omega))
    have g1 : pw b (p + high) ≤ absQ (dqQ s c e) := by
      rw [a1]
      refine Rat.le_trans g (Rat.le_trans (pw_mono (by decide) (show (farN p low high : Int) ≤ k + e by omega)) ?_)
      rw [pw_add (by decide)]
      exact Rat.mul_le_mul_of_nonneg_right k1 (Rat.le_of_lt pe)
    have g2 : pw b (p + high) ≤ absQ (dqQ s 1 (farN p low high : Int)) := by
      rw [a2, show ((1 : Int) : Rat) = 1 from rfl, Rat.one_mul]; exact g
    rw [rd_hi h2 n1 g1, rd_hi h2 n2 g2, s1, s2]
  · have n2 := dq_ne hs (show (0 : Int) < 1 by decide) (e := -(farN p low high : Int))
    have s2 := dq_sgn hs (show (0 : Int) < 1 by decide) (e := -(farN p low high : Int))
    have a2 := dq_abs hs (show (0 : Int) < 1 by decide) (e := -(farN p low high : Int))
    have g : 2 * pw 10 (-(farN p low high : Int)) < pw b low := by
      refine ltle ?_ (pw_ten_le h2 h6 low)
      have m1 : pw 10 (-(farN p low high : Int) + 1) ≤ pw 10 (-(2 * (low.natAbs : Int))) := pw_mono (by decide) (by unfold farN; omega)
      have m2 : pw 10 (-(farN p low high : Int) + 1) = pw 10 (-(farN p low high : Int)) * 10 := by
        rw [pw_add (by decide)]; congr 1
      have m3 := pw_pos (b := 10) (by decide) (-(farN p low high : Int))
      grind
    have g1 : 2 * absQ (dqQ s c e) < pw b low := by
      rw [a1]
      have x1 : (c : Rat) * pw 10 e < pw 10 (k + 1) * pw 10 e := Rat.mul_lt_mul_of_pos_right k2 pe
      rw [← pw_add (by decide)] at x1
      have x2 : pw 10 (k + 1 + e) ≤ pw 10 (-(farN p low high : Int)) := pw_mono (by decide) (by omega)
      grind
    have g2 : 2 * absQ (dqQ s 1 (-(farN p low high : Int))) < pw b low := by
      rw [a2, show ((1 : Int) : Rat) = 1 from rfl, Rat.one_mul]; exact g
    rw [rd_lo h2 n1 g1, rd_lo h2 n2 g2, s1, s2]
end
theorem divpI {N D : Int} (h0 : 0 ≤ N) (hD : 0 < D) (h : N < D * ((2 ^ 3990 : Nat) : Int)) : CDivP N D := by
  obtain ⟨n, rfl⟩ : ∃ n : Nat, N = (n : Int) := ⟨N.toNat, by omega⟩
  obtain ⟨d, rfl⟩ : ∃ d : Nat, D = (d : Int) := ⟨D.toNat, by omega⟩
  refine divpW (by omega) (Nat.le_refl n) fun _ => ?_
  rw [← Int.natCast_mul] at h
  exact Int.ofNat_lt.mp h
theorem ten_big : 10 ^ 4901 < 2 ^ 16400 := by decide +kernel
section
variable {b p : Nat} {low high : Int} (F : FmR b p low high) {q : Rat}
include F
theorem FmR.e_ok {e : Int} (hE : IsE b p low q e) (l2 : q < pw 10 (((farN p low high : Nat) : Int) + 1)) : e ≤ 17000 ∧ b ^ e.toNat < 2 ^ 16400 := by
  have b2 := F.D.b2; have p2 := F.D.p2; have lo := F.D.lo; have hi := F.D.hi; have lh := F.D.lh; have fr := F.far; have bh := F.D.bh
  have tb := ten_big
  by_cases h0 : e ≤ 0
  · have : e.toNat = 0 := by omega
    rw [this, Nat.pow_zero]
    exact ⟨by omega, Nat.one_lt_two_pow (by decide)⟩
  by_cases hl : e = low
  · subst hl
    have b0 : 0 < b := by omega
    have u1 : b ^ e.toNat ≤ b ^ high.toNat := Nat.pow_le_pow_right b0 (by omega)
    have u3 : b ^ high.toNat ≤ b ^ p * b ^ high.toNat := Nat.le_mul_of_pos_left _ (Nat.pow_pos b0)
    have u4 : 10 ^ 400 < 2 ^ 16400 := by decide +kernel
    exact ⟨by omega, Nat.lt_of_le_of_lt (Nat.le_trans u1 (Nat.le_trans u3 bh)) u4⟩
  · have h3 : pw b (p + e - 1) ≤ q := hE.2.2.resolve_left hl
    have h4 : pw b ((e.toNat : Nat) : Int) < pw 10 ((4901 : Nat) : Int) := by
      refine lelt (Rat.le_trans (pw_mono b2 (show ((e.toNat : Nat) : Int) ≤ p + e - 1 by omega)) h3) (ltle l2 (pw_mono (by decide) (by omega)))
    rw [pw_nat, pw_nat] at h4
    have h5 : b ^ e.toNat < 10 ^ 4901 := Rat.natCast_lt_natCast.mp h4
    have h6 : b ^ e.toNat < 2 ^ 16400 := Nat.lt_trans h5 tb
    have h7 : 2 ^ e.toNat ≤ b ^ e.toNat := Nat.pow_le_pow_left b2 _
    have h8 : e.toNat < 16400 := (Nat.pow_lt_pow_iff_right (by decide)).mp (Nat.lt_of_le_of_lt h7 h6)
    exact ⟨by omega, h6⟩
theorem FmR.lo_ok {e : Int} (h : low ≤ e) : b ^ (-e).toNat < 2 ^ 4700 := by
  have u2 : b ^ (-e).toNat ≤ b ^ (-low).toNat := Nat.pow_le_pow_right (by have := F.D.b2; omega) (by omega)
  exact Nat.lt_of_le_of_lt (Nat.le_trans u2 F.D.bl) (by decide +kernel)
theorem FmR.wh {w : Nat} (h : w < 10 ^ (farN p low high + 2)) : WhOk b w := by
  have fr := F.far
  refine ⟨Nat.lt_trans h (Nat.lt_of_le_of_lt (Nat.pow_le_pow_right (by decide) (show farN p low high + 2 ≤ 4902 by omega)) (by decide +kernel)), fun i hi h1 h2 => Nat.lt_trans h (F.sq i hi h1 (Nat.le_of_lt (Nat.lt_of_le_of_lt h2 h)))⟩
theorem FmR.w1 (h0 : 0 < q) (l2 : q < pw 10 (((farN p low high : Nat) : Int) + 1)) : WhOk b (q.num.toNat / q.den) := by
  refine F.wh (Nat.lt_of_lt_of_le ((Nat.div_lt_iff_lt_mul q.den_pos).mpr ?_) (Nat.pow_le_pow_right (by decide) (show farN p low high + 1 ≤ farN p low high + 2 by omega)))
  have h := (lt_pw_iff (b := 10) (by decide) q 0 (farN p low high + 1)).mp (by rw [show ((farN p low high + 1 : Nat) : Int) - (0 : Nat) = ((farN p low high : Nat) : Int) + 1 by omega]; exact l2)
  rw [Nat.pow_zero] at h
  have n0 : 0 ≤ q.num := Rat.num_nonneg.mpr (Rat.le_of_lt h0)
  have h2 : (q.num.toNat : Int) < ((10 ^ (farN p low high + 1) * q.den : Nat) : Int) := by rw [Int.natCast_mul, Int.mul_comm]; omega
  exact Int.ofNat_lt.mp h2
theorem FmR.w2 (h0 : 0 < q) (l1 : pw 10 (-((farN p low high : Nat) : Int)) ≤ q) : WhOk b ((q.den - 1) / q.num.toNat) := by
  have n0 : 0 < q.num := by
    have : 0 ≤ q.num := Rat.num_nonneg.mpr (Rat.le_of_lt h0)
    have : q.num ≠ 0 := fun z => absurd h0 (by rw [Rat.num_eq_zero.mp z]; decide)
    omega
  refine F.wh (Nat.lt_of_lt_of_le ((Nat.div_lt_iff_lt_mul (show 0 < q.num.toNat by omega)).mpr ?_) (Nat.pow_le_pow_right (by decide) (show farN p low high ≤ farN p low high + 2 by omega)))
  have h := (pw_le_iff (b := 10) (by decide) q (farN p low high) 0).mp (by rw [show ((0 : Nat) : Int) - (farN p low high : Nat) = -((farN p low high : Nat) : Int) by omega]; exact l1)
  rw [Nat.pow_zero] at h
  have h2 : (q.den : Int) ≤ ((10 ^ farN p low high * q.num.toNat : Nat) : Int) := by
    rw [Int.natCast_mul, Int.mul_comm, Int.toNat_of_nonneg (by omega)]; omega
  have := Int.ofNat_le.mp h2
  have := q.den_pos
  omega
theorem FmR.divD {e : Int} (h0 : 0 < q) (hE : IsE b p low q e) : CDivP (Nq b e q) (Dq b e q) := by
  have b2 := F.D.b2
  have D0 := Dq_pos b2 e q
  have N0 : 0 ≤ Nq b e q := Int.mul_nonneg (Rat.num_nonneg.mpr (Rat.le_of_lt h0)) (Int.natCast_nonneg _)
  refine divpI N0 D0 ?_
  have c := c_lt b2 hE
  unfold cQ at c
  have h1 : Nq b e q < ((b ^ p : Nat) : Int) * Dq b e q := (Int.ediv_lt_iff_lt_mul D0).mp c
  have h2 : b ^ p ≤ 2 ^ 3990 := Nat.le_trans (Nat.le_of_lt F.D.bp) (Nat.pow_le_pow_right (by decide) (by decide))
  have h3 : ((b ^ p : Nat) : Int) * Dq b e q ≤ ((2 ^ 3990 : Nat) : Int) * Dq b e q := Int.mul_le_mul_of_nonneg_right (Int.ofNat_le.mpr h2) (Int.le_of_lt D0)
  rw [Int.mul_comm (Dq b e q)]
  omega
end
theorem abs_z {x : Rat} {n : Nat} (h : Bd n x.num ∨ Bd n (x.den : Int)) : Bd n (absQ x).num ∨ Bd n ((absQ x).den : Int) := by
  unfold absQ; split
  · rw [Rat.neg_num, Rat.neg_den]
    exact h.imp Bd.neg id
  · exact h
theorem ten_8000 : 10 ^ 8000 < 2 ^ 26600 := by decide +kernel
theorem ten_2680 : 2 ^ 8900 < 10 ^ 2680 := by decide +kernel
theorem ten_qzW {e : Int} (h1 : -8000 ≤ e) (h2 : e ≤ 8000) : Qz 26600 26600 (pw 10 e) := by
  have e1 := pw_num 10 (by decide) e
  have t : ∀ n : Nat, n ≤ 8000 → Bd 26600 ((10 ^ n : Nat) : Int) := fun n hn => by
    unfold Bd; rw [Int.natAbs_natCast]
    exact Nat.lt_of_le_of_lt (Nat.pow_le_pow_right (by decide) hn) ten_8000
  refine ⟨?_, ?_⟩
  · rw [e1.1]; exact t _ (by omega)
  · rw [e1.2]; exact t _ (by omega)
theorem dq_zero {s e : Int} : dqQ s 0 e = 0 := by
  unfold dqQ
  have : (if s = 1 then -(0 : Int) else 0) = 0 := by split <;> rfl
  rw [this, Rat.intCast_zero, Rat.zero_mul]
theorem dq_qz {s c e : Int} (hs : s = 0 ∨ s = 1) (h0 : 0 < c) (hc : Bd 8900 c) (h1 : -8000 ≤ e) (h2 : e ≤ 8000) : Qz 40000 40000 (dqQ s c e) ∧ (Bd 8999 (dqQ s c e).num ∨ Bd 8999 ((dqQ s c e).den : Int)) := by
  have hx : Qz 8900 1 (((if s = 1 then -c else c : Int)) : Rat) := by
    refine ⟨?_, by rw [Rat.den_intCast]; unfold Bd; decide⟩
    rw [Rat.num_intCast]
    split
    · exact hc.neg
    · exact hc
  refine ⟨(hx.mul (ten_qzW h1 h2)).le (by decide) (by decide), ?_⟩
  have e1 := pw_num 10 (by decide) e
  by_cases he : 0 ≤ e
  · right
    have t : Qz 26600 1 (pw 10 e) := ⟨(ten_qzW h1 h2).nu, by rw [e1.2, show (-e).toNat = 0 by omega]; unfold Bd; decide⟩
    exact (hx.mul t).de.le (by decide)
  · left
    have t : Qz 1 26600 (pw 10 e) := ⟨by rw [e1.1, show e.toNat = 0 by omega]; unfold Bd; decide, (ten_qzW h1 h2).de⟩
    exact (hx.mul t).nu.le (by decide)
theorem k_bound {c k : Int} (h0 : 0 < c) (hc : Bd 8900 c) (k1 : pw 10 k ≤ (c : Rat)) (k2 : (c : Rat) < pw 10 (k + 1)) : 0 ≤ k ∧ k ≤ 2680 := by
  obtain ⟨m, rfl⟩ : ∃ m : Nat, c = (m : Int) := ⟨c.toNat, by omega⟩
  unfold Bd at hc
  rw [Int.natAbs_natCast] at hc
  rw [Rat.intCast_natCast] at k1 k2
  have t := ten_2680
  refine ⟨Int.not_lt.mp fun z => ?_, Int.not_lt.mp fun z => ?_⟩
  · have a1 := ltle k2 (pw_mono (b := 10) (by decide) (show k + 1 ≤ ((0 : Nat) : Int) by omega))
    rw [pw_nat, Nat.pow_zero] at a1
    have := Rat.natCast_lt_natCast.mp a1
    omega
  · have a1 := Rat.le_trans (pw_mono (b := 10) (by decide) (show ((2680 : Nat) : Int) ≤ k by omega)) k1
    rw [pw_nat] at a1
    have := Rat.natCast_le_natCast.mp a1
    omega
end Lw
set_option exponentiation.threshold 200000
namespace Lw
open PySem PySem.Spec PyProof PyProof.Rows L2 Gd Fr
open scoped Rat
def ptT (t : Rat) : Int := if t = 0 then 0 else if 2 * t < 1 then 1 else if 2 * t = 1 then 2 else 3
def shV (k : Int) : Va → Va
  | .num s c e => .num s c (e + k)
  | v => v
section
variable {b p : Nat} (h2 : 2 ≤ b) (k : Int)
include h2
theorem pt_byT (e : Int) (q : Rat) : pt (rQ b e q) (Dq b e q) = ptT (tQ b e q) := by
  unfold pt ptT
  have z := t_zero h2 e q
  have l := t_lt_iff h2 e q 1 2 (by decide)
  have m := t_eq_iff h2 e q 1 2
  have o : ((1 : Int) : Rat) = 1 := rfl
  have w : ((2 : Nat) : Rat) = 2 := rfl
  rw [o, w] at l m
  have e1 : ((2 : Nat) : Int) = 2 := rfl
  rw [e1, Int.one_mul] at l m
  by_cases h0 : rQ b e q = 0
  · rw [if_pos h0, if_pos (z.mpr h0)]
  · rw [if_neg h0, if_neg (fun y => h0 (z.mp y))]
    by_cases h1 : 2 * rQ b e q < Dq b e q
    · rw [if_pos h1, if_pos (l.mpr h1)]
    · rw [if_neg h1, if_neg (fun y => h1 (l.mp y))]
      by_cases h3 : 2 * rQ b e q = Dq b e q
      · rw [if_pos h3, if_pos (m.mpr h3)]
      · rw [if_neg h3, if_neg (fun y => h3 (m.mp y))]
theorem sh_c (e : Int) (q : Rat) : cQ b (e + k) (q * pw b k) = cQ b e q ∧ tQ b (e + k) (q * pw b k) = tQ b e q :=
  c_uniq h2 (by rw [pw_add h2, ← Rat.mul_assoc, ← q_val h2 e q]) (t_ge h2 e q) (t_lt1 h2 e q)
theorem sh_pt (e : Int) (q : Rat) : pt (rQ b (e + k) (q * pw b k)) (Dq b (e + k) (q * pw b k)) = pt (rQ b e q) (Dq b e q) := by
  rw [pt_byT h2, pt_byT h2, (sh_c h2 k e q).2]
theorem sh_e (low : Int) (q : Rat) : eQ b p (low + k) (q * pw b k) = eQ b p low q + k := by
  obtain ⟨a1, a2, a3⟩ := eQ_is (p := p) h2 low q
  have pk := pw_pos h2 k
  refine eQ_of h2 ⟨by omega, ?_, a3.imp (fun z => by omega) fun z => ?_⟩
  · rw [show (p : Int) + (eQ b p low q + k) = (p + eQ b p low q) + k by omega, pw_add h2]
    exact Rat.mul_lt_mul_of_pos_right a2 pk
  · rw [show (p : Int) + (eQ b p low q + k) - 1 = (p + eQ b p low q - 1) + k by omega, pw_add h2]
    exact Rat.mul_le_mul_of_nonneg_right z (Rat.le_of_lt pk)
omit h2 in
theorem sh_nb (o : Bool) (c e : Int) : nb b p o c (e + k) = ((nb b p o c e).1, (nb b p o c e).2 + k) := by
  unfold nb upN
  split
  · split
    · exact Prod.ext rfl (by show e + k + 1 = e + 1 + k; omega)
    · rfl
  · rfl
omit h2 in
theorem sh_outV (high : Int) (way : Str) (s e c part : Int) : outV b p (high + k) way s (e + k) c part = shV k (outV b p high way s e c part) := by
  unfold outV
  rw [sh_nb]
  by_cases h : high < (nb b p (outw way s c part) c e).2
  · rw [if_pos h, if_pos (show high + k < _ + k by omega)]; split <;> rfl
  · rw [if_neg h, if_neg (show ¬ high + k < _ + k by omega)]; rfl
omit h2 in
theorem sh_outF (high : Int) (way : Str) (s e c part : Int) : outF b p (high + k) way s (e + k) c part = outF b p high way s e c part := by
  unfold outF
  rw [sh_nb]
  by_cases h : high < (nb b p (outw way s c part) c e).2
  · rw [if_pos h, if_pos (show high + k < _ + k by omega)]
  · rw [if_neg h, if_neg (show ¬ high + k < _ + k by omega)]
theorem sh_sgn (x : Rat) : (x * pw b k = 0 ↔ x = 0) ∧ sgn (x * pw b k) = sgn x := by
  have pk := pw_pos h2 k
  have n0 : pw b k ≠ 0 := fun z => by rw [z] at pk; exact absurd pk (by decide)
  refine ⟨⟨fun h => (Rat.mul_eq_zero.mp h).resolve_right n0, fun h => by rw [h, Rat.zero_mul]⟩, ?_⟩
  have := Rat.mul_lt_mul_right (a := x) (b := 0) pk
  rw [Rat.zero_mul] at this
  rw [sgn_eq, sgn_eq]
  by_cases h : x < 0
  · rw [if_pos h, if_pos (this.mpr h)]
  · rw [if_neg h, if_neg (fun z => h (this.mp z))]
theorem sh_rd (low high : Int) (way : Str) (x : Rat) (s : Int) : rdV b p (low + k) (high + k) way (x * pw b k) s = shV k (rdV b p low high way x s) ∧ rdF b p (low + k) (high + k) way (x * pw b k) s = rdF b p low high way x s := by
  have pk := pw_pos h2 k
  obtain ⟨z, g⟩ := sh_sgn h2 k x
  have eS : (if x * pw b k = 0 then s else sgn (x * pw b k)) = (if x = 0 then s else sgn x) := by
    by_cases h : x = 0
    · rw [if_pos h, if_pos (z.mpr h)]
    · rw [if_neg h, if_neg (fun y => h (z.mp y)), g]
  unfold rdV rdF
  rw [eS, absQ_mul_pos x pk, sh_e h2, (sh_c h2 k _ _).1, sh_pt h2]
  exact ⟨sh_outV k high way _ _ _ _, sh_outF k high way _ _ _ _⟩
end
theorem sh_can {b p : Nat} {low high k : Int} (v : Va) : Vcan b p (low + k) (high + k) (shV k v) ↔ Vcan b p low high v := by
  cases v with
  | num s c e =>
    show (_ ∧ Can b p (low + k) c (e + k) ∧ _) ↔ (_ ∧ Can b p low c e ∧ _)
    unfold Can
    refine and_congr_right fun _ => ?_
    constructor
    · rintro ⟨⟨a, b, c, d⟩, e⟩; exact ⟨⟨a, b, by omega, d.imp (fun z => by omega) id⟩, by omega⟩
    · rintro ⟨⟨a, b, c, d⟩, e⟩; exact ⟨⟨a, b, by omega, d.imp (fun z => by omega) id⟩, by omega⟩
  | inf s => rfl
  | nan => rfl
theorem sh_nan {k : Int} (v : Va) : (shV k v).isNan = v.isNan ∧ (shV k v).isNum = v.isNum ∧ (shV k v).sg = v.sg ∧ (shV k v).opp = shV k v.opp := by cases v <;> exact ⟨rfl, rfl, rfl, rfl⟩
section
variable {b p : Nat} {low high : Int} (F : FmR b p low high)
include F
theorem rdV_canR {way : Str} {x : Rat} {s : Int} (hs : s = 0 ∨ s = 1) : Vcan b p low high (rdV b p low high way x s) ∧ (rdV b p low high way x s).isNan = false := by
  obtain ⟨k, f⟩ := F.sh
  have h := rdV_can f (way := way) (x := x * pw b k) hs
  rw [(sh_rd F.D.b2 k low high way x s).1, sh_can, (sh_nan _).1] at h
  exact h
end
end Lw
set_option exponentiation.threshold 200000
namespace Lw
open PySem PySem.Spec PyProof PyProof.Rows L2 Gd Fr
open scoped Rat
def ndD (t : Int × Int) : PyData := .tuple [.int t.1, .int t.2]
def szP (b : Nat) (c e : Int) : Int × Int := (c * ((b ^ e.toNat : Nat) : Int), ((b ^ (-e).toNat : Nat) : Int))
def midP (x y : Int × Int) : Int × Int := (x.1 * y.2 + y.1 * x.2, 2 * x.2 * y.2)
def prvP (b p : Nat) (low c e : Int) : Int × Int := if ((b ^ (p - 1) : Nat) : Int) < c ∨ e = low then (c - 1, e) else (((b ^ p : Nat) : Int) - 1, e - 1)
def loP (b p : Nat) (low c e : Int) : Int × Int := midP (szP b c e) (szP b (prvP b p low c e).1 (prvP b p low c e).2)
def upP (b p : Nat) (c e : Int) : Int × Int := midP (szP b c e) (szP b (upN b p c e).1 (upN b p c e).2)
inductive R_lszW : Rel
  | mk (b p : Nat) (low high c e : Int) (B : Bag) (F : FmD b p low high) (h0 : 0 ≤ c) (h1 : c ≤ ((b ^ p : Nat) : Int)) (h2 : low ≤ e) (h3 : e ≤ high + 1) :
      R_lszW [.da (fmP b p low high), .da (.int c), .da (.int e)] B (ndD (szP b c e)) B
inductive R_lnext : Rel
  | mk (b p : Nat) (low high c e : Int) (B : Bag) (F : FmD b p low high) (h1 : c < ((b ^ p : Nat) : Int)) :
      R_lnext [.da (fmP b p low high), .da (.int c), .da (.int e)] B (ndD (upN b p c e)) B
inductive R_lends : Rel
  | mk (b p : Nat) (low high c e : Int) (B : Bag) (F : FmR b p low high) (h0 : 0 < c) (h1 : c < ((b ^ p : Nat) : Int)) (h2 : low ≤ e) (h3 : e ≤ high) :
      R_lends [.da (fmP b p low high), .da (.int c), .da (.int e)] B (.tuple [ndD (loP b p low c e), ndD (upP b p c e), .bool (decide (c % 2 = 0))]) B
structure SzOk (A C : Int) (t : Int × Int) : Prop where
  n0 : 0 ≤ t.1
  nA : t.1 ≤ A
  d1 : 1 ≤ t.2
  dC : t.2 ≤ C
structure NdOk (A C : Int) (t : Int × Int) : Prop where
  n0 : 0 < t.1
  d0 : 0 < t.2
  nb : t.1 ≤ 2 * (A * C)
  db : t.2 ≤ 2 * (C * C)
  q1 : t.2 ≤ t.1 * (2 * C)
  q2 : t.1 ≤ t.2 * A
theorem nd_self {A C : Int} {t : Int × Int} (h : SzOk A C t) (p : 0 < t.1) : NdOk A C t := by
  obtain ⟨n0, nA, d1, dC⟩ := h
  have c0 : 1 ≤ C := by omega
  have a0 : 1 ≤ A := by omega
  have h1 : A * 1 ≤ A * C := Int.mul_le_mul_of_nonneg_left c0 (by omega)
  have h2 : C * 1 ≤ C * C := Int.mul_le_mul_of_nonneg_left c0 (by omega)
  have h3 : 1 * (2 * C) ≤ t.1 * (2 * C) := Int.mul_le_mul_of_nonneg_right (by omega) (by omega)
  have h4 : 1 * A ≤ t.2 * A := Int.mul_le_mul_of_nonneg_right d1 (by omega)
  exact ⟨p, by omega, by omega, by omega, by omega, by omega⟩
theorem nd_mid {A C : Int} {x y : Int × Int} (hx : SzOk A C x) (hy : SzOk A C y) (p : 0 < x.1) : NdOk A C (midP x y) := by
  obtain ⟨x0, xA, x1, xC⟩ := hx
  obtain ⟨y0, yA, y1, yC⟩ := hy
  obtain ⟨a, u⟩ := x
  obtain ⟨b, v⟩ := y
  dsimp only at *
  have e1 : 1 * 1 ≤ a * v := Int.mul_le_mul (by omega) y1 (by omega) (by omega)
  have e2 : 0 ≤ b * u := Int.mul_nonneg y0 (by omega)
  have e3 : a * v ≤ A * C := Int.mul_le_mul xA yC (by omega) (by omega)
  have e4 : b * u ≤ A * C := Int.mul_le_mul yA xC (by omega) (by omega)
  have e5 : 1 * 1 ≤ u * v := Int.mul_le_mul x1 y1 (by omega) (by omega)
  have e6 : u * v ≤ C * C := Int.mul_le_mul xC yC (by omega) (by omega)
  have e7 : 2 * u * v = 2 * (u * v) := Int.mul_assoc ..
  have e8 : u * v ≤ C * (a * v) := by
    have h1 : u * v ≤ C * v := Int.mul_le_mul_of_nonneg_right xC (by omega)
    have h2 : C * (1 * v) ≤ C * (a * v) := Int.mul_le_mul_of_nonneg_left (Int.mul_le_mul_of_nonneg_right (by omega) (by omega)) (by omega)
    rw [Int.one_mul] at h2; omega
  have e9 : a * v ≤ A * (u * v) := by
    have h1 : a * v ≤ A * v := Int.mul_le_mul_of_nonneg_right xA (by omega)
    have h2 : A * (1 * v) ≤ A * (u * v) := Int.mul_le_mul_of_nonneg_left (Int.mul_le_mul_of_nonneg_right x1 (by omega)) (by omega)
    rw [Int.one_mul] at h2; omega
  have e10 : b * u ≤ A * (u * v) := by
    have h1 : b * u ≤ A * u := Int.mul_le_mul_of_nonneg_right yA (by omega)
    have h2 : A * (u * 1) ≤ A * (u * v) := Int.mul_le_mul_of_nonneg_left (Int.mul_le_mul_of_nonneg_left y1 (by omega)) (by omega)
    rw [Int.mul_one] at h2; omega
  have e11 : 0 ≤ C * (b * u) := Int.mul_nonneg (by omega) e2
  refine ⟨?_, ?_, ?_, ?_, ?_, ?_⟩
  · show 0 < a * v + b * u; omega
  · show 0 < 2 * u * v; omega
  · show a * v + b * u ≤ _; omega
  · show 2 * u * v ≤ _; omega
  · show 2 * u * v ≤ (a * v + b * u) * (2 * C)
    have : (a * v + b * u) * (2 * C) = 2 * (C * (a * v)) + 2 * (C * (b * u)) := by
      rw [Int.add_mul, Int.mul_left_comm (a * v) 2 C, Int.mul_left_comm (b * u) 2 C, Int.mul_comm (a * v) C, Int.mul_comm (b * u) C]
    omega
  · show a * v + b * u ≤ 2 * u * v * A
    have : 2 * u * v * A = 2 * (A * (u * v)) := by rw [Int.mul_assoc 2 u v, Int.mul_assoc, Int.mul_comm (u * v) A]
    omega
theorem FmD.p400 {b p : Nat} {low high : Int} (F : FmD b p low high) : p ≤ 400 := by
  have b2 := F.b2; have bp := F.bp
  refine Nat.le_of_not_lt fun z => ?_
  have := Nat.pow_le_pow_left b2 p
  have := Nat.pow_le_pow_right (show 0 < 2 by decide) (show 400 ≤ p by omega)
  omega
theorem pn_next {b p : Nat} {low high : Int} (F : FmD b p low high) {e : Int} (h : e ≤ high + 1) : Bd 1420 ((b ^ e.toNat : Nat) : Int) := by
  have b2 := F.b2; have b6 := F.b6
  have b0 : 0 < b := by omega
  have u1 : b ^ e.toNat ≤ b ^ (high.toNat + 1) := Nat.pow_le_pow_right b0 (by omega)
  have u3 : b ^ high.toNat ≤ b ^ p * b ^ high.toNat := Nat.le_mul_of_pos_left _ (Nat.pow_pos b0)
  have u4 := F.bh
  unfold Bd
  rw [Int.natAbs_natCast]
  rw [Nat.pow_succ] at u1
  have u5 : b ^ high.toNat * b ≤ 10 ^ 400 * 2 ^ 6 := Nat.mul_le_mul (Nat.le_trans u3 u4) (Nat.le_of_lt b6)
  exact Nat.lt_of_le_of_lt (Nat.le_trans u1 u5) (by decide +kernel)
def A4 : Int := ((10 ^ 400 : Nat) : Int)
def C13 : Int := ((10 ^ 1300 : Nat) : Int)
section
variable {b p : Nat} {low high : Int} (F : FmR b p low high)
include F
theorem sz_ok {c e : Int} (h0 : 0 ≤ c) (h2 : low ≤ e) (h : (c ≤ ((b ^ p : Nat) : Int) ∧ e ≤ high) ∨ (c = ((b ^ (p - 1) : Nat) : Int) ∧ e = high + 1)) : SzOk A4 C13 (szP b c e) := by
  have b2 := F.D.b2; have p2 := F.D.p2
  have b0 : 0 < b := by omega
  have bh : ((b ^ p : Nat) : Int) * ((b ^ high.toNat : Nat) : Int) ≤ A4 := by rw [← Int.natCast_mul]; exact Int.ofNat_le.mpr F.D.bh
  refine ⟨Int.mul_nonneg h0 (Int.natCast_nonneg _), ?_, ?_, ?_⟩
  · refine Int.le_trans ?_ bh
    show c * ((b ^ e.toNat : Nat) : Int) ≤ _
    rcases h with ⟨h, h'⟩ | ⟨rfl, rfl⟩
    · exact Int.mul_le_mul h (Int.ofNat_le.mpr (Nat.pow_le_pow_right b0 (by omega))) (Int.natCast_nonneg _) (Int.natCast_nonneg _)
    · rw [← Int.natCast_mul, ← Int.natCast_mul, ← Nat.pow_add, ← Nat.pow_add]
      exact Int.ofNat_le.mpr (Nat.pow_le_pow_right b0 (by omega))
  · have : 0 < b ^ (-e).toNat := Nat.pow_pos b0
    show 1 ≤ ((b ^ (-e).toNat : Nat) : Int); omega
  · show ((b ^ (-e).toNat : Nat) : Int) ≤ _
    refine Int.le_trans (Int.ofNat_le.mpr (Nat.pow_le_pow_right b0 (show (-e).toNat ≤ (-low).toNat by omega))) (Int.ofNat_le.mpr F.bl2)
theorem up_ok {c e : Int} (h0 : 0 ≤ c) (h1 : c < ((b ^ p : Nat) : Int)) (h2 : low ≤ e) (h3 : e ≤ high) : SzOk A4 C13 (szP b (upN b p c e).1 (upN b p c e).2) := by
  unfold upN
  split
  · refine sz_ok F (Int.natCast_nonneg _) (by show low ≤ e + 1; omega) ?_
    by_cases he : e = high
    · exact .inr ⟨rfl, by rw [he]⟩
    · refine .inl ⟨Int.ofNat_le.mpr (Nat.pow_le_pow_right (by have := F.D.b2; omega) (by omega)), by show e + 1 ≤ high; omega⟩
  · exact sz_ok F (by show 0 ≤ c + 1; omega) h2 (.inl ⟨by show c + 1 ≤ _; omega, h3⟩)
theorem up_rng {c e : Int} (h0 : 0 ≤ c) (h1 : c < ((b ^ p : Nat) : Int)) (h2 : low ≤ e) (h3 : e ≤ high) : 0 ≤ (upN b p c e).1 ∧ (upN b p c e).1 ≤ ((b ^ p : Nat) : Int) ∧ low ≤ (upN b p c e).2 ∧ (upN b p c e).2 ≤ high + 1 := by
  unfold upN
  split
  · exact ⟨Int.natCast_nonneg _, Int.ofNat_le.mpr (Nat.pow_le_pow_right (by have := F.D.b2; omega) (by omega)), by show low ≤ e + 1; omega, by show e + 1 ≤ high + 1; omega⟩
  · exact ⟨by show 0 ≤ c + 1; omega, by show c + 1 ≤ _; omega, h2, by omega⟩
theorem prv_le {c e : Int} (h0 : 0 < c) (h1 : c < ((b ^ p : Nat) : Int)) (h2 : low ≤ e) (h3 : e ≤ high) : 0 ≤ (prvP b p low c e).1 ∧ (prvP b p low c e).1 ≤ ((b ^ p : Nat) : Int) ∧ low ≤ (prvP b p low c e).2 ∧ (prvP b p low c e).2 ≤ high := by
  have : (1 : Int) ≤ ((b ^ p : Nat) : Int) := by omega
  unfold prvP
  split
  · exact ⟨by show 0 ≤ c - 1; omega, by show c - 1 ≤ _; omega, h2, h3⟩
  · next h => exact ⟨by show 0 ≤ _ - (1 : Int); omega, by show _ - (1 : Int) ≤ _; omega, by show low ≤ e - 1; omega, by show e - 1 ≤ high; omega⟩
theorem ends_ok {c e : Int} (h0 : 0 < c) (h1 : c < ((b ^ p : Nat) : Int)) (h2 : low ≤ e) (h3 : e ≤ high) : NdOk A4 C13 (szP b c e) ∧ NdOk A4 C13 (loP b p low c e) ∧ NdOk A4 C13 (upP b p c e) := by
  have s := sz_ok F (Int.le_of_lt h0) h2 (.inl ⟨Int.le_of_lt h1, h3⟩)
  have pos : 0 < (szP b c e).1 := Int.mul_pos h0 (Int.natCast_pos.mpr (Nat.pow_pos (by have := F.D.b2; omega)))
  obtain ⟨a1, a2, a3, a4⟩ := prv_le F h0 h1 h2 h3
  exact ⟨nd_self s pos, nd_mid s (sz_ok F a1 a3 (.inl ⟨a2, a4⟩)) pos, nd_mid s (up_ok F (Int.le_of_lt h0) h1 h2 h3) pos⟩
end
theorem a4_bd : A4 < ((2 ^ 1330 : Nat) : Int) := Int.ofNat_lt.mpr (by decide +kernel)
theorem c13_bd : C13 < ((2 ^ 4320 : Nat) : Int) := Int.ofNat_lt.mpr (by decide +kernel)
theorem bd_of {n : Nat} {i : Int} (h0 : 0 ≤ i) (h : i < ((2 ^ n : Nat) : Int)) : Bd n i := by unfold Bd; omega
theorem SzOk.bd {t : Int × Int} (h : SzOk A4 C13 t) : Bd 1330 t.1 ∧ Bd 4320 t.2 :=
  ⟨bd_of h.n0 (Int.lt_of_le_of_lt h.nA a4_bd), bd_of (Int.le_trans (by decide) h.d1) (Int.lt_of_le_of_lt h.dC c13_bd)⟩
theorem ac_bd : 2 * (A4 * C13) < ((2 ^ 5660 : Nat) : Int) := by
  unfold A4 C13
  rw [← Int.natCast_mul, show (2 : Int) = ((2 : Nat) : Int) from rfl, ← Int.natCast_mul]
  exact Int.ofNat_lt.mpr (by decide +kernel)
theorem cc_bd : 2 * (C13 * C13) < ((2 ^ 8640 : Nat) : Int) := by
  unfold C13
  rw [← Int.natCast_mul, show (2 : Int) = ((2 : Nat) : Int) from rfl, ← Int.natCast_mul]
  exact Int.ofNat_lt.mpr (by decide +kernel)
theorem NdOk.bd {t : Int × Int} (h : NdOk A4 C13 t) : Bd 5660 t.1 ∧ Bd 8640 t.2 :=
  ⟨bd_of (Int.le_of_lt h.n0) (Int.lt_of_le_of_lt h.nb ac_bd), bd_of (Int.le_of_lt h.d0) (Int.lt_of_le_of_lt h.db cc_bd)⟩
def stripN (q : Nat) : Nat → Nat → Nat × Nat
  | 0, d => (d, 0)
  | f + 1, d => if d % q = 0 then ((stripN q f (d / q)).1, (stripN q f (d / q)).2 + 1) else (d, 0)
def tenK (d : Nat) : Option Nat :=
  if (stripN 5 (stripN 2 d d).1 (stripN 2 d d).1).1 = 1 ∧ max (stripN 2 d d).2 (stripN 5 (stripN 2 d d).1 (stripN 2 d d).1).2 ≤ 1200 then some (max (stripN 2 d d).2 (stripN 5 (stripN 2 d d).1 (stripN 2 d d).1).2) else none
def optK : Option Nat → PyData
  | none => .none
  | some k => .int k
theorem strip_stop {q f m : Nat} (h : ¬ m % q = 0) : stripN q f m = (m, 0) := by cases f with
  | zero => rfl
  | succ f => unfold stripN; rw [if_neg h]
theorem strip_pos {q : Nat} (hq : 2 ≤ q) : ∀ (f d : Nat), 0 < d → 0 < (stripN q f d).1
  | 0, d, h => h
  | f + 1, d, h => by
    unfold stripN
    split
    · next z => exact strip_pos hq f (d / q) (Nat.div_pos (Nat.le_of_dvd h (Nat.dvd_of_mod_eq_zero z)) (by omega))
    · exact h
theorem strip_le {q : Nat} (hq : 2 ≤ q) : ∀ (f d : Nat), (stripN q f d).1 ≤ d
  | 0, d => Nat.le_refl _
  | f + 1, d => by
    unfold stripN
    split
    · exact Nat.le_trans (strip_le hq f (d / q)) (Nat.div_le_self _ _)
    · exact Nat.le_refl _
inductive R_dten : Rel
  | mk (d : Nat) (B : Bag) (h0 : 0 < d) (hb : Bd 8900 (d : Int)) : R_dten [.da (.int d)] B (optK (tenK d)) B
end Lw
namespace Lw
open PySem PySem.Spec PyProof PyProof.Rows L2 Gd Fr
open scoped Rat
end Lw
namespace Gd
open PySem PySem.Spec PyProof.Rows L2
theorem wj_is2 {X : Cx} {Γ : List VD} {B B1 : Bag} {e : Expr} {x y : Bool} (h : WJ X Γ B e x B1) (hxy : x = y) : WJ X Γ B e y B1 := hxy ▸ h
end Gd
namespace Gd
open PySem PySem.Spec PyProof.Rows L2
section
variable {X : Cx} {pins : List (Addr × Obj)} {σ : L2.St} {H : Hp} {s : Shared}
end
section
variable {X : Cx} {Γ : List VD} {B B1 B2 : Bag} {a b c elt : Expr} {scope : Scope} {pos p : Pos}
end
end Gd
namespace Gd
open PySem PySem.Spec PyProof.Rows L2
section
variable {X : Cx} {Γ : List VD} {B B1 B2 : Bag} {a b c e : Expr} {pos p pos' : Pos} {rest s1 : List Stmt} {E : En}
end
end Gd
set_option exponentiation.threshold 20000
namespace Lw
open PySem PySem.Spec PyProof PyProof.Rows L2 Gd Fr
open scoped Rat
end Lw
set_option exponentiation.threshold 20000
namespace Lw
open PySem PySem.Spec PyProof.Rows L2 Gd Fr
open scoped Rat
section
variable {X : Cx} {Γ : List VD} {B B1 B2 : Bag} {a b : Expr} {pos : Pos}
end
end Lw
namespace Lw
open PySem PySem.Spec PyProof.Rows L2 Gd Fr
theorem BN.le {n W n' W' : Nat} {d : PyData} (h : BN n W d) (e : n ≤ n') (f : W ≤ W') : BN n' W' d := ⟨h.ok, Nat.le_trans h.dp e, Nat.le_trans h.bk f⟩
structure BNA (n W : Nat) (ds : List PyData) : Prop where
  ok : bendA ds = true
  dp : PyData.depthAll ds ≤ n
  bk : PyData.bulkAll ds ≤ W
theorem BNA.nil {n W : Nat} : BNA n W [] := ⟨by simp only [bendA], by simp only [PyData.depthAll]; omega, by simp only [PyData.bulkAll]; omega⟩
theorem BNA.cons {n W W' : Nat} {d : PyData} {ds : List PyData} (h : BN n W d) (r : BNA n W' ds) : BNA n (W + 1 + W') (d :: ds) :=
  ⟨by simp only [bendA, Bool.and_eq_true]; exact ⟨h.ok, r.ok⟩, by have := h.dp; have := r.dp; simp only [PyData.depthAll]; omega, by have := h.bk; have := r.bk; simp only [PyData.bulkAll]; omega⟩
theorem BNA.of {n W : Nat} : ∀ {ds : List PyData} {k : Nat}, (∀ d ∈ ds, BN n W d) → ds.length ≤ k → BNA n (k * (W + 1)) ds
  | [], k, _, _ => BNA.nil
  | d :: ds, 0, _, h => by simp at h
  | d :: ds, k + 1, h, hl => by
    have a := BNA.cons (h d List.mem_cons_self) (BNA.of (k := k) (fun x hx => h x (List.mem_cons_of_mem _ hx)) (by simpa using hl))
    have e : (k + 1) * (W + 1) = k * (W + 1) + (W + 1) := Nat.succ_mul _ _
    exact ⟨a.ok, a.dp, by have := a.bk; omega⟩
end Lw
namespace Gd
open PySem PySem.Spec PyProof.Rows L2
section
variable {X : Cx} {Γ : List VD} {B B1 B2 : Bag} {a b : Expr} {pos p p' : Pos}
end
end Gd
namespace Lw
open PySem PySem.Spec PyProof.Rows L2 Gd Fr
end Lw
set_option exponentiation.threshold 20000
namespace Lw
open PySem PySem.Spec PyProof PyProof.Rows L2 Gd Fr
def strB : PyData → Bool
  | .str _ => true
  | _ => false
theorem strs_of : ∀ {ds : List PyData}, (∀ d ∈ ds, strB d = true) → ∃ ss : List Str, ds = ss.map .str
  | [], _ => ⟨[], rfl⟩
  | d :: ds, h => by
    obtain ⟨ss, e⟩ := strs_of (ds := ds) fun x hx => h x (List.mem_cons_of_mem _ hx)
    have h1 := h d List.mem_cons_self
    cases d with
    | str x => exact ⟨x :: ss, by rw [e]; rfl⟩
    | _ => cases h1
end Lw
namespace Lw
open PySem PySem.Spec PyProof PyProof.Rows L2 Gd Fr
end Lw
namespace Lw
open PySem PySem.Spec PyProof PyProof.Rows L2 Gd Fr
end Lw
namespace Lw
open PySem PySem.Spec PyProof PyProof.Rows L2 Gd Fr
end Lw
namespace Lw
open PySem PySem.Spec PyProof PyProof.Rows L2 Gd Fr
end Lw
namespace Lw
open PySem PySem.Spec PyProof PyProof.Rows L2 Gd Fr
end Lw
set_option exponentiation.threshold 20000
namespace Lw
open PySem PySem.Spec PyProof PyProof.Rows L2 Gd Fr
end Lw
namespace Gd
open PySem PySem.Spec PyProof.Rows L2
section
variable {X : Cx} {Γ : List VD} {B B1 B2 : Bag} {a b : Expr} {pos : Pos}
end
section
variable {X : Cx} {Γ : List VD} {B B1 B2 : Bag} {a b c d : Expr} {pos : Pos} {ta tb tc td : TE}
end
end Gd
namespace Lw
open PySem PySem.Spec PyProof PyProof.Rows L2 Gd Fr
end Lw
namespace Lw
open PySem PySem.Spec PyProof PyProof.Rows L2 Gd Fr
end Lw
set_option exponentiation.threshold 20000
namespace Lw
open PySem PySem.Spec PyProof PyProof.Rows L2 Gd Fr
open scoped Rat
def psB (b p : Nat) : Nat := 2 * b ^ (p - 1)
structure PsN (b : Nat) (low : Int) (M : Nat) (x : Rat) : Prop where
  ex : ∃ N : Int, x = (N : Rat) * pw b low ∧ N.natAbs < M
theorem PsN.le {b M M' : Nat} {low : Int} {x : Rat} (h : PsN b low M x) (e : M ≤ M') : PsN b low M' x := by
  obtain ⟨N, h1, h2⟩ := h.ex
  exact ⟨N, h1, by omega⟩
theorem PsN.add {b M M' : Nat} {low : Int} {x y : Rat} (h : PsN b low M x) (k : PsN b low M' y) : PsN b low (M + M') (x + y) := by
  obtain ⟨N, h1, h2⟩ := h.ex
  obtain ⟨N', k1, k2⟩ := k.ex
  refine ⟨N + N', ?_, by have := Int.natAbs_add_le N N'; omega⟩
  rw [h1, k1, Rat.intCast_add]; grind
structure PsS (b p : Nat) (low : Int) (K : Nat) (x : Rat) : Prop where
  ex : ∃ N : Int, x = (N : Rat) * pw b low ∧ N.natAbs < psB b p ^ K ∧ N.natAbs < 2 ^ 3000
theorem PsS.zero {b p : Nat} {low : Int} {x : Rat} (h : PsS b p low 0 x) : x = 0 := by
  obtain ⟨N, h1, h2, _⟩ := h.ex
  have : N = 0 := by simp at h2; omega
  rw [h1, this, Rat.intCast_zero, Rat.zero_mul]
end Lw
set_option exponentiation.threshold 200000
namespace Lw
open PySem PySem.Spec PyProof PyProof.Rows L2 Gd Fr
open scoped Rat
def ouD (v : Va) (ws : List Str) : PyData := .tuple [v.d, words ws]
theorem outF_flag {b p : Nat} {high : Int} {way : Str} {s e c part : Int} : ∀ y ∈ outF b p high way s e c part, y ∈ flagW := by
  unfold outF
  intro y hy
  split at hy
  · simp only [List.mem_cons, List.not_mem_nil, or_false] at hy
    rcases hy with rfl | rfl <;> decide +kernel
  · split at hy
    · cases hy
    · split at hy
      · simp only [List.mem_cons, List.not_mem_nil, or_false] at hy
        rcases hy with rfl | rfl <;> decide +kernel
      · simp only [List.mem_cons, List.not_mem_nil, or_false] at hy
        rcases hy with rfl; decide +kernel
theorem rdF_flag {b p : Nat} {low high : Int} {way : Str} {x : Rat} {s : Int} : ∀ y ∈ rdF b p low high way x s, y ∈ flagW := outF_flag
section
variable {b p : Nat} {low high : Int} (F : FmR b p low high)
include F
end
end Lw
namespace Lw
open PySem PySem.Spec PyProof PyProof.Rows L2 Gd Fr
end Lw
namespace Lw
open PySem PySem.Spec PyProof PyProof.Rows L2 Gd Fr
open scoped Rat
end Lw
set_option exponentiation.threshold 200000
namespace Lw
open PySem PySem.Spec PyProof PyProof.Rows L2 Gd Fr
open scoped Rat
structure NdR (n d : Int) : Prop where
  n0 : 0 ≤ n
  d0 : 0 < d
  bn : Bd 19500 n
  bd : Bd 19500 d
  hz : Bd 7600 d ∨ n * ((2 ^ 400 : Nat) : Int) < d
noncomputable def rdX (b p : Nat) (low high : Int) (way : Str) (s : Int) (q : Rat) : PyData :=
  outP b p high way s (eQ b p low q) (cQ b (eQ b p low q) q) (pt (rQ b (eQ b p low q) q) (Dq b (eQ b p low q) q))
inductive R_lfloor : Rel
  | mk (b p : Nat) (low high n d : Int) (q : Rat) (B : Bag) (F : FmR b p low high) (N : NdR n d) (h : (n : Rat) = q * (d : Rat)) :
      R_lfloor [.da (fmP b p low high), .da (.int n), .da (.int d)] B (ndD (cQ b (eQ b p low q) q, eQ b p low q)) B
inductive R_lisup : Rel
  | mk (b p : Nat) (low high : Int) (way : Str) (s n d : Int) (q : Rat) (B : Bag) (F : FmR b p low high) (hw : way ∈ wayList) (hs : s = 0 ∨ s = 1) (N : NdR n d) (h : (n : Rat) = q * (d : Rat)) (hr : pt (rQ b (eQ b p low q) q) (Dq b (eQ b p low q) q) ≠ 0) :
      R_lisup [.da (fmP b p low high), .da (.str way), .da (.int s), .da (.int n), .da (.int d), .da (ndD (cQ b (eQ b p low q) q, eQ b p low q)), .da (ndD (upN b p (cQ b (eQ b p low q) q) (eQ b p low q)))] B
        (.bool (outw way s (cQ b (eQ b p low q) q) (pt (rQ b (eQ b p low q) q) (Dq b (eQ b p low q) q)))) B
inductive R_lrdd : Rel
  | mk (b p : Nat) (low high : Int) (way : Str) (s n d : Int) (q : Rat) (B : Bag) (F : FmR b p low high) (hw : way ∈ wayList) (hs : s = 0 ∨ s = 1) (N : NdR n d) (h : (n : Rat) = q * (d : Rat)) :
      R_lrdd [.da (fmP b p low high), .da (.str way), .da (.int s), .da (.int n), .da (.int d)] B (rdX b p low high way s q) B
inductive R_crossW : Rel
  | mk (a b c d : Int) (B : Bag) (h1 : Bd 90000 a) (h2 : Bd 90000 b) (h3 : Bd 90000 c) (h4 : Bd 90000 d) : R_crossW [.da (.tuple [.int a, .int b]), .da (.tuple [.int c, .int d])] B (.int (a * d - c * b)) B
inductive R_lszX : Rel
  | mk (b p : Nat) (low high c e : Int) (B : Bag) (F : FmD b p low high) (hc : Bd 401 c) (h2 : low ≤ e) (h3 : e ≤ 19999) (hb : Bd 20000 ((b ^ e.toNat : Nat) : Int)) :
      R_lszX [.da (fmP b p low high), .da (.int c), .da (.int e)] B (ndD (szP b c e)) B
section
variable {b p : Nat} {low high : Int} (h2 : 2 ≤ b)
include h2
theorem fl_gen {N D e : Int} {q : Rat} (hD : 0 < D) (h : (N : Rat) = q * pw b (-e) * (D : Rat)) : N / D = cQ b e q := by
  obtain ⟨g, g0, r1, r2⟩ := rep hD h
  have D0 := Dq_pos h2 e q
  have nd := ND h2 e q
  have hne : pw b e * pw b (-e) = 1 := by rw [← pw_add h2, Int.add_right_neg, pw_zero]
  obtain ⟨g', g0', r1', r2'⟩ := rep (y := q * pw b (-e)) (N := Nq b e q) (D := Dq b e q) D0 (by
    have : (Nq b e q : Rat) * (pw b e * pw b (-e)) = q * (Dq b e q : Rat) * pw b (-e) := by rw [nd]; grind
    rw [hne, Rat.mul_one] at this
    rw [this]; grind)
  have a1 := (toC_parts (y := q * pw b (-e)) g0).1
  have a2 := (toC_parts (y := q * pw b (-e)) g0').1
  rw [← r1, ← r2] at a1
  rw [← r1', ← r2'] at a2
  rw [a1]; exact a2.symm
theorem fl_big {e : Int} {q : Rat} {j : Nat} (h : ((b ^ p : Nat) : Int) * ((b ^ j : Nat) : Int) ≤ cQ b e q) : pw b (p + (e + j)) ≤ q := by
  have h1 := c_le h2 e q
  have h3 : (((((b ^ p : Nat) : Int) * ((b ^ j : Nat) : Int) : Int)) : Rat) * pw b e ≤ (cQ b e q : Rat) * pw b e := Rat.mul_le_mul_of_nonneg_right (cast_le.mpr h) (Rat.le_of_lt (pw_pos h2 e))
  refine Rat.le_trans ?_ (Rat.le_trans h3 h1)
  rw [show (p : Int) + (e + j) = (p : Int) + ((j : Int) + e) by omega, pw_add h2, pw_add h2, pw_nat, pw_nat, Rat.intCast_mul, Rat.intCast_natCast, Rat.intCast_natCast, Rat.mul_assoc]
  exact Rat.le_refl
theorem fl_end {e : Int} {q : Rat} (hl : low ≤ e) (h : cQ b e q < ((b ^ p : Nat) : Int)) (hb : e = low ∨ pw b (p + e - 1) ≤ q) : eQ b p low q = e := by
  refine eQ_of h2 ⟨hl, ?_, hb⟩
  have h1 := c_up h2 e q
  refine ltle h1 ?_
  rw [pw_add h2, pw_nat]
  refine Rat.mul_le_mul_of_nonneg_right ?_ (Rat.le_of_lt (pw_pos h2 e))
  have : ((cQ b e q + 1 : Int) : Rat) ≤ (((b ^ p : Nat) : Int) : Rat) := cast_le.mpr (by omega)
  rwa [Rat.intCast_add, Rat.intCast_natCast] at this
end
section
variable {b p : Nat} {low high : Int} (F : FmR b p low high) {n d : Int} (N : NdR n d) {q : Rat} (h : (n : Rat) = q * (d : Rat))
include F N
theorem nr_div : CDivP (n * ((b ^ (-low).toNat : Nat) : Int)) (d * ((b ^ low.toNat : Nat) : Int)) := by
  have b2 := F.D.b2
  have b0 : 0 < b := by omega
  have d0 := N.d0
  have u0 : (0 : Int) < ((b ^ low.toNat : Nat) : Int) := Int.natCast_pos.mpr (Nat.pow_pos b0)
  have dn : b ^ (-low).toNat ≤ 10 ^ 1300 := F.bl2
  have dn2 : b ^ (-low).toNat < 2 ^ 4320 := Nat.lt_of_le_of_lt dn (by decide +kernel)
  have up : b ^ low.toNat < 2 ^ 1330 := by
    have u1 : b ^ low.toNat ≤ b ^ high.toNat := Nat.pow_le_pow_right b0 (by have := F.D.lh; omega)
    have u3 : b ^ high.toNat ≤ b ^ p * b ^ high.toNat := Nat.le_mul_of_pos_left _ (Nat.pow_pos b0)
    exact Nat.lt_of_le_of_lt (Nat.le_trans u1 (Nat.le_trans u3 F.D.bh)) (by decide +kernel)
  have D0 : 0 < d * ((b ^ low.toNat : Nat) : Int) := Int.mul_pos d0 u0
  rcases N.hz with hz | hz
  · exact divp2 D0 (.inl ((hz.mul (show Bd 1330 ((b ^ low.toNat : Nat) : Int) from Bd.nat up)).le (by decide)))
  · refine divpI (Int.mul_nonneg N.n0 (Int.natCast_nonneg _)) D0 ?_
    have e1 : n * ((b ^ (-low).toNat : Nat) : Int) ≤ n * ((2 ^ 4320 : Nat) : Int) := Int.mul_le_mul_of_nonneg_left (Int.ofNat_le.mpr (Nat.le_of_lt dn2)) N.n0
    have e2 : n * ((2 ^ 4320 : Nat) : Int) = n * ((2 ^ 400 : Nat) : Int) * ((2 ^ 3920 : Nat) : Int) := by rw [Int.mul_assoc, ← Int.natCast_mul, ← Nat.pow_add]
    have p0 : (0 : Int) < ((2 ^ 3920 : Nat) : Int) := Int.natCast_pos.mpr (Nat.pow_pos (by decide))
    have e3 : n * ((2 ^ 400 : Nat) : Int) * ((2 ^ 3920 : Nat) : Int) < d * ((2 ^ 3920 : Nat) : Int) := Int.mul_lt_mul_of_pos_right hz p0
    have e4 : d * ((2 ^ 3920 : Nat) : Int) ≤ d * ((b ^ low.toNat : Nat) : Int) * ((2 ^ 3990 : Nat) : Int) := by
      refine Int.mul_le_mul ?_ (Int.ofNat_le.mpr (Nat.pow_le_pow_right (by decide) (by decide))) (Int.le_of_lt p0) (Int.le_of_lt D0)
      have : d * 1 ≤ d * ((b ^ low.toNat : Nat) : Int) := Int.mul_le_mul_of_nonneg_left (by omega) (by omega)
      omega
    generalize n * ((b ^ (-low).toNat : Nat) : Int) = x1 at *
    generalize n * ((2 ^ 4320 : Nat) : Int) = x2 at *
    generalize n * ((2 ^ 400 : Nat) : Int) * ((2 ^ 3920 : Nat) : Int) = x3 at *
    generalize d * ((2 ^ 3920 : Nat) : Int) = x4 at *
    generalize d * ((b ^ low.toNat : Nat) : Int) * ((2 ^ 3990 : Nat) : Int) = x5 at *
    omega
include h
omit F in
theorem nr_q0 : 0 ≤ q := by
  have d0 : (0 : Rat) < (d : Rat) := by exact_mod_cast N.d0
  have n0 : (0 : Rat) ≤ (n : Rat) := by exact_mod_cast N.n0
  refine Rat.not_lt.mp fun z => ?_
  have := Rat.mul_lt_mul_of_pos_right z d0
  rw [Rat.zero_mul, ← h] at this
  exact absurd this (Rat.not_lt.mpr n0)
omit F in
theorem nr_lt : q < pw 2 19500 := by
  have d1 : (1 : Rat) ≤ (d : Rat) := by exact_mod_cast N.d0
  have q0 := nr_q0 N h
  have e1 : q * 1 ≤ q * (d : Rat) := Rat.mul_le_mul_of_nonneg_left d1 q0
  rw [Rat.mul_one, ← h] at e1
  refine lelt e1 ?_
  rw [show (19500 : Int) = ((19500 : Nat) : Int) from rfl, pw_nat, ← Rat.intCast_natCast]
  have bn := N.bn
  unfold Bd at bn
  have := N.n0
  exact cast_lt.mpr (by omega)
theorem nr_e : eQ b p low q ≤ 19999 ∧ Bd 20000 ((b ^ (eQ b p low q + 1).toNat : Nat) : Int) ∧ eQ b p low q + 1 ≤ 19999 ∧ Bd 20000 ((b ^ (eQ b p low q).toNat : Nat) : Int) := by
  have b2 := F.D.b2; have p2 := F.D.p2
  have b0 : 0 < b := by omega
  have hi := F.D.hi; have lh := F.D.lh
  have up : Bd 20000 ((b ^ (eQ b p low q + 1).toNat : Nat) : Int) ∧ eQ b p low q + 1 ≤ 19999 := by
    have hE := eQ_is (p := p) b2 low q
    generalize eQ b p low q = e at *
    rcases hE.2.2 with z | z
    · subst z
      exact ⟨(pn_next F.D (by omega)).le (by decide), by omega⟩
    · by_cases he : e ≤ 0
      · refine ⟨?_, by omega⟩
        have hb : b < 2 ^ 6 := F.D.b6
        refine Bd.nat (Nat.lt_of_le_of_lt (Nat.pow_le_pow_right b0 (show (e + 1).toNat ≤ 1 by omega)) ?_)
        rw [Nat.pow_one]; exact Nat.lt_of_lt_of_le hb (Nat.pow_le_pow_right (by decide) (by decide))
      · have l1 := lelt (Rat.le_trans (pw_mono b2 (show (((e + 1).toNat : Nat) : Int) ≤ (p : Int) + e - 1 by omega)) z) (nr_lt N h)
        rw [pw_nat, show (19500 : Int) = ((19500 : Nat) : Int) from rfl, pw_nat] at l1
        have l2 : b ^ (e + 1).toNat < 2 ^ 19500 := Rat.natCast_lt_natCast.mp l1
        refine ⟨Bd.nat (Nat.lt_of_lt_of_le l2 (Nat.pow_le_pow_right (by decide) (by decide))), ?_⟩
        have l3 : 2 ^ (e + 1).toNat ≤ b ^ (e + 1).toNat := Nat.pow_le_pow_left b2 _
        have l4 := (Nat.pow_lt_pow_iff_right (by decide : 1 < 2)).mp (Nat.lt_of_le_of_lt l3 l2)
        omega
  refine ⟨by omega, up.1, up.2, ?_⟩
  have u := up.1
  unfold Bd at u ⊢
  rw [Int.natAbs_natCast] at u ⊢
  exact Nat.lt_of_le_of_lt (Nat.pow_le_pow_right b0 (by omega)) u
end
end Lw
namespace Lw
open PySem PySem.Spec PyProof PyProof.Rows L2 Gd Fr
open scoped Rat
theorem fl_step {b : Nat} (h2 : 2 ≤ b) (e : Int) (q : Rat) (k : Nat) : cQ b e q / ((b ^ k : Nat) : Int) = cQ b (e + k) q := by
  have D0 := Dq_pos h2 e q
  have nd := ND h2 e q
  have k0 : (0 : Int) < ((b ^ k : Nat) : Int) := Int.natCast_pos.mpr (Nat.pow_pos (by omega))
  unfold cQ
  rw [Int.ediv_ediv_of_nonneg (Int.le_of_lt D0)]
  refine fl_gen h2 (Int.mul_pos D0 k0) ?_
  have e1 : pw b e * pw b (-(e + k)) * ((b ^ k : Nat) : Rat) = 1 := by
    rw [← pw_nat, ← pw_add h2, ← pw_add h2, show e + -(e + (k : Int)) + (k : Int) = 0 by omega, pw_zero]
  rw [Rat.intCast_mul, Rat.intCast_natCast]
  calc (Nq b e q : Rat) = (Nq b e q : Rat) * (pw b e * pw b (-(e + k)) * ((b ^ k : Nat) : Rat)) := by rw [e1, Rat.mul_one]
    _ = ((Nq b e q : Rat) * pw b e) * pw b (-(e + k)) * ((b ^ k : Nat) : Rat) := by grind
    _ = q * (Dq b e q : Rat) * pw b (-(e + k)) * ((b ^ k : Nat) : Rat) := by rw [nd]
    _ = _ := by grind
theorem sz_val {b : Nat} (h2 : 2 ≤ b) (c e : Int) : ((szP b c e).1 : Rat) = (c : Rat) * pw b e * ((szP b c e).2 : Rat) := by
  unfold szP
  dsimp only
  have ep : pw b e * ((b ^ (-e).toNat : Nat) : Rat) = ((b ^ e.toNat : Nat) : Rat) := by
    rw [← pw_nat, ← pw_add h2, ← pw_nat]; congr 1; omega
  rw [Rat.intCast_mul, Rat.intCast_natCast, Rat.intCast_natCast, Rat.mul_assoc, ep]
theorem sz_pos {b : Nat} (h2 : 2 ≤ b) (c e : Int) : 0 < (szP b c e).2 := Int.natCast_pos.mpr (Nat.pow_pos (by omega))
theorem upn_val {b p : Nat} (h2 : 2 ≤ b) (hp : 2 ≤ p) {c e : Int} : (((upN b p c e).1 : Int) : Rat) * pw b (upN b p c e).2 = ((c : Rat) + 1) * pw b e := by
  unfold upN
  split
  · next h =>
    have e1 : ((b ^ (p - 1) : Nat) : Rat) * pw b (e + 1) = ((b ^ p : Nat) : Rat) * pw b e := by
      rw [← pw_nat, ← pw_nat, ← pw_add h2, ← pw_add h2]; congr 1; omega
    show (((b ^ (p - 1) : Nat) : Int) : Rat) * pw b (e + 1) = _
    rw [Rat.intCast_natCast, e1, ← cast_s, h, Rat.intCast_natCast]
  · show ((c + 1 : Int) : Rat) * pw b e = _
    rw [cast_s]
theorem up_more {b p : Nat} (h2 : 2 ≤ b) (hp : 2 ≤ p) {n d : Int} (d0 : 0 < d) {q : Rat} (h : (n : Rat) = q * (d : Rat)) (e : Int) :
    let x := szP b (cQ b e q) e
    let y := szP b (upN b p (cQ b e q) e).1 (upN b p (cQ b e q) e).2
    ((2 * n * (x.2 * y.2) - (x.1 * y.2 + y.1 * x.2) * d < 0) ↔ 2 * tQ b e q < 1) ∧ ((2 * n * (x.2 * y.2) - (x.1 * y.2 + y.1 * x.2) * d = 0) ↔ 2 * tQ b e q = 1) := by
  intro x y
  have hx : (x.1 : Rat) = (cQ b e q : Rat) * pw b e * (x.2 : Rat) := sz_val h2 _ _
  have hy : (y.1 : Rat) = ((cQ b e q : Rat) + 1) * pw b e * (y.2 : Rat) := by
    have := sz_val h2 (upN b p (cQ b e q) e).1 (upN b p (cQ b e q) e).2
    rw [upn_val h2 hp] at this; exact this
  have x0 : 0 < x.2 := sz_pos h2 _ _
  have y0 : 0 < y.2 := sz_pos h2 _ _
  have hq := q_val h2 e q
  have pe := pw_pos h2 e
  generalize x.1 = x1 at *
  generalize x.2 = x2 at *
  generalize y.1 = y1 at *
  generalize y.2 = y2 at *
  generalize tQ b e q = t at *
  generalize (cQ b e q : Rat) = c at *
  generalize pw b e = w at *
  have K0 : (0 : Rat) < (d : Rat) * ((x2 : Rat) * (y2 : Rat)) * w := Rat.mul_pos (Rat.mul_pos (by exact_mod_cast d0) (Rat.mul_pos (by exact_mod_cast x0) (by exact_mod_cast y0))) pe
  have key : (((2 * n * (x2 * y2) - (x1 * y2 + y1 * x2) * d : Int)) : Rat) = (2 * t - 1) * ((d : Rat) * ((x2 : Rat) * (y2 : Rat)) * w) := by
    rw [Rat.intCast_sub, Rat.intCast_mul, Rat.intCast_mul, Rat.intCast_mul, Rat.intCast_mul, Rat.intCast_add, Rat.intCast_mul, Rat.intCast_mul, hx, hy, h, hq]
    have : ((2 : Int) : Rat) = 2 := rfl
    rw [this]
    grind
  generalize (d : Rat) * ((x2 : Rat) * (y2 : Rat)) * w = Kk at *
  generalize 2 * n * (x2 * y2) - (x1 * y2 + y1 * x2) * d = z at *
  constructor
  · rw [← cast_lt, key, show ((0 : Int) : Rat) = 0 from rfl]
    have := Rat.mul_lt_mul_right (a := 2 * t - 1) (b := 0) K0
    rw [Rat.zero_mul] at this
    rw [this]
    constructor <;> intro z <;> grind
  · rw [← Rat.intCast_inj, key, show ((0 : Int) : Rat) = 0 from rfl]
    constructor
    · intro z
      have := (Rat.mul_eq_zero.mp z).resolve_right (fun k => by rw [k] at K0; exact absurd K0 (by decide))
      grind
    · intro z
      have : 2 * t - 1 = 0 := by grind
      rw [this, Rat.zero_mul]
theorem outw_ud {way : Str} (hw : way = "up" ∨ way = "down") {s c k : Int} (hs : s = 0 ∨ s = 1) (hk : k ≠ 0) : outw way s c k = decide (decide (way = "up") = decide (s = 0)) := by
  rcases hw with rfl | rfl
  · rw [outw_up hk]
    rcases hs with rfl | rfl <;> decide
  · rw [outw_down hk]
    rcases hs with rfl | rfl <;> decide
theorem outw_ea {way : Str} (hw : way = "even" ∨ way = "away") {s c u m : Int} {t : Rat} (hu : u % 2 = 0 ↔ c % 2 = 1) (h1 : m < 0 ↔ 2 * t < 1) (h2 : m = 0 ↔ 2 * t = 1) (hp : ptT t ≠ 0) :
    outw way s c (ptT t) = if m = 0 then (decide (way = "away") || decide (u % 2 = 0)) else decide (0 < m) := by
  have key : outw way s c (ptT t) = if ptT t = 2 then (decide (way = "away") || decide (c % 2 = 1)) else decide (ptT t = 3) := by
    rcases hw with rfl | rfl
    · rw [outw_even hp]
      by_cases h : ptT t = 2
      · rw [if_pos h, if_pos h, decide_eq_false (show ¬ (("even" : Str) = "away") by decide), Bool.false_or]
      · rw [if_neg h, if_neg h]
    · rw [outw_away hp]
      by_cases h : ptT t = 2
      · rw [if_pos h, if_pos h, decide_eq_true (show (("away" : Str) = "away") from rfl), Bool.true_or]
      · rw [if_neg h, if_neg h]
  rw [key, decide_eq_decide.mpr hu]
  unfold ptT at *
  by_cases z : t = 0
  · rw [if_pos z] at hp; exact absurd rfl hp
  · rw [if_neg z] at hp ⊢
    by_cases a : 2 * t < 1
    · rw [if_pos a] at hp ⊢
      have := h1.mpr a
      rw [if_neg (by decide), if_neg (show ¬ m = 0 by omega), decide_eq_false (by decide), decide_eq_false (by omega)]
    · rw [if_neg a] at hp ⊢
      by_cases e : 2 * t = 1
      · rw [if_pos e, if_pos rfl, if_pos (h2.mpr e)]
      · rw [if_neg e, if_neg (by decide), if_neg (fun y => e (h2.mp y)), decide_eq_true rfl, decide_eq_true]
        have : ¬ m < 0 := fun y => a (h1.mp y)
        have : m ≠ 0 := fun y => e (h2.mp y)
        omega
theorem upn_par {b p : Nat} (hp : 2 ≤ p) {c e : Int} : (upN b p c e).1 % 2 = 0 ↔ c % 2 = 1 := by
  unfold upN
  split
  · next h =>
    show ((b ^ (p - 1) : Nat) : Int) % 2 = 0 ↔ _
    have e1 : b ^ p = b ^ (p - 1) * b := by rw [← Nat.pow_succ]; congr 1; omega
    have e2 : b ^ (p - 1) = b ^ (p - 2) * b := by rw [← Nat.pow_succ]; congr 1; omega
    have m1 : b ^ p % 2 = (b ^ (p - 1) % 2) * (b % 2) % 2 := by rw [e1, Nat.mul_mod]
    have m2 : b ^ (p - 1) % 2 = (b ^ (p - 2) % 2) * (b % 2) % 2 := by rw [e2, Nat.mul_mod]
    have hb : b % 2 = 0 ∨ b % 2 = 1 := by omega
    rcases hb with hb | hb
    · rw [hb, Nat.mul_zero] at m1 m2
      generalize b ^ p = x at *
      generalize b ^ (p - 1) = y at *
      omega
    · rw [hb, Nat.mul_one] at m1
      generalize b ^ p = x at *
      generalize b ^ (p - 1) = y at *
      omega
  · show (c + 1) % 2 = 0 ↔ c % 2 = 1
    omega
end Lw
namespace Lw
open PySem PySem.Spec PyProof PyProof.Rows L2 Gd Fr
open scoped Rat
theorem rdX_zero {b p : Nat} {low high : Int} {way : Str} {s : Int} (h2 : 2 ≤ b) (lh : low ≤ high) : rdX b p low high way s 0 = .tuple [nm s 0 low, .tuple []] := by
  unfold rdX
  rw [eQ_of h2 (isE_zero h2 low), (cQ_zero b low).1]
  have hp : pt (rQ b low 0) (Dq b low 0) = 0 := pt_zero.mpr (cQ_zero b low).2
  rw [hp]
  unfold outP
  rw [show outw way s 0 0 = false by unfold outw; rw [if_pos (.inl rfl)]]
  have n0 : nb b p false 0 low = (0, low) := rfl
  rw [n0, if_neg (show ¬ high < low by omega), if_pos rfl]; rfl
theorem rdX_rd {b p : Nat} {low high : Int} {way : Str} {s c e : Int} (hs : s = 0 ∨ s = 1) (h0 : 0 ≤ c) : rdP b p low high way (dqQ s c e) s = rdX b p low high way s ((c : Rat) * pw 10 e) := by
  by_cases hc : c = 0
  · subst hc
    rw [dq_zero, Rat.intCast_zero, Rat.zero_mul]
    unfold rdP rdX
    rw [if_pos rfl, show absQ 0 = 0 by decide +kernel]
  · rw [rdP_pos (dq_ne hs (show 0 < c by omega)), dq_sgn hs (by omega), dq_abs hs (by omega)]; rfl
section
variable {b p : Nat} (h2 : 2 ≤ b) (hp : 2 ≤ p) {n d : Int} (d0 : 0 < d) {q : Rat} (h : (n : Rat) = q * (d : Rat))
include h2 d0 h
theorem ex_iff (e : Int) : ((szP b (cQ b e q) e).1 * d - n * (szP b (cQ b e q) e).2 = 0) ↔ pt (rQ b e q) (Dq b e q) = 0 := by
  have hx := sz_val h2 (cQ b e q) e
  have x0 := sz_pos h2 (cQ b e q) e
  rw [pt_zero, ← t_zero h2]
  have hq := q_val h2 e q
  have pe := pw_pos h2 e
  generalize (szP b (cQ b e q) e).1 = x1 at *
  generalize (szP b (cQ b e q) e).2 = x2 at *
  generalize tQ b e q = t at *
  generalize (cQ b e q : Rat) = c at *
  generalize pw b e = w at *
  have K0 : (0 : Rat) < (d : Rat) * (x2 : Rat) * w := Rat.mul_pos (Rat.mul_pos (by exact_mod_cast d0) (by exact_mod_cast x0)) pe
  have key : ((x1 * d - n * x2 : Int) : Rat) = (-t) * ((d : Rat) * (x2 : Rat) * w) := by
    rw [Rat.intCast_sub, Rat.intCast_mul, Rat.intCast_mul, hx, h, hq]
    grind
  rw [← Rat.intCast_inj, key, show ((0 : Int) : Rat) = 0 from rfl]
  constructor
  · intro z
    have := (Rat.mul_eq_zero.mp z).resolve_right (fun k => by rw [k] at K0; exact absurd K0 (by decide))
    grind
  · intro z
    rw [z, Rat.neg_zero, Rat.zero_mul]
include hp
theorem tiny_iffN (low : Int) : (n * (szP b ((b ^ (p - 1) : Nat) : Int) low).2 - (szP b ((b ^ (p - 1) : Nat) : Int) low).1 * d < 0) ↔ cQ b (eQ b p low q) q < ((b ^ (p - 1) : Nat) : Int) := by
  have hx := sz_val h2 ((b ^ (p - 1) : Nat) : Int) low
  have x0 := sz_pos h2 ((b ^ (p - 1) : Nat) : Int) low
  generalize (szP b ((b ^ (p - 1) : Nat) : Int) low).1 = x1 at *
  generalize (szP b ((b ^ (p - 1) : Nat) : Int) low).2 = x2 at *
  have K0 : (0 : Rat) < (d : Rat) * (x2 : Rat) := Rat.mul_pos (by exact_mod_cast d0) (by exact_mod_cast x0)
  have key : ((n * x2 - x1 * d : Int) : Rat) = (q - (((b ^ (p - 1) : Nat) : Int) : Rat) * pw b low) * ((d : Rat) * (x2 : Rat)) := by
    rw [Rat.intCast_sub, Rat.intCast_mul, Rat.intCast_mul, hx, h]
    grind
  have s1 : n * x2 - x1 * d < 0 ↔ q < (((b ^ (p - 1) : Nat) : Int) : Rat) * pw b low := by
    rw [← cast_lt, key, show ((0 : Int) : Rat) = 0 from rfl]
    have := Rat.mul_lt_mul_right (a := q - (((b ^ (p - 1) : Nat) : Int) : Rat) * pw b low) (b := 0) K0
    rw [Rat.zero_mul] at this
    rw [this]
    constructor <;> intro z <;> grind
  rw [s1]
  have hE := eQ_is (p := p) h2 low q
  have pl := pw_pos h2 low
  have pv : pw b (p + low - 1) = (((b ^ (p - 1) : Nat) : Int) : Rat) * pw b low := by
    rw [show (p : Int) + low - 1 = ((p - 1 : Nat) : Int) + low by omega, pw_p h2]
  constructor
  · intro z
    have he : eQ b p low q = low := by
      refine Decidable.byContradiction fun y => ?_
      have h1 := hE.2.2.resolve_left y
      have := Rat.le_trans (pw_mono h2 (show (p : Int) + low - 1 ≤ p + eQ b p low q - 1 by have := hE.1; omega)) h1
      rw [pv] at this
      exact absurd this (Rat.not_le.mpr z)
    rw [he]
    have h1 := lelt (c_le h2 low q) z
    rw [Rat.mul_lt_mul_right pl] at h1
    exact cast_lt.mp h1
  · intro z
    have he : eQ b p low q = low := (c_big h2 (by omega) hE).resolve_right (by omega)
    rw [he] at z
    refine ltle (c_up h2 low q) (Rat.mul_le_mul_of_nonneg_right ?_ (Rat.le_of_lt pl))
    rw [← cast_s]; exact cast_le.mpr (by omega)
end
theorem to_inf {way : Str} {s : Int} (hs : s = 0 ∨ s = 1) : (decide (way = "even" ∨ way = "away") || decide (way = if s = 0 then ("up" : Str) else ("down" : Str))) = isInf way s := by
  unfold isInf
  rcases hs with rfl | rfl
  · rw [if_pos rfl, decide_eq_true (show (0 : Int) = 0 from rfl), decide_eq_false (show ¬ (0 : Int) = 1 by decide), Bool.and_true, Bool.and_false, Bool.or_false]
  · rw [if_neg (show ¬ (1 : Int) = 0 by decide), decide_eq_true (show (1 : Int) = 1 from rfl), decide_eq_false (show ¬ (1 : Int) = 0 by decide), Bool.and_true, Bool.and_false, Bool.or_false]
end Lw
namespace Lw
open PySem PySem.Spec PyProof PyProof.Rows L2 Gd Fr
open scoped Rat
def clE (c e : Int) : Int := if 0 < e then min e 4000 else max e (0 - 4000 - (dl c.toNat : Int))
inductive R_dsize : Rel
  | mk (c e : Int) (B : Bag) (h0 : 0 ≤ c) (cb : Bd 5900 c) (he : Bd 60 e) : R_dsize [.da (.int c), .da (.int e)] B (ndD (szP 10 c (clE c e))) B
inductive R_lread : Rel
  | mk (b p : Nat) (low high : Int) (way : Str) (s c e : Int) (B : Bag) (F : FmR b p low high) (hw : way ∈ wayList) (hs : s = 0 ∨ s = 1) (h0 : 0 ≤ c) (hc : Bd 5900 c) (h1 : Bd 60 e) :
      R_lread [.da (fmP b p low high), .da (.str way), .da (dcD s c e)] B (rdP b p low high way (dqQ s c e) s) B
theorem dl_le59 {c : Int} (h0 : 0 ≤ c) (cb : Bd 5900 c) : dl c.toNat ≤ 1777 := by
  unfold dl
  refine (Nat.length_repr_le_iff (by decide)).mpr ?_
  unfold Bd at cb
  have t : 2 ^ 5900 < 10 ^ 1777 := by decide +kernel
  exact Nat.lt_trans (show c.toNat < 2 ^ 5900 by omega) t
theorem dl_lt {c : Int} (h0 : 0 ≤ c) (cb : Bd 5900 c) : c.toNat < 10 ^ dl c.toNat := by
  unfold dl
  by_cases h : c.toNat = 0
  · rw [h]; decide +kernel
  · refine (Nat.length_repr_le_iff ?_).mp (Nat.le_refl _)
    have := dl_pos c.toNat
    unfold dl at this; omega
theorem cl_rng {c e : Int} (h0 : 0 ≤ c) (cb : Bd 5900 c) : -5777 ≤ clE c e ∧ clE c e ≤ 4000 := by
  have := dl_le59 h0 cb
  unfold clE
  split <;> omega
theorem cl_ndr {c e : Int} (h0 : 0 ≤ c) (cb : Bd 5900 c) : NdR (szP 10 c (clE c e)).1 (szP 10 c (clE c e)).2 := by
  obtain ⟨r1, r2⟩ := cl_rng h0 cb (e := e)
  generalize clE c e = k at *
  have p1 : ∀ m : Nat, m ≤ 4000 → Bd 13289 ((10 ^ m : Nat) : Int) := fun m hm => Bd.nat (Nat.lt_of_le_of_lt (Nat.pow_le_pow_right (by decide) hm) (by decide +kernel))
  have p2 : ∀ m : Nat, m ≤ 5777 → Bd 19192 ((10 ^ m : Nat) : Int) := fun m hm => Bd.nat (Nat.lt_of_le_of_lt (Nat.pow_le_pow_right (by decide) hm) (by decide +kernel))
  refine ⟨Int.mul_nonneg h0 (Int.natCast_nonneg _), sz_pos (by decide) _ _, (cb.mul (p1 _ (by omega))).le (by decide), (p2 _ (by omega)).le (by decide), ?_⟩
  by_cases h : (-k).toNat ≤ 2287
  · left
    exact Bd.nat (Nat.lt_of_le_of_lt (Nat.pow_le_pow_right (by decide) h) (by decide +kernel))
  · right
    show c * ((10 ^ k.toNat : Nat) : Int) * ((2 ^ 400 : Nat) : Int) < ((10 ^ (-k).toNat : Nat) : Int)
    rw [show k.toNat = 0 by omega, Nat.pow_zero, show ((1 : Nat) : Int) = 1 from rfl, Int.mul_one]
    unfold Bd at cb
    have e1 : c * ((2 ^ 400 : Nat) : Int) ≤ ((2 ^ 5900 : Nat) : Int) * ((2 ^ 400 : Nat) : Int) := Int.mul_le_mul_of_nonneg_right (by omega) (Int.natCast_nonneg _)
    refine Int.lt_of_le_of_lt e1 ?_
    rw [← Int.natCast_mul]
    exact Int.ofNat_lt.mpr (Nat.lt_of_lt_of_le (show 2 ^ 5900 * 2 ^ 400 < 10 ^ 2288 by decide +kernel) (Nat.pow_le_pow_right (by decide) (by omega)))
theorem sz_rat {c e : Int} : ((szP 10 c e).1 : Rat) = ((c : Rat) * pw 10 e) * ((szP 10 c e).2 : Rat) := sz_val (by decide) c e
theorem read_cl {b p : Nat} {low high : Int} (F : FmR b p low high) {way : Str} {s c e : Int} (hs : s = 0 ∨ s = 1) (h0 : 0 ≤ c) (cb : Bd 5900 c) : rdX b p low high way s ((c : Rat) * pw 10 (clE c e)) = rdP b p low high way (dqQ s c e) s := by
  rw [← rdX_rd hs h0]
  by_cases hc : c = 0
  · subst hc; rw [dq_zero, dq_zero]
  have c0 : 0 < c := by omega
  have b2 := F.D.b2
  have n1 := dq_ne hs c0 (e := e)
  have n2 := dq_ne hs c0 (e := clE c e)
  have a1 := dq_abs hs c0 (e := e)
  have a2 := dq_abs hs c0 (e := clE c e)
  have c1 : (1 : Rat) ≤ (c : Rat) := by exact_mod_cast c0
  by_cases hp : 0 < e
  · by_cases h4 : e ≤ 4000
    · have : clE c e = e := by unfold clE; rw [if_pos hp]; omega
      rw [this]
    · have hE : clE c e = 4000 := by unfold clE; rw [if_pos hp]; omega
      have hi : ∀ k : Int, 4000 ≤ k → pw b (p + high) ≤ (c : Rat) * pw 10 k := fun k hk => by
        have g1 : pw b (p + high) ≤ pw 10 4000 := by
          refine Rat.le_trans (pw_mono b2 (show (p : Int) + high ≤ ((p + high.toNat : Nat) : Int) by omega)) ?_
          rw [pw_nat, show (4000 : Int) = ((4000 : Nat) : Int) from rfl, pw_nat, Nat.pow_add]
          exact Rat.natCast_le_natCast.mpr (Nat.le_trans F.D.bh (Nat.pow_le_pow_right (by decide) (by decide)))
        have g2 := pw_mono (b := 10) (by decide) hk
        have g3 : 1 * pw 10 k ≤ (c : Rat) * pw 10 k := Rat.mul_le_mul_of_nonneg_right c1 (Rat.le_of_lt (pw_pos (by decide) k))
        rw [Rat.one_mul] at g3
        exact Rat.le_trans g1 (Rat.le_trans g2 g3)
      rw [rd_hi b2 n1 (by rw [a1]; exact hi e (by omega)), rd_hi b2 n2 (by rw [a2]; exact hi _ (by omega)), dq_sgn hs c0, dq_sgn hs c0]
  · by_cases h4 : 0 - 4000 - (dl c.toNat : Int) ≤ e
    · have : clE c e = e := by unfold clE; rw [if_neg hp]; omega
      rw [this]
    · have hE : clE c e = 0 - 4000 - (dl c.toNat : Int) := by unfold clE; rw [if_neg hp]; omega
      have lt := dl_lt h0 cb
      generalize dl c.toNat = L at *
      have lo : ∀ k : Int, k ≤ 0 - 4000 - (L : Int) → 2 * ((c : Rat) * pw 10 k) < pw b low := fun k hk => by
        have g1 : (c : Rat) ≤ pw 10 (L : Int) := by
          rw [pw_nat, ← Rat.intCast_natCast]; exact cast_le.mpr (by omega)
        have g2 : (c : Rat) * pw 10 k ≤ pw 10 (L : Int) * pw 10 k := Rat.mul_le_mul_of_nonneg_right g1 (Rat.le_of_lt (pw_pos (by decide) k))
        rw [← pw_add (by decide)] at g2
        have g3 := pw_mono (b := 10) (by decide) (show (L : Int) + k ≤ -4000 by omega)
        have g4 : 2 * pw 10 (-4000) < pw 10 (-1300) := by
          rw [show (-1300 : Int) = 2700 + -4000 from rfl, pw_add (by decide)]
          have : pw 10 (1 : Int) ≤ pw 10 2700 := pw_mono (by decide) (by decide)
          have e1 : pw 10 (1 : Int) = 10 := by rw [show (1 : Int) = ((1 : Nat) : Int) from rfl, pw_nat]; rfl
          rw [e1] at this
          have pz := pw_pos (b := 10) (by decide) (-4000)
          have := Rat.mul_le_mul_of_nonneg_right this (Rat.le_of_lt pz)
          grind
        have g5 : pw 10 (-1300) ≤ pw b low := by
          have t1 : pw b (-low) ≤ pw 10 1300 := by
            refine Rat.le_trans (pw_mono b2 (show -low ≤ ((-low).toNat : Int) by omega)) ?_
            rw [pw_nat, show (1300 : Int) = ((1300 : Nat) : Int) from rfl, pw_nat]
            exact Rat.natCast_le_natCast.mpr F.bl2
          have t2 : pw b low * pw b (-low) = 1 := by rw [← pw_add b2, Int.add_right_neg, pw_zero]
          have t3 : pw 10 (-1300) * pw 10 1300 = 1 := by rw [← pw_add (by decide), show (-1300 : Int) + 1300 = 0 by decide, pw_zero]
          have t4 : pw 10 (-1300) * pw b low * pw b (-low) ≤ pw 10 (-1300) * pw b low * pw 10 1300 := Rat.mul_le_mul_of_nonneg_left t1 (Rat.le_of_lt (Rat.mul_pos (pw_pos (by decide) _) (pw_pos b2 _)))
          have t5 : pw 10 (-1300) * pw b low * pw b (-low) = pw 10 (-1300) := by rw [Rat.mul_assoc, t2, Rat.mul_one]
          have t6 : pw 10 (-1300) * pw b low * pw 10 1300 = pw b low := by
            calc pw 10 (-1300) * pw b low * pw 10 1300 = (pw 10 (-1300) * pw 10 1300) * pw b low := by grind
              _ = _ := by rw [t3, Rat.one_mul]
          rw [t5, t6] at t4
          exact t4
        have := Rat.le_trans g2 g3
        grind
      rw [rd_lo b2 n1 (by rw [a1]; exact lo e (by omega)), rd_lo b2 n2 (by rw [a2]; exact lo _ (by omega)), dq_sgn hs c0, dq_sgn hs c0]
end Lw
set_option exponentiation.threshold 200000
namespace Lw
open PySem PySem.Spec PyProof PyProof.Rows L2 Gd Fr
open scoped Rat
theorem outF_len {b p : Nat} {high : Int} {way : Str} {s e c part : Int} : (outF b p high way s e c part).length ≤ 5 := by
  unfold outF
  split
  · exact Nat.le_of_ble_eq_true rfl
  · split
    · exact Nat.le_of_ble_eq_true rfl
    · split <;> exact Nat.le_of_ble_eq_true rfl
theorem rdF_len {b p : Nat} {low high : Int} {way : Str} {x : Rat} {s : Int} : (rdF b p low high way x s).length ≤ 5 := outF_len
section
variable {b p : Nat} {low high : Int} (F : FmD b p low high)
include F
theorem nmd_nd {s c e : Int} (h : NumD b p low high s c e) : Nd 2 40 (Va.num s c e).d := by
  obtain ⟨hs, c0, c1, e0, e1⟩ := h
  have lo := F.lo; have hi := F.hi; have bp := F.bp
  exact (Nd.tuple (NdA.cons (Nd.str (by decide +kernel) (by decide +kernel)) (NdA.cons (Nd.int (n := 2) (by unfold Bd; omega)) (NdA.cons (Nd.int (n := 400) (by unfold Bd; omega)) (NdA.cons (Nd.int (n := 12) (by unfold Bd; omega)) (NdA.nil (W := 0))))))).le (Nat.le_refl _) (by decide)
theorem vcd_nd {v : Va} (h : Vcan b p low high v) : Nd 2 40 v.d := by
  cases v with
  | nan => exact (Nd.tuple (NdA.cons (Nd.str (by decide +kernel) (by decide +kernel)) (NdA.nil (W := 0)))).le (Nat.le_refl _) (by decide)
  | inf s =>
    have h : s = 0 ∨ s = 1 := h
    exact (Nd.tuple (NdA.cons (Nd.str (by decide +kernel) (by decide +kernel)) (NdA.cons (Nd.int (n := 2) (by unfold Bd; omega)) (NdA.nil (W := 0))))).le (Nat.le_refl _) (by decide)
  | num s c e =>
    obtain ⟨h1, h2, h3⟩ := h
    exact nmd_nd F ⟨h1, h2.1, h2.2.1, h2.2.2.1, h3⟩
end
theorem ou_nd {v : Va} {l : List Str} (h : Nd 2 40 v.d) (hl : ∀ y ∈ l, y ∈ flagW) (h5 : l.length ≤ 5) : Nd 3 160 (ouD v l) :=
  (Nd.tuple (NdA.cons (h.le (Nat.le_refl _) (Nat.le_refl _)) (NdA.cons (W := 105) ((Nd.tuple ((words_nd hl).le (Nat.le_refl _) (show 21 * l.length ≤ 105 by omega))).le (Nat.le_refl _) (Nat.le_refl _)) (NdA.nil (W := 0))))).le (Nat.le_refl _) (by decide)
theorem rdr_nd {b p : Nat} {low high : Int} (F : FmR b p low high) {way : Str} {x : Rat} {s : Int} (hs : s = 0 ∨ s = 1) : Nd 3 160 (rdP b p low high way x s) := by
  rw [rdP_eq]
  exact ou_nd (vcd_nd F.D (rdV_canR F hs).1) rdF_flag rdF_len
end Lw
namespace Gd
open PySem PySem.Spec PyProof.Rows L2
section
variable {X : Cx} {Γ : List VD} {B B1 B2 : Bag} {a b c e : Expr} {pos p pos' : Pos} {rest s1 : List Stmt} {E : En}
end
end Gd
set_option exponentiation.threshold 200000
namespace Lw
open PySem PySem.Spec PyProof PyProof.Rows L2 Gd Fr
open scoped Rat
structure NumC (b p : Nat) (low high s c e : Int) : Prop where
  D : NumD b p low high s c e
  c0 : 0 < c
  ca : e = low ∨ ((b ^ (p - 1) : Nat) : Int) ≤ c
def inSt (lo hi : Rat) (k : Bool) (q : Rat) : Bool := decide ((lo < q ∧ q < hi) ∨ (k = true ∧ lo ≤ q ∧ q ≤ hi))
def Post_tnC (Γ : List VD) (_ : Bag) (r : PyData) (B' : Bag) : Prop := Bok B' ∧ ∀ (b p : Nat) (low high : Int), Γ = [.bag, .da (fmP b p low high)] → ∃ s c e : Int, r = (Va.num s c e).d ∧ NumC b p low high s c e
def Post_tcC (Γ : List VD) (_ : Bag) (r : PyData) (B' : Bag) : Prop := Bok B' ∧ ∀ (b p : Nat) (low high e : Int), Γ = [.bag, .da (fmP b p low high), .da (.int e)] → ∃ c : Int, r = .int c ∧ 1 ≤ c ∧ c < ((b ^ p : Nat) : Int) ∧ (e = low ∨ ((b ^ (p - 1) : Nat) : Int) ≤ c)
section
variable {b p : Nat} {low : Int} (h2 : 2 ≤ b) (hp : 2 ≤ p)
include h2
include hp
end
end Lw
namespace Lw
open PySem PySem.Spec PyProof PyProof.Rows L2 Gd Fr
open scoped Rat
section
variable {b p : Nat} {low : Int} (h2 : 2 ≤ b) (hp : 2 ≤ p)
include h2 hp
end
end Lw
namespace Lw
open PySem PySem.Spec PyProof PyProof.Rows L2 Gd Fr
open scoped Rat
section
variable {b p : Nat} {low high : Int} (F : FmR b p low high)
include F
end
end Lw
namespace Lw
open PySem PySem.Spec PyProof PyProof.Rows L2 Gd Fr
open scoped Rat
end Lw
set_option exponentiation.threshold 200000
namespace Lw
open PySem PySem.Spec PyProof PyProof.Rows L2 Gd Fr
open scoped Rat
theorem strip_eq {q : Nat} (hq : 2 ≤ q) : ∀ (f d : Nat), 0 < d → d ≤ f → d = (stripN q f d).1 * q ^ (stripN q f d).2 ∧ ¬ (stripN q f d).1 % q = 0
  | 0, d, h, hf => by omega
  | f + 1, d, h, hf => by
    unfold stripN
    by_cases z : d % q = 0
    · rw [if_pos z]
      have dq : d = d / q * q := (Nat.div_mul_cancel (Nat.dvd_of_mod_eq_zero z)).symm
      have p0 : 0 < d / q := Nat.div_pos (Nat.le_of_dvd h (Nat.dvd_of_mod_eq_zero z)) (by omega)
      have lt : d / q < d := Nat.div_lt_self h (by omega)
      obtain ⟨e1, e2⟩ := strip_eq hq f (d / q) p0 (by omega)
      refine ⟨?_, e2⟩
      dsimp only
      rw [Nat.pow_succ, ← Nat.mul_assoc, ← e1]; exact dq
    · rw [if_neg z]
      exact ⟨by rw [Nat.pow_zero, Nat.mul_one], z⟩
end Lw
namespace Lw
open PySem PySem.Spec PyProof PyProof.Rows L2 Gd Fr
open scoped Rat
section
variable {b p : Nat} {low high : Int} (F : FmR b p low high)
include F
end
end Lw
namespace Lw
open PySem PySem.Spec PyProof PyProof.Rows L2 Gd Fr
open scoped Rat
section
variable {b p : Nat} {low high : Int} (F : FmR b p low high)
include F
end
end Lw
set_option exponentiation.threshold 200000
namespace Lw
open PySem PySem.Spec PyProof PyProof.Rows L2 Gd Fr
open scoped Rat
def flQ (x : Rat) : Int := x.num / (x.den : Int)
def ceQ (x : Rat) : Int := -((-x.num) / (x.den : Int))
theorem le_fl {z : Int} {x : Rat} : z ≤ flQ x ↔ (z : Rat) ≤ x := by
  have dp := den_pos x
  have dq : (0 : Rat) < ((x.den : Int) : Rat) := by exact_mod_cast dp
  have hn := num_den x
  unfold flQ
  rw [Int.le_ediv_iff_mul_le dp, ← cast_le, Rat.intCast_mul, ← hn]
  exact ⟨fun h => Rat.le_of_mul_le_mul_right h dq, fun h => Rat.mul_le_mul_of_nonneg_right h (Rat.le_of_lt dq)⟩
theorem ce_le {z : Int} {x : Rat} : ceQ x ≤ z ↔ x ≤ (z : Rat) := by
  have h := le_fl (z := -z) (x := -x)
  unfold flQ at h
  rw [Rat.neg_num, Rat.neg_den] at h
  unfold ceQ
  have e : ((-z : Int) : Rat) = -(z : Rat) := Rat.intCast_neg z
  rw [e] at h
  constructor
  · intro k
    have := h.mp (by omega)
    grind
  · intro k
    have := h.mpr (by grind)
    omega
def fsQ (lo : Rat) (k : Bool) (e : Int) : Int := if k = true then ceQ (lo / pw 10 e) else flQ (lo / pw 10 e) + 1
def lsQ (hi : Rat) (k : Bool) (e : Int) : Int := if k = true then flQ (hi / pw 10 e) else ceQ (hi / pw 10 e) - 1
theorem div_ten {x y : Rat} (e : Int) : (x / pw 10 e ≤ y ↔ x ≤ y * pw 10 e) ∧ (y ≤ x / pw 10 e ↔ y * pw 10 e ≤ x) := by
  have pe := pw_pos (b := 10) (by decide) e
  have h : x / pw 10 e * pw 10 e = x := Rat.div_mul_cancel (ten_ne e)
  constructor
  · constructor
    · intro z; have := Rat.mul_le_mul_of_nonneg_right z (Rat.le_of_lt pe); rwa [h] at this
    · intro z; exact Rat.le_of_mul_le_mul_right (by rw [h]; exact z) pe
  · constructor
    · intro z; have := Rat.mul_le_mul_of_nonneg_right z (Rat.le_of_lt pe); rwa [h] at this
    · intro z; exact Rat.le_of_mul_le_mul_right (by rw [h]; exact z) pe
theorem mem_ms {lo hi : Rat} {k : Bool} {e q : Int} (lh : lo < hi) : (fsQ lo k e ≤ q ∧ q ≤ lsQ hi k e) ↔ inSt lo hi k ((q : Rat) * pw 10 e) = true := by
  unfold fsQ lsQ inSt
  rw [decide_eq_true_iff]
  cases k with
  | true =>
    rw [if_pos rfl, if_pos rfl, ce_le, le_fl, (div_ten e).1, (div_ten e).2]
    generalize (q : Rat) * pw 10 e = v
    constructor
    · rintro ⟨a, b⟩; exact .inr ⟨rfl, a, b⟩
    · rintro (⟨a, b⟩ | ⟨_, a, b⟩)
      · exact ⟨Rat.le_of_lt a, Rat.le_of_lt b⟩
      · exact ⟨a, b⟩
  | false =>
    rw [if_neg (by decide), if_neg (by decide)]
    have h1 : flQ (lo / pw 10 e) + 1 ≤ q ↔ lo < (q : Rat) * pw 10 e := by
      have : flQ (lo / pw 10 e) + 1 ≤ q ↔ ¬ q ≤ flQ (lo / pw 10 e) := by omega
      rw [this, le_fl, (div_ten e).2, Rat.not_le]
    have h2 : q ≤ ceQ (hi / pw 10 e) - 1 ↔ (q : Rat) * pw 10 e < hi := by
      have : q ≤ ceQ (hi / pw 10 e) - 1 ↔ ¬ ceQ (hi / pw 10 e) ≤ q := by omega
      rw [this, ce_le, (div_ten e).1, Rat.not_le]
    rw [h1, h2]
    exact ⟨fun h => .inl h, fun h => h.resolve_right fun z => Bool.noConfusion z.1⟩
theorem st_conv {lo hi x y z : Rat} {k : Bool} (hx : inSt lo hi k x = true) (hz : inSt lo hi k z = true) (h1 : x ≤ y) (h2 : y ≤ z) : inSt lo hi k y = true := by
  unfold inSt at *
  rw [decide_eq_true_iff] at *
  rcases hx with ⟨a1, a2⟩ | ⟨a0, a1, a2⟩
  · rcases hz with ⟨b1, b2⟩ | ⟨b0, b1, b2⟩
    · left; constructor <;> grind
    · right; exact ⟨b0, by grind, by grind⟩
  · right; refine ⟨a0, by grind, ?_⟩
    rcases hz with ⟨b1, b2⟩ | ⟨b0, b1, b2⟩ <;> grind
def hasM (lo hi : Rat) (k : Bool) (e : Int) : Prop := ∃ q : Int, inSt lo hi k ((q : Rat) * pw 10 e) = true
theorem hasM_iff {lo hi : Rat} {k : Bool} {e : Int} (lh : lo < hi) : hasM lo hi k e ↔ fsQ lo k e ≤ lsQ hi k e := by
  constructor
  · rintro ⟨q, hq⟩; have := (mem_ms lh).mpr hq; omega
  · intro h; exact ⟨fsQ lo k e, (mem_ms lh).mp ⟨Int.le_refl _, h⟩⟩
theorem has_down {lo hi : Rat} {k : Bool} {e e' : Int} (h : hasM lo hi k e) (he : e' ≤ e) : hasM lo hi k e' := by
  obtain ⟨q, hq⟩ := h
  refine ⟨q * ((10 ^ (e - e').toNat : Nat) : Int), ?_⟩
  have : ((q * ((10 ^ (e - e').toNat : Nat) : Int) : Int) : Rat) * pw 10 e' = (q : Rat) * pw 10 e := by
    rw [Rat.intCast_mul, Rat.intCast_natCast, ← pw_nat, Rat.mul_assoc, ← pw_add (by decide)]
    congr 2; omega
  rw [this]; exact hq
def shE (w : Rat) (G : Int) : Int := if w < pw 10 G then G - 1 else G
def shX (lo hi w : Rat) (k : Bool) (E : Int) : Int := min (max (ceQ (w / pw 10 E - 1 / 2)) (fsQ lo k E)) (lsQ hi k E)
theorem dl_iff {n m : Nat} (hm : 0 < m) : dl n ≤ m ↔ n < 10 ^ m := Nat.length_repr_le_iff hm
section
variable {lo hi w : Rat} {k : Bool} {G : Int} (l0 : 0 < lo) (lw : lo < w) (wh : w < hi) (hG : hasM lo hi k G) (hG1 : ¬ hasM lo hi k (G + 1))
include l0 lw wh hG
theorem w_in : inSt lo hi k w = true := by unfold inSt; exact decide_eq_true (.inl ⟨lw, wh⟩)
theorem sh_le {E : Int} {N : Int} (hN : w ≤ (N : Rat) * pw 10 E) (hE : hasM lo hi k E) : shX lo hi w k E ≤ N := by
  have lh : lo < hi := ltle lw (Rat.le_of_lt wh)
  have wi := w_in l0 lw wh hG
  have near : ceQ (w / pw 10 E - 1 / 2) ≤ N := by
    rw [ce_le]
    have := (div_ten (x := w) (y := (N : Rat)) E).1.mpr hN
    grind
  have fs : fsQ lo k E ≤ N := by
    refine Int.not_lt.mp fun z => ?_
    have hf := (hasM_iff lh).mp hE
    have m := (mem_ms (q := fsQ lo k E) lh).mp ⟨Int.le_refl _, hf⟩
    have le : (N : Rat) * pw 10 E ≤ (fsQ lo k E : Rat) * pw 10 E := Rat.mul_le_mul_of_nonneg_right (cast_le.mpr (by omega)) (Rat.le_of_lt (pw_pos (by decide) E))
    have := (mem_ms lh).mpr (st_conv wi m hN le)
    omega
  unfold shX
  omega
include hG1
end
end Lw
namespace Lw
open PySem PySem.Spec PyProof PyProof.Rows L2 Gd Fr
open scoped Rat
section
variable {b p : Nat} {low high s c e : Int} (F : FmR b p low high) (N : NumC b p low high s c e)
include F N
end
end Lw
set_option exponentiation.threshold 200000
namespace Lw
open PySem PySem.Spec PyProof PyProof.Rows L2 Gd Fr
open scoped Rat
section
variable {b p : Nat} {low high s c e : Int} (F : FmR b p low high) (N : NumC b p low high s c e)
include F N
end
end Lw
namespace Lw
open PySem PySem.Spec PyProof PyProof.Rows L2 Gd Fr
open scoped Rat
end Lw
set_option exponentiation.threshold 200000
namespace Lw
open PySem PySem.Spec PyProof PyProof.Rows L2 Gd Fr
open scoped Rat
structure AsW (b p' : Nat) (low' c e : Int) (j : Nat) : Prop where
  h1 : ∀ i, i < j → c * ((b ^ i : Nat) : Int) < ((b ^ (p' - 1) : Nat) : Int) ∧ low' < e - i
  h2 : ¬ (c * ((b ^ j : Nat) : Int) < ((b ^ (p' - 1) : Nat) : Int) ∧ low' < e - j)
section
variable {b p : Nat} {low high : Int} {p' : Nat} {low' s c e : Int} {j : Nat} (F : FmR b p low high) (W : FmR b p' low' high) (N : NumC b p low high s c e) (hp : p < p') (hl : low' ≤ low) (h : AsW b p' low' c e j)
include F W N hp hl h
end
end Lw
namespace Lw
open PySem PySem.Spec PyProof PyProof.Rows L2 Gd Fr
open scoped Rat
end Lw
namespace Gd
open PySem PySem.Spec PyProof.Rows L2
section
variable {X : Cx} {i : Nat} {Γ : List VD} {B B1 B2 B3 B' : Bag} {acc ds : List PyData} {e e2 a b c : Expr} {d da db : VD} {y y1 y2 y3 : PyData} {pos p p1 p2 p3 pos' px : Pos} {rest ss s1 s2 : List Stmt} {E : EnO}
end
end Gd
set_option exponentiation.threshold 200000
namespace Lw
open PySem PySem.Spec PyProof PyProof.Rows L2 Gd Fr
open scoped Rat
section
variable {lo hi w : Rat} {k : Bool} {G t : Int} (l0 : 0 < lo) (lw : lo < w) (wh : w < hi) (hG : hasM lo hi k G) (hG1 : ¬ hasM lo hi k (G + 1)) (t1 : pw 10 t ≤ w) (t2 : w < pw 10 (t + 1))
include l0 lw wh hG
theorem sh_fl {E : Int} (hE : hasM lo hi k E) : shX lo hi w k E = flQ (w / pw 10 E) ∨ shX lo hi w k E = flQ (w / pw 10 E) + 1 := by
  have lh : lo < hi := ltle lw (Rat.le_of_lt wh)
  have hf := (hasM_iff lh).mp hE
  have wi := w_in l0 lw wh hG
  have f1 : (flQ (w / pw 10 E) : Rat) * pw 10 E ≤ w := (div_ten E).2.mp (le_fl.mp (Int.le_refl _))
  have f2 : w ≤ ((flQ (w / pw 10 E) + 1 : Int) : Rat) * pw 10 E := by
    have : ¬ (flQ (w / pw 10 E) + 1 ≤ flQ (w / pw 10 E)) := by omega
    rw [le_fl, (div_ten E).2, Rat.not_le] at this
    exact Rat.le_of_lt this
  have up := sh_le l0 lw wh hG f2 hE
  have n1 : flQ (w / pw 10 E) ≤ ceQ (w / pw 10 E - 1 / 2) := by
    refine Int.not_lt.mp fun z => ?_
    have a : w / pw 10 E - 1 / 2 ≤ (ceQ (w / pw 10 E - 1 / 2) : Rat) := ce_le.mp (Int.le_refl _)
    have b := cast_le.mpr (show ceQ (w / pw 10 E - 1 / 2) + 1 ≤ flQ (w / pw 10 E) by omega)
    rw [cast_s] at b
    have c : (flQ (w / pw 10 E) : Rat) ≤ w / pw 10 E := le_fl.mp (Int.le_refl _)
    grind
  have n2 : flQ (w / pw 10 E) ≤ lsQ hi k E := by
    refine Int.not_lt.mp fun z => ?_
    have m := (mem_ms (q := lsQ hi k E) lh).mp ⟨hf, Int.le_refl _⟩
    have le : (lsQ hi k E : Rat) * pw 10 E ≤ (flQ (w / pw 10 E) : Rat) * pw 10 E := Rat.mul_le_mul_of_nonneg_right (cast_le.mpr (by omega)) (Rat.le_of_lt (pw_pos (by decide) E))
    have := (mem_ms lh).mpr (st_conv m wi le f1)
    omega
  have dn : flQ (w / pw 10 E) ≤ shX lo hi w k E := by unfold shX; omega
  omega
include hG1 t1 t2
theorem great_le {e : Int} (h : hasM lo hi k e) : e ≤ G := Int.not_lt.mp fun z => hG1 (has_down h (by omega))
theorem sh_end (h2 : hi ≤ w * 2) : shE w G ≤ t ∧ ∀ M : Nat, 1 ≤ M → hasM lo hi k (t + 1 - M) → t + 1 - M ≤ shE w G := by
  unfold shE
  by_cases hw : w < pw 10 G
  · rw [if_pos hw]
    have g1 : t < G := Int.not_le.mp fun z => absurd (ltle hw (pw_mono (by decide) z)) (Rat.not_lt.mpr t1)
    have g2 : G < t + 2 := by
      obtain ⟨q, hq⟩ := hG
      have pe := pw_pos (b := 10) (by decide) G
      have bnd : lo ≤ (q : Rat) * pw 10 G ∧ (q : Rat) * pw 10 G ≤ hi := by
        unfold inSt at hq
        rw [decide_eq_true_iff] at hq
        rcases hq with ⟨a, b⟩ | ⟨_, a, b⟩
        · exact ⟨Rat.le_of_lt a, Rat.le_of_lt b⟩
        · exact ⟨a, b⟩
      have q1 : 1 ≤ q := by
        refine Int.not_lt.mp fun z => ?_
        have : (q : Rat) * pw 10 G ≤ ((0 : Int) : Rat) * pw 10 G := Rat.mul_le_mul_of_nonneg_right (cast_le.mpr (by omega)) (Rat.le_of_lt pe)
        rw [Rat.intCast_zero, Rat.zero_mul] at this
        grind
      have : ((1 : Int) : Rat) * pw 10 G ≤ (q : Rat) * pw 10 G := Rat.mul_le_mul_of_nonneg_right (cast_le.mpr q1) (Rat.le_of_lt pe)
      rw [show ((1 : Int) : Rat) = 1 from rfl, Rat.one_mul] at this
      refine Int.not_le.mp fun z => ?_
      have m := pw_mono (b := 10) (by decide) z
      have e10 : pw 10 (t + 2) = pw 10 (t + 1) * 10 := by
        have : (10 : Rat) = pw 10 ((1 : Nat) : Int) := by rw [pw_nat]; rfl
        rw [this, ← pw_add (by decide)]; congr 1; omega
      rw [e10] at m
      have pt := pw_pos (b := 10) (by decide) (t + 1)
      grind
    exact ⟨by omega, fun M h1 _ => by omega⟩
  · rw [if_neg hw]
    have gt : G ≤ t := Int.not_lt.mp fun z => hw (ltle t2 (pw_mono (by decide) (by omega)))
    exact ⟨gt, fun M _ hM => great_le l0 lw wh hG hG1 t1 t2 hM⟩
end
end Lw
set_option exponentiation.threshold 200000
namespace Lw
open PySem PySem.Spec PyProof PyProof.Rows L2 Gd Fr
open scoped Rat
def dsE (w : Rat) (x : Int × Int) : Rat := absQ ((x.1 : Rat) * pw 10 x.2 - w)
structure Cand (lo hi w : Rat) (k : Bool) (t : Int) (M : Nat) (x : Int × Int) : Prop where
  q0 : 0 < x.1
  qM : x.1 ≤ ((10 ^ M : Nat) : Int)
  ins : inSt lo hi k ((x.1 : Rat) * pw 10 x.2) = true
  mul : ∃ z : Int, (x.1 : Rat) * pw 10 x.2 = (z : Rat) * pw 10 (t + 1 - M)
  a1 : t - M ≤ x.2
  a2 : x.2 ≤ t + 2 - M
  b1 : Bd 20000 (dsE w x).num
  b2 : Bd 20000 ((dsE w x).den : Int)
structure ShC (lo hi w : Rat) (k : Bool) (G t : Int) (M0 : Nat) (X E : Int) : Prop where
  l0 : 0 < lo
  lw : lo < w
  wh : w < hi
  hG : hasM lo hi k G
  hG1 : ¬ hasM lo hi k (G + 1)
  t1 : pw 10 t ≤ w
  t2 : w < pw 10 (t + 1)
  h2 : hi ≤ w * 2
  hE : E = shE w G
  hX : X = shX lo hi w k E
  hM : (M0 : Int) = t + 1 - E
section
variable {lo hi w : Rat} {k : Bool} {G t : Int} {M0 : Nat} {X E : Int} (C : ShC lo hi w k G t M0 X E)
include C
theorem ShC.m1 : 1 ≤ M0 := by
  have := (sh_end C.l0 C.lw C.wh C.hG C.hG1 C.t1 C.t2 C.h2).1
  have h1 := C.hM; have h2 := C.hE
  omega
theorem ShC.he : hasM lo hi k E := by
  rw [C.hE]
  exact has_down C.hG (by unfold shE; split <;> omega)
theorem ShC.ge {m : Nat} {x : Int × Int} (h1 : 1 ≤ m) (h : Cand lo hi w k t m x) : M0 ≤ m := by
  obtain ⟨z, hz⟩ := h.mul
  have hm : hasM lo hi k (t + 1 - m) := ⟨z, by rw [← hz]; exact h.ins⟩
  have := (sh_end C.l0 C.lw C.wh C.hG C.hG1 C.t1 C.t2 C.h2).2 m h1 hm
  have h1 := C.hM; have h2 := C.hE
  omega
theorem ShC.fl : X = flQ (w / pw 10 E) ∨ X = flQ (w / pw 10 E) + 1 := by
  rw [C.hX]; exact sh_fl C.l0 C.lw C.wh C.hG C.he
end
end Lw
namespace Lw
open PySem PySem.Spec PyProof PyProof.Rows L2 Gd Fr
open scoped Rat
end Lw
namespace Gd
open PySem PySem.Spec PyProof.Rows L2
section
variable {X : Cx} {Γ : List VD} {B B1 B2 B' : Bag} {e a b c : Expr} {d : VD} {pos p apos px : Pos} {rest s1 : List Stmt} {E : En} {x z : Str}
theorem ej_find (ha : EJ X Γ B a (.da (.str x)) B1) (hb : EJ X Γ B1 b (.da (.str z)) B2)
    (hs : starEach [b] X.env = [(false, eval b X.env)] := by rfl) (hbase : attributeBase a "find" X.env (eval a X.env) = eval a X.env := by rfl) (hline : (apos.endLine == pos.line) = true := by rfl) :
    EJ X Γ B (.Call (.Attribute a "find" apos) [b] [] pos) (.da (.int (Txt.find x z))) B2 := fun g σ H0 H Ev O Q q =>
  ⟨_, pe_m1 F.slot_str_find F.type_str_find mt_find (we a) (we b) hs hbase hline, ha g σ H0 H Ev O _ fun v H1 H' t o r => by
    obtain rfl := rvS r
    exact ⟨⟨_, rfl⟩, hb g σ H1 H' (Ev.mono t.ex) o _ fun w H2 H'' t2 o2 r2 => by
      obtain rfl := rvS r2
      exact ⟨_, _, rfl, rfl, q _ _ _ (t.trans t2) o2 (Rp.int _)⟩⟩⟩
theorem ej_startswith (ha : EJ X Γ B a (.da (.str x)) B1) (hb : EJ X Γ B1 b (.da (.str z)) B2)
    (hs : starEach [b] X.env = [(false, eval b X.env)] := by rfl) (hbase : attributeBase a "startswith" X.env (eval a X.env) = eval a X.env := by rfl) (hline : (apos.endLine == pos.line) = true := by rfl) :
    EJ X Γ B (.Call (.Attribute a "startswith" apos) [b] [] pos) (.da (.bool (Txt.startswith x z))) B2 := fun g σ H0 H Ev O Q q =>
  ⟨_, pe_m1 F.slot_str_startswith F.type_str_startswith mt_startswith (we a) (we b) hs hbase hline, ha g σ H0 H Ev O _ fun v H1 H' t o r => by
    obtain rfl := rvS r
    exact ⟨⟨_, rfl⟩, hb g σ H1 H' (Ev.mono t.ex) o _ fun w H2 H'' t2 o2 r2 => by
      obtain rfl := rvS r2
      exact ⟨_, _, rfl, rfl, q _ _ _ (t.trans t2) o2 (Rp.bl _)⟩⟩⟩
theorem ej_partition (ha : EJ X Γ B a (.da (.str x)) B1) (hb : EJ X Γ B1 b (.da (.str z)) B2) (hz : (z.length == 0) = false) (hx : x.length ≤ sizeLine)
    (hs : starEach [b] X.env = [(false, eval b X.env)] := by rfl) (hbase : attributeBase a "partition" X.env (eval a X.env) = eval a X.env := by rfl) (hline : (apos.endLine == pos.line) = true := by rfl) :
    EJ X Γ B (.Call (.Attribute a "partition" apos) [b] [] pos) (.da (.tuple [.str (Txt.partition x z).1, .str (Txt.partition x z).2.1, .str (Txt.partition x z).2.2])) B2 := fun g σ H0 H Ev O Q q =>
  ⟨_, pe_partition (we a) (we b) hs hbase hline, ha g σ H0 H Ev O _ fun v H1 H' t o r => by
    obtain rfl := rvS r
    exact ⟨⟨_, rfl⟩, hb g σ H1 H' (Ev.mono t.ex) o _ fun w H2 H'' t2 o2 r2 => by
      obtain rfl := rvS r2
      refine ⟨_, _, rfl, rfl, hz, hx, fun p n => ?_⟩
      obtain ⟨t3, o3⟩ := laid (o := .tup [.str (Txt.partition x z).1, .str (Txt.partition x z).2.1, .str (Txt.partition x z).2.2]) o2 n
      exact q _ _ _ ((t.trans t2).trans t3) o3 (Rp.tup (SqT.of upd_same) (.cons (.str _) (.cons (.str _) (.cons (.str _) .nil))))⟩⟩
end
theorem for_str {x : Str} {g : TG} {tb : TS} {D : Ends} {σ : L2.St} {H : Hp} (Pv : Nat → L2.St → Hp → Prop) (h0 : Pv 0 σ H)
    (hs : ∀ i c σ H, x.cps[i]? = some c → Pv i σ H → g (.str ⟨#[c]⟩) σ H fun σ2 H2 => tb { D with nx := Pv (i + 1), ct := Pv (i + 1), bk := D.nx } σ2 H2) (hd : ∀ σ H, Pv x.cps.size σ H → D.nx σ H) :
    ∃ W : Nat → Nat → L2.St → Hp → Prop, (∃ m, W 0 m σ H) ∧ ∀ i m σ H, W i m σ H →
      ((Its x).stop i H ∧ D.nx σ H) ∨ ((Its x).go i H ∧ ∃ N : L2.St → Hp → Prop, (∀ σ' H', N σ' H' → ∃ m', m' < m ∧ W (i + 1) m' σ' H') ∧ ∀ v H', (Its x).yld i H v H' → g v σ H' fun σ2 H2 => tb { D with nx := N, ct := N, bk := D.nx } σ2 H2) := by
  refine ⟨fun i m σ H => m = x.cps.size - i ∧ i ≤ x.cps.size ∧ Pv i σ H, ⟨x.cps.size, by simp, Nat.zero_le _, h0⟩, ?_⟩
  rintro i m σ H ⟨rfl, hi, p⟩
  by_cases hlt : i < x.cps.size
  · refine .inr ⟨hlt, Pv (i + 1), fun σ' H' p' => ⟨x.cps.size - (i + 1), by omega, rfl, hlt, p'⟩, fun v H' y => ?_⟩
    obtain ⟨e, c, hc, ev⟩ := y
    subst e
    subst ev
    exact hs i c σ _ hc p
  · have e : i = x.cps.size := by omega
    subst e
    exact .inl ⟨Nat.le_refl _, hd σ H p⟩
section
variable {X : Cx} {Γ : List VD} {B B1 B2 B' : Bag} {e a b c : Expr} {pos p apos px : Pos} {rest s1 : List Stmt} {E : En} {x z : Str}
theorem sj_forS (j : Nat) {xn : Str} {px : Pos} (nd : X.N.Nodup) (hc : X.calm = true) (P : Nat → List VD → Bag → Prop) (hi : EJ X Γ B e (.da (.str z)) B1) (h0 : P 0 Γ B1)
    (hs : ∀ i c Γ' B', z.cps[i]? = some c → P i Γ' B' → SJ X (Γ'.set j (.da (.str ⟨#[c]⟩))) B' s1 { nx := P (i + 1), ct := P (i + 1), bk := fun Γ' B' => SJ X Γ' B' rest E, rt := E.rt })
    (hd : ∀ Γ' B', P z.cps.size Γ' B' → SJ X Γ' B' rest E) (hN : X.N[j]? = some xn := by rfl) (hx : Loc X.env.scope xn := by first | exact Or.inl rfl | exact Or.inr rfl)
    (hf : X.fn xn = true ∨ X.env.scope.names.lookup xn = some .local := by first | exact Or.inl rfl | exact Or.inr rfl)
    (hp : PassesOwn (model X.prog X.w) X.A X.env X.xe := by exact PassesOwn.never) (hq : ∀ x, foldedSetIterable e X.env x = pure x := by intro _; rfl) :
    SJ X Γ B (.For (.Name xn px) e s1 [] pos :: rest) E := fun g σ H0 H Ev O D G =>
  ⟨_, pss_cons (ps_for hp hc (pi_str (we e)) (pg_name nd hN hx hf) (ws s1) hq) (ws rest), hi g σ H0 H Ev O _ fun v H1 H' t o r => by
    obtain rfl := rvS r
    refine ⟨_, rfl, ?_⟩
    refine for_str (fun i σ' H'' => ∃ Γ' B' H2, P i Γ' B' ∧ To g H1 H' H2 H'' ∧ EnvD X.K g H2 σ' Γ' ∧ On X.K g B' H2 H'') ⟨Γ, B1, H1, h0, To.refl, Ev.mono t.ex, o⟩ ?_ ?_
    · rintro i c σ' H'' hy ⟨Γ', B', H2, hP, t2, e2, o2⟩
      refine hs i c Γ' B' hy hP g _ H2 H'' (e2.set j (d := .da (.str ⟨#[c]⟩)) (Rp.str _)) o2 _ ⟨?_, ?_, ?_, ?_⟩
      · intro Γ3 B3 σ3 H3 H3' q t3 e3 o3
        exact ⟨Γ3, B3, H3, q, t2.trans t3, e3, o3⟩
      · intro r B3 v H3 H3' q t3 o3 rv
        exact (G.on (t.trans t2)).rt r B3 v H3 H3' q t3 o3 rv
      · intro Γ3 B3 σ3 H3 H3' q t3 e3 o3
        exact q g σ3 H3 H3' e3 o3 D (G.on ((t.trans t2).trans t3))
      · intro Γ3 B3 σ3 H3 H3' q t3 e3 o3
        exact ⟨Γ3, B3, H3, q, t2.trans t3, e3, o3⟩
    · rintro σ' H'' ⟨Γ', B', H2, hP, t2, e2, o2⟩
      exact hd Γ' B' hP g σ' H2 H'' e2 o2 D (G.on (t.trans t2))⟩
end
end Gd
set_option exponentiation.threshold 200000
namespace Lw
open PySem PySem.Spec PyProof PyProof.Rows L2 Gd Fr
def digV (l : List Nat) : Nat := l.foldl (fun n c => n * 10 + (c - 48)) 0
def isDs (l : List Nat) : Prop := ∀ c ∈ l, 48 ≤ c ∧ c ≤ 57
theorem str_ext {x y : Str} (h : x.cps.toList = y.cps.toList) : x = y := by
  cases x; cases y; exact congrArg Str.mk (Array.toList_inj.mp h)
theorem tl_app (a y : Str) : (a ++ y).cps.toList = a.cps.toList ++ y.cps.toList := by rw [PySem.Str.cps_append, Array.toList_append]
theorem digV_snoc (l : List Nat) (c : Nat) : digV (l ++ [c]) = digV l * 10 + (c - 48) := by unfold digV; rw [List.foldl_append]; rfl
theorem digV_from (l : List Nat) : ∀ n : Nat, l.foldl (fun n c => n * 10 + (c - 48)) n = n * 10 ^ l.length + digV l := by
  induction l with
  | nil => intro n; simp [digV]
  | cons c l ih =>
    intro n
    unfold digV
    rw [List.foldl_cons, List.foldl_cons, ih, ih (0 * 10 + (c - 48)), List.length_cons, Nat.pow_succ]
    rw [Nat.zero_mul, Nat.zero_add, Nat.add_mul, Nat.mul_assoc, Nat.mul_comm 10, Nat.add_assoc]
theorem digV_app (l r : List Nat) : digV (l ++ r) = digV l * 10 ^ r.length + digV r := by
  unfold digV
  rw [List.foldl_append]
  exact digV_from r _
theorem digV_cons (c : Nat) (l : List Nat) : digV (c :: l) = (c - 48) * 10 ^ l.length + digV l := by
  rw [show c :: l = [c] ++ l from rfl, digV_app]
  show (0 * 10 + (c - 48)) * 10 ^ l.length + digV l = _
  rw [Nat.zero_mul, Nat.zero_add]
theorem digV_zeros (n : Nat) (l : List Nat) : digV (List.replicate n 48 ++ l) = digV l := by
  induction n with
  | zero => rfl
  | succ n ih => rw [List.replicate_succ, List.cons_append, digV_cons, ih]; simp
theorem digV_lt {l : List Nat} (h : isDs l) : digV l < 10 ^ l.length := by
  induction l with
  | nil => decide
  | cons c l ih =>
    rw [digV_cons, List.length_cons, Nat.pow_succ]
    have a := ih (fun d hd => h d (List.mem_cons_of_mem _ hd))
    have b := h c (List.mem_cons_self ..)
    have k : (c - 48) * 10 ^ l.length ≤ 9 * 10 ^ l.length := Nat.mul_le_mul_right _ (by omega)
    omega
theorem isDs_app {l r : List Nat} (h : isDs l) (g : isDs r) : isDs (l ++ r) := fun c hc => (List.mem_append.mp hc).elim (h c) (g c)
theorem isDs_zeros (n : Nat) : isDs (List.replicate n 48) := fun c hc => by
  have := (List.mem_replicate.mp hc).2
  omega
theorem isDs_sub {l r : List Nat} (h : isDs l) (s : ∀ c ∈ r, c ∈ l) : isDs r := fun c hc => h c (s c hc)
def numT (m : Nat) : Str := (toString (m : Int) : Str)
theorem numT_tl (m : Nat) : (numT m).cps.toList = (Nat.toDigits 10 m).map Char.toNat := by
  unfold numT
  show (PySem.Str.ofString (toString (m : Int))).cps.toList = _
  rw [PySem.Str.ofString_eq_toList]
  show ((toString (m : Int)).toList.map Char.toNat) = _
  rw [show toString (m : Int) = m.repr from rfl, Nat.toList_repr]
theorem numT_ds (m : Nat) : isDs (numT m).cps.toList := fun c hc => by
  rw [numT_tl] at hc
  obtain ⟨d, hd, rfl⟩ := List.mem_map.mp hc
  have h := Nat.isDigit_of_mem_toDigits (by decide) (by decide) hd
  simp only [Char.isDigit, Bool.and_eq_true, decide_eq_true_eq] at h
  obtain ⟨h1, h2⟩ := h
  have e1 : ('0' : Char).val.toNat = 48 := rfl
  have e2 : ('9' : Char).val.toNat = 57 := rfl
  have a := UInt32.le_iff_toNat_le.mp h1
  have b := UInt32.le_iff_toNat_le.mp h2
  exact ⟨a, b⟩
theorem numT_val (m : Nat) : digV (numT m).cps.toList = m := by
  rw [numT_tl]
  unfold digV
  rw [List.foldl_map]
  have h := Nat.ofDigitChars_ten_toDigits (n := m)
  rw [Nat.ofDigitChars_eq_foldl] at h
  have e : (fun (n : Nat) (c : Char) => n * 10 + (c.toNat - 48)) = fun sofar c => 10 * sofar + (c.toNat - '0'.toNat) := by
    funext n c
    rw [Nat.mul_comm]
    rfl
  rw [e]
  exact h
theorem numT_ne (m : Nat) : (numT m).cps.toList ≠ [] := by
  rw [numT_tl]
  intro h
  exact Nat.toDigits_ne_nil (List.map_eq_nil_iff.mp h)
theorem numT_len (m : Nat) : (numT m).cps.toList.length = dl m := by
  have h := dl_str m
  rw [← h]
  show _ = (numT m).cps.size
  exact Array.length_toList
def DIGS : Str := "0123456789abcdefghijklmnopqrstuvwxyz"
theorem digs_find {c : Nat} (h : 48 ≤ c ∧ c ≤ 57) : Txt.find DIGS ⟨#[c]⟩ = ((c - 48 : Nat) : Int) := by
  have : c = 48 ∨ c = 49 ∨ c = 50 ∨ c = 51 ∨ c = 52 ∨ c = 53 ∨ c = 54 ∨ c = 55 ∨ c = 56 ∨ c = 57 := by omega
  rcases this with rfl | rfl | rfl | rfl | rfl | rfl | rfl | rfl | rfl | rfl <;> decide +kernel
theorem starts1 (x : Str) (c : Nat) : Txt.startswith x ⟨#[c]⟩ = decide (x.cps.toList.head? = some c) := by
  unfold Txt.startswith
  rw [PySem.StrLaws.subAt_eq, List.drop_zero]
  have l1 : (⟨#[c]⟩ : Str).length = 1 := rfl
  have lx : x.length = x.cps.toList.length := Array.length_toList.symm
  rw [l1, lx]
  generalize x.cps.toList = l
  cases l with
  | nil => rfl
  | cons d l =>
    show (decide (0 + 1 ≤ l.length + 1) && ([d] == [c])) = decide (some d = some c)
    rw [decide_eq_true (by omega), Bool.true_and]
    by_cases h : d = c
    · subst h; simp
    · simp [h]
theorem cutS1 {x y : Str} {c : Nat} (h : x.cps.toList = c :: y.cps.toList) : cutS x (some 1) none = y := by
  refine str_ext ?_
  unfold cutS
  have lx : x.length = y.cps.toList.length + 1 := by
    have : x.length = x.cps.toList.length := Array.length_toList.symm
    rw [this, h, List.length_cons]
  have h1 : HT.sIx x.length 0 (some 1) = 1 := by
    rw [lx]
    unfold HT.sIx
    simp
    try omega
  have h2 : HT.sIx x.length x.length none = x.length := rfl
  rw [h1, h2, h, List.drop_succ_cons, List.drop_zero, lx]
  exact List.take_of_length_le (by omega)
end Lw
set_option exponentiation.threshold 200000
namespace Lw
open PySem PySem.Spec PyProof PyProof.Rows L2 Gd Fr
theorem s_minus : ("-" : Str) = ⟨#[45]⟩ := by decide +kernel
theorem s_plus : ("+" : Str) = ⟨#[43]⟩ := by decide +kernel
theorem s_e : ("e" : Str) = ⟨#[101]⟩ := by decide +kernel
theorem s_dot : ("." : Str) = ⟨#[46]⟩ := by decide +kernel
inductive Sgn : Str → Int → Str → Prop
  | minus (x y : Str) (h : x.cps.toList = 45 :: y.cps.toList) : Sgn x 1 y
  | plus (x y : Str) (h : x.cps.toList = 43 :: y.cps.toList) : Sgn x 0 y
  | none (x : Str) (h1 : x.cps.toList.head? ≠ some 45) (h2 : x.cps.toList.head? ≠ some 43) : Sgn x 0 x
inductive R_digin : Rel
  | mk (x : Str) (B : Bag) (h : isDs x.cps.toList) (hn : x.cps.toList ≠ []) (hl : x.cps.toList.length ≤ 4000) : R_digin [.da (.int 10), .da (.str x)] B (.int (digV x.cps.toList : Nat)) B
inductive R_psign : Rel
  | mk (x : Str) (s : Int) (y : Str) (B : Bag) (h : Sgn x s y) (hl : x.length ≤ sizeLine) : R_psign [.da (.str x)] B (.tuple [.int s, .str y]) B
inductive R_sint : Rel
  | mk (x : Str) (s : Int) (y : Str) (B : Bag) (h : Sgn x s y) (hl : x.length ≤ sizeLine) (hd : isDs y.cps.toList) (hn : y.cps.toList ≠ []) (hy : y.cps.toList.length ≤ 4000) :
      R_sint [.da (.str x)] B (.int (if s = 1 then -((digV y.cps.toList : Nat) : Int) else ((digV y.cps.toList : Nat) : Int))) B
inductive MT : Str → Str → Str → Prop
  | plain (A : Str) : MT A A Str.empty
  | dot (A D : Str) : MT (A ++ "." ++ D) A D
inductive ET (m : Str) : Str → Int → Prop
  | none : ET m m 0
  | e (p : Str) (s : Int) (y : Str) (h : Sgn p s y) (hl : p.length ≤ sizeLine) (hd : isDs y.cps.toList) (hn : y.cps.toList ≠ []) (hy : y.cps.toList.length ≤ 4000) :
      ET m (m ++ "e" ++ p) (if s = 1 then -((digV y.cps.toList : Nat) : Int) else ((digV y.cps.toList : Nat) : Int))
structure DecT (x : Str) (s : Int) (c : Nat) (e : Int) : Prop where
  ex : ∃ (u m A D : Str) (E : Int), Sgn x s u ∧ ET m u E ∧ MT m A D ∧ isDs A.cps.toList ∧ isDs D.cps.toList ∧ A.cps.toList ++ D.cps.toList ≠ [] ∧ c = digV (A.cps.toList ++ D.cps.toList) ∧ e = E - (D.cps.toList.length : Int) ∧ x.length ≤ 4000
inductive R_decof : Rel
  | mk (x : Str) (s : Int) (c : Nat) (e : Int) (B : Bag) (h : DecT x s c e) : R_decof [.da (.str x)] B (dcD s c e) B
theorem Sgn.s01 {x y : Str} {s : Int} (h : Sgn x s y) : s = 0 ∨ s = 1 := by cases h <;> simp
theorem len_tl (x : Str) : x.length = x.cps.toList.length := Array.length_toList.symm
theorem Sgn.len {x y : Str} {s : Int} (h : Sgn x s y) : y.cps.toList.length ≤ x.cps.toList.length := by
  cases h with
  | minus _ h => rw [h, List.length_cons]; omega
  | plus _ h => rw [h, List.length_cons]; omega
  | none _ _ => exact Nat.le_refl _
theorem no_of_ds {l : List Nat} (h : isDs l) {c : Nat} (hc : c < 48 ∨ 57 < c) : c ∉ l := fun z => by have := h c z; omega
theorem MT.tl {m A D : Str} (h : MT m A D) : (m.cps.toList = A.cps.toList ∧ D.cps.toList = []) ∨ m.cps.toList = A.cps.toList ++ 46 :: D.cps.toList := by
  cases h with
  | plain => left; exact ⟨rfl, rfl⟩
  | dot =>
    right
    rw [tl_app, tl_app, s_dot]
    show A.cps.toList ++ [46] ++ D.cps.toList = _
    rw [List.append_assoc]; rfl
theorem MT.no_e {m A D : Str} (h : MT m A D) (hA : isDs A.cps.toList) (hD : isDs D.cps.toList) : 101 ∉ m.cps.toList := by
  rcases h.tl with ⟨e, _⟩ | e
  · rw [e]; exact no_of_ds hA (.inr (by decide))
  · rw [e]
    intro z
    rcases List.mem_append.mp z with z | z
    · exact no_of_ds hA (.inr (by decide)) z
    · rcases List.mem_cons.mp z with z | z
      · exact absurd z (by decide)
      · exact no_of_ds hD (.inr (by decide)) z
theorem part_e {m p : Str} (h : 101 ∉ m.cps.toList) : Txt.partition (m ++ "e" ++ p) "e" = (m, ("e" : Str), p) := TL.partition_app (y := "e") (s := 101) (S := []) (by rw [s_e]) h
theorem part_e0 {m : Str} (h : 101 ∉ m.cps.toList) : Txt.partition m "e" = (m, Str.empty, Str.empty) := TL.partition_none (y := "e") (s := 101) (S := []) (by rw [s_e]) h
theorem part_dot {A D : Str} (h : 46 ∉ A.cps.toList) : Txt.partition (A ++ "." ++ D) "." = (A, ("." : Str), D) := TL.partition_app (y := ".") (s := 46) (S := []) (by rw [s_dot]) h
theorem part_dot0 {A : Str} (h : 46 ∉ A.cps.toList) : Txt.partition A "." = (A, Str.empty, Str.empty) := TL.partition_none (y := ".") (s := 46) (S := []) (by rw [s_dot]) h
theorem mt_part {m A D : Str} (h : MT m A D) (hA : isDs A.cps.toList) : ∃ z : Str, Txt.partition m "." = (A, z, D) := by
  cases h with
  | plain => exact ⟨_, part_dot0 (no_of_ds hA (.inl (by decide)))⟩
  | dot => exact ⟨_, part_dot (no_of_ds hA (.inl (by decide)))⟩
end Lw
namespace Lw
open PySem PySem.Spec PyProof PyProof.Rows L2 Gd Fr
theorem u_head {m u A D : Str} {E : Int} (h : ET m u E) (g : MT m A D) (hA : isDs A.cps.toList) (hn : A.cps.toList ++ D.cps.toList ≠ []) : ∃ c r, u.cps.toList = c :: r ∧ (c = 46 ∨ (48 ≤ c ∧ c ≤ 57)) := by
  have hm : ∃ c r, m.cps.toList = c :: r ∧ (c = 46 ∨ (48 ≤ c ∧ c ≤ 57)) := by
    rcases g.tl with ⟨e, e2⟩ | e
    · rw [e2, List.append_nil] at hn
      rw [e]
      cases hl : A.cps.toList with
      | nil => exact absurd hl hn
      | cons c r => exact ⟨c, r, rfl, .inr (hA c (by rw [hl]; exact List.mem_cons_self ..))⟩
    · rw [e]
      cases hl : A.cps.toList with
      | nil => exact ⟨46, _, rfl, .inl rfl⟩
      | cons c r => exact ⟨c, _, rfl, .inr (hA c (by rw [hl]; exact List.mem_cons_self ..))⟩
  obtain ⟨c, r, e, hc⟩ := hm
  cases h with
  | none => exact ⟨c, r, e, hc⟩
  | e p s y _ _ _ _ _ => exact ⟨c, r ++ ("e" : Str).cps.toList ++ p.cps.toList, by rw [tl_app, tl_app, e]; rfl, hc⟩
theorem dec_heads {x u : Str} {s : Int} (h : Sgn x s u) {c : Nat} {r : List Nat} (e : u.cps.toList = c :: r) (hc : c = 46 ∨ (48 ≤ c ∧ c ≤ 57)) : x ≠ ("nan" : Str) ∧ u ≠ ("inf" : Str) := by
  have n1 : ("nan" : Str).cps.toList = [110, 97, 110] := by decide +kernel
  have n2 : ("inf" : Str).cps.toList = [105, 110, 102] := by decide +kernel
  constructor
  · rintro rfl
    cases h with
    | minus _ h => rw [n1] at h; injection h with h _; omega
    | plus _ h => rw [n1] at h; injection h with h _; omega
    | none _ _ => rw [n1] at e; injection e with e _; omega
  · rintro rfl
    rw [n2] at e
    injection e with e _
    omega
inductive R_isfmt : Rel
  | mk (b p : Nat) (low high : Int) (B : Bag) (F : FmR b p low high) (h : b % 2 = 0 ∧ b ≤ 36) : R_isfmt [.da (fmP b p low high)] B (.bool true) B
inductive R_isway : Rel
  | mk (way : Str) (B : Bag) (h : way ∈ wayList) : R_isway [.da (.str way)] B (.bool true) B
inductive R_readT : Rel
  | mk (b p : Nat) (low high : Int) (way x : Str) (s : Int) (c : Nat) (e : Int) (B : Bag) (F : FmR b p low high) (hb : b % 2 = 0 ∧ b ≤ 36) (hw : way ∈ wayList) (h : DecT x s c e) (hc : Bd 8900 (c : Int)) (he : Bd 60 e) :
      R_readT [.da (fmP b p low high), .da (.str way), .da (.str x)] B (rdP b p low high way (dqQ s c e) s) B
end Lw
namespace Gd
open PySem PySem.Spec PyProof PyProof.Rows L2
section
variable {X : Cx} {Γ : List VD} {B B1 B2 B' : Bag} {e a b c : Expr} {pos : Pos} {x : Str} {n : Int}
theorem op_mul_str : OpR X (binaryOp .Mult) (fun x y H Q => ∃ a n, x = .str a ∧ y = .int n ∧ MulOk a n ∧ Q (.str (Txt.mul a n)) H) := by
  intro pins s σ H x y v u Q I rx ry h
  obtain ⟨a, n, rfl, rfl, hz, q⟩ := h
  obtain ⟨t, rfl⟩ := rx
  obtain ⟨t', rfl⟩ := ry
  exact PySem.SB.mul hz (fun t' k => ⟨.str _, H, I.tok _, ⟨_, rfl⟩, q⟩)
theorem ej_mulS (ha : EJ X Γ B a (.da (.str x)) B1) (hb : EJ X Γ B1 b (.da (.int n)) B2) (hm : MulOk x n) : EJ X Γ B (.BinOp a .Mult b pos) (.da (.str (Txt.mul x n))) B2 :=
  ej_bin ha hb (fun t u p q => pe_op op_mul_str p q) fun g v w H0 H O r1 r2 Q q => by
    obtain rfl := rvS r1
    obtain rfl := rvI r2
    exact ⟨_, _, rfl, rfl, hm, q _ _ _ To.refl O (Rp.str _)⟩
end
end Gd
set_option exponentiation.threshold 200000
namespace Lw
open PySem PySem.Spec PyProof PyProof.Rows L2 Gd Fr
theorem intT_neg {E : Int} (h : E < 0) : (toString E : Str).cps.toList = 45 :: (numT (-E).toNat).cps.toList := by
  obtain ⟨n, rfl⟩ : ∃ n : Nat, E = Int.negSucc n := ⟨(-E).toNat - 1, by omega⟩
  have e : (-(Int.negSucc n)).toNat = n + 1 := by omega
  rw [e]
  unfold numT
  show (PySem.Str.ofString (toString (Int.negSucc n))).cps.toList = 45 :: (PySem.Str.ofString (toString ((n + 1 : Nat) : Int))).cps.toList
  rw [PySem.Str.ofString_eq_toList, PySem.Str.ofString_eq_toList]
  show (toString (Int.negSucc n)).toList.map Char.toNat = 45 :: ((toString ((n + 1 : Nat) : Int)).toList.map Char.toNat)
  have e2 : toString (Int.negSucc n) = "-" ++ (n + 1).repr := rfl
  have e3 : toString ((n + 1 : Nat) : Int) = (n + 1).repr := rfl
  rw [e2, e3, String.toList_append, List.map_append]
  rfl
theorem intT_pos {E : Int} (h : 0 ≤ E) : (toString E : Str) = numT E.toNat := by
  unfold numT
  rw [show ((E.toNat : Nat) : Int) = E by omega]
theorem head_ds {l : List Nat} (h : isDs l) {c : Nat} (hc : c < 48 ∨ 57 < c) : l.head? ≠ some c := fun z => by
  cases l with
  | nil => cases z
  | cons a l =>
    have e : a = c := Option.some.inj z
    have := h a (List.mem_cons_self ..)
    omega
theorem exp_ok {E : Int} {sg : Str} (hs : (0 ≤ E ∧ (sg = ("" : Str) ∨ sg = ("+" : Str))) ∨ sg = ("" : Str)) :
    ∃ (s2 : Int) (y : Str), Sgn (sg ++ (toString E : Str)) s2 y ∧ isDs y.cps.toList ∧ y.cps.toList ≠ [] ∧ (if s2 = 1 then -((digV y.cps.toList : Nat) : Int) else ((digV y.cps.toList : Nat) : Int)) = E ∧ y.cps.toList.length = dl E.natAbs := by
  have t0 : ("" : Str).cps.toList = [] := by decide +kernel
  have t1 : ("+" : Str).cps.toList = [43] := by decide +kernel
  by_cases h : 0 ≤ E
  · have ep := intT_pos h
    have ne : E.natAbs = E.toNat := by omega
    by_cases hp : sg = ("+" : Str)
    · refine ⟨0, numT E.toNat, Sgn.plus _ _ (by rw [tl_app, hp, t1, ep]; rfl), numT_ds _, numT_ne _, ?_, by rw [numT_len, ne]⟩
      rw [if_neg (by decide), numT_val]; omega
    · have hq : sg = ("" : Str) := by
        rcases hs with ⟨_, h | h⟩ | h
        · exact h
        · exact absurd h hp
        · exact h
      have e : sg ++ (toString E : Str) = numT E.toNat := str_ext (by rw [tl_app, hq, t0, ep]; rfl)
      rw [e]
      refine ⟨0, numT E.toNat, Sgn.none _ (head_ds (numT_ds _) (.inl (by decide))) (head_ds (numT_ds _) (.inl (by decide))), numT_ds _, numT_ne _, ?_, by rw [numT_len, ne]⟩
      rw [if_neg (by decide), numT_val]; omega
  · have hq : sg = ("" : Str) := by
      rcases hs with ⟨h2, _⟩ | h2
      · exact absurd h2 h
      · exact h2
    refine ⟨1, numT (-E).toNat, Sgn.minus _ _ (by rw [tl_app, hq, t0, intT_neg (by omega)]; rfl), numT_ds _, numT_ne _, ?_, by rw [numT_len]; congr 1; omega⟩
    rw [if_pos rfl, numT_val]; omega
theorem mv_dec {s : Int} {S body sg A D : Str} {E : Int} (h01 : s = 0 ∨ s = 1) (hS : S.cps.toList = List.replicate s.toNat 45) (hb : MT body A D) (hA : isDs A.cps.toList) (hD : isDs D.cps.toList) (hn : A.cps.toList ++ D.cps.toList ≠ [])
    (hs : (0 ≤ E ∧ (sg = ("" : Str) ∨ sg = ("+" : Str))) ∨ sg = ("" : Str)) (hl : A.cps.toList.length + D.cps.toList.length ≤ 3000) (hE : dl E.natAbs ≤ 500) :
    DecT ((((S ++ body) ++ "e") ++ sg) ++ (toString E : Str)) s (digV (A.cps.toList ++ D.cps.toList)) (E - (D.cps.toList.length : Int)) := by
  obtain ⟨s2, y, h1, h2, h3, h4, h5⟩ := exp_ok hs
  have pl : (sg ++ (toString E : Str)).cps.toList.length ≤ 501 := by
    cases h1 with
    | minus _ h => rw [h, List.length_cons]; omega
    | plus _ h => rw [h, List.length_cons]; omega
    | none _ _ => omega
  have bl : body.cps.toList.length ≤ 3001 := by
    rcases hb.tl with ⟨e, e2⟩ | e
    · rw [e]; omega
    · rw [e, List.length_append, List.length_cons]; omega
  have ET1 : ET body (body ++ "e" ++ (sg ++ (toString E : Str))) E := by
    have := ET.e (m := body) (sg ++ (toString E : Str)) s2 y h1 (by rw [len_tl]; exact Nat.le_trans pl (by decide)) h2 h3 (by rw [h5]; omega)
    rw [h4] at this
    exact this
  obtain ⟨c0, r0, hu, hc0⟩ := u_head ET1 hb hA hn
  have e1 : (("e" : Str)).cps.toList = [101] := by rw [s_e]
  have tx : ((((S ++ body) ++ "e") ++ sg) ++ (toString E : Str)).cps.toList = List.replicate s.toNat 45 ++ (body ++ "e" ++ (sg ++ (toString E : Str))).cps.toList := by
    simp only [tl_app, hS, List.append_assoc]
  have lx : ((((S ++ body) ++ "e") ++ sg) ++ (toString E : Str)).length ≤ 4000 := by
    rw [len_tl, tx, List.length_append, List.length_replicate, tl_app, tl_app, e1, List.length_append, List.length_append]
    have : s.toNat ≤ 1 := by omega
    have : ([101] : List Nat).length = 1 := rfl
    omega
  refine ⟨⟨_, body, A, D, E, ?_, ET1, hb, hA, hD, hn, rfl, rfl, lx⟩⟩
  rcases h01 with rfl | rfl
  · have e : ((((S ++ body) ++ "e") ++ sg) ++ (toString E : Str)) = body ++ "e" ++ (sg ++ (toString E : Str)) := str_ext tx
    rw [e]
    refine Sgn.none _ ?_ ?_
    · rw [hu]; intro z; have : c0 = 45 := Option.some.inj z; omega
    · rw [hu]; intro z; have : c0 = 43 := Option.some.inj z; omega
  · exact Sgn.minus _ _ tx
def Pre_mv (Γ : List VD) (B : Bag) : Prop := ∃ (s : Int) (c : Nat) (e : Int), Γ = [.bag, .da (.int s), .da (.int (c : Int)), .da (.int e)] ∧ (s = 0 ∨ s = 1) ∧ dl c ≤ 2900 ∧ Bd 60 e ∧ Bok B
def Post_mv (Γ : List VD) (_ : Bag) (r : PyData) (B' : Bag) : Prop := Bok B' ∧ ∀ (s : Int) (c : Nat) (e : Int), Γ = [.bag, .da (.int s), .da (.int (c : Int)), .da (.int e)] → ∃ x : Str, r = .str x ∧ DecT x s c e
inductive R_someT : Rel
  | mk (B : Bag) (ds : List PyData) (h : 0 < ds.length) (hl : ds.length ≤ 1000) (hc : Bok B) : R_someT [.bag, .da (.tuple ds)] B (pick ds B) (tkB B ds.length)
theorem cutTo (x : Str) (n : Nat) (h : n ≤ x.cps.toList.length) : (cutS x none (some (n : Int))).cps.toList = x.cps.toList.take n ∧ (cutS x (some (n : Int)) none).cps.toList = x.cps.toList.drop n := by
  have lx := len_tl x
  have hz : n ≤ x.cps.size := by rw [← Array.length_toList]; exact h
  have h1 : HT.sIx x.length 0 none = 0 := rfl
  have h2 : HT.sIx x.length x.length (some (n : Int)) = n := by
    rw [lx]; unfold HT.sIx; simp; rw [if_neg (by omega)]; omega
  have h3 : HT.sIx x.length 0 (some (n : Int)) = n := by
    rw [lx]; unfold HT.sIx; simp; rw [if_neg (by omega)]; omega
  have h4 : HT.sIx x.length x.length none = x.length := rfl
  unfold cutS
  constructor
  · rw [h1, h2]; rfl
  · rw [h3, h4]
    show (x.cps.toList.drop n).take (x.length - n) = _
    exact List.take_of_length_le (by rw [List.length_drop, lx]; omega)
end Lw
namespace Gd
open PySem PySem.Spec PyProof.Rows L2
section
variable {X : Cx} {Γ : List VD} {B B1 B2 B' : Bag} {e a b c : Expr} {pos : Pos} {rest s1 : List Stmt} {E : En} {Φ : Post}
theorem sj_forTX (j : Nat) {x : Str} {px : Pos} (nd : X.N.Nodup) (hc : X.calm = true)
    (hi : EX X Γ B e fun y B1 => ∃ ds, y = .tuple ds ∧ ∃ P : Nat → List VD → Bag → Prop, P 0 Γ B1 ∧
      (∀ i y Γ' B', ds[i]? = some y → P i Γ' B' → SJ X (Γ'.set j (.da y)) B' s1 { nx := P (i + 1), ct := P (i + 1), bk := fun Γ' B' => SJ X Γ' B' rest E, rt := E.rt }) ∧ (∀ Γ' B', P ds.length Γ' B' → SJ X Γ' B' rest E))
    (hN : X.N[j]? = some x := by rfl) (hx : Loc X.env.scope x := by first | exact Or.inl rfl | exact Or.inr rfl)
    (hf : X.fn x = true ∨ X.env.scope.names.lookup x = some .local := by first | exact Or.inl rfl | exact Or.inr rfl)
    (hp : PassesOwn (model X.prog X.w) X.A X.env X.xe := by exact PassesOwn.never) (hq : ∀ x, foldedSetIterable e X.env x = pure x := by intro _; rfl) :
    SJ X Γ B (.For (.Name x px) e s1 [] pos :: rest) E := fun g σ H0 H Ev O D G =>
  ⟨_, pss_cons (ps_for hp hc (pi_tup (we e)) (pg_name nd hN hx hf) (ws s1) hq) (ws rest), hi g σ H0 H Ev O _ fun v H1 H' yy B1 hyy t o r => by
    obtain ⟨ds, rfl, P, h0, hs, hd⟩ := hyy
    obtain ⟨p, xs, rfl, hxs, rs⟩ := rvT (g := g) r
    refine ⟨p, rfl, ⟨xs, seqT o.ex hxs⟩, ?_⟩
    refine for_tup (xs := xs) (fun i σ' H'' => ∃ Γ' B' H2, P i Γ' B' ∧ To g H1 H' H2 H'' ∧ EnvD X.K g H2 σ' Γ' ∧ On X.K g B' H2 H'') ⟨Γ, B1, H1, h0, To.refl, Ev.mono t.ex, o⟩ ?_ ?_ ?_
    · rintro i σ' H'' _ ⟨Γ', B', H2, _, t2, _, o2⟩
      exact seqT o2.ex (seqT t2.ex hxs)
    · rintro i y σ' H'' hy ⟨Γ', B', H2, hP, t2, e2, o2⟩
      obtain ⟨d, hdi, rd⟩ := rs.get hy
      refine hs i d Γ' B' hdi hP g _ H2 H'' (e2.set j (Rp.mono t2.ex rd)) o2 _ ⟨?_, ?_, ?_, ?_⟩
      · intro Γ3 B3 σ3 H3 H3' q t3 e3 o3
        exact ⟨Γ3, B3, H3, q, t2.trans t3, e3, o3⟩
      · intro r B3 v H3 H3' q t3 o3 rv
        exact (G.on (t.trans t2)).rt r B3 v H3 H3' q t3 o3 rv
      · intro Γ3 B3 σ3 H3 H3' q t3 e3 o3
        exact q g σ3 H3 H3' e3 o3 D (G.on ((t.trans t2).trans t3))
      · intro Γ3 B3 σ3 H3 H3' q t3 e3 o3
        exact ⟨Γ3, B3, H3, q, t2.trans t3, e3, o3⟩
    · rintro σ' H'' ⟨Γ', B', H2, hP, t2, e2, o2⟩
      rw [rs.length] at hP
      exact hd Γ' B' hP g σ' H2 H'' e2 o2 D (G.on (t.trans t2))⟩
theorem ex_sliceT {lo hi : Option Expr} {p2 : Pos} (ha : EX X Γ B a fun y B1 => ∃ ds l u, y = .tuple ds ∧ OJ X Γ B1 lo l B1 ∧ OJ X Γ B1 hi u B1 ∧ Φ (.tuple (cutP ds l u)) B1) :
    EX X Γ B (.Subscript a (.Slice lo hi none p2) pos) Φ := fun g σ H0 H E O Q q =>
  ⟨_, pe_slice sl_tupA (we a) (wo lo) (wo hi), ha g σ H0 H E O _ fun v H1 H' y B1 hy t o rv => by
    obtain ⟨ds, l, u, rfl, hl, hu, hΦ⟩ := hy
    refine hl g σ H1 H' (E.mono t.ex) o _ fun H2 H'' t2 o2 => hu g σ H2 H'' (E.mono (t.trans t2).ex) o2 _ fun H3 H3' t3 o3 => ?_
    obtain ⟨p, xs, rfl, hx, rs⟩ := rvT (g := g) (rv.mono (t2.trans t3).ex)
    refine ⟨p, xs, rfl, seqT o3.ex hx, fun w => ?_, fun _ n hn => ?_⟩
    · have e : cutP ds l u = ds := by
        rw [rs.length] at w
        unfold cutP
        rw [w.1, w.2]
        simp
      have q := q (.ref p) H3 H3' _ B1 hΦ ((t.trans t2).trans t3) o3
      rw [e] at q
      exact q (Rp.tup hx rs)
    · obtain ⟨t4, o4⟩ := laid (o := .tup (cutV xs l u)) o3 hn
      exact q _ _ _ _ B1 hΦ (((t.trans t2).trans t3).trans t4) o4 (Rp.tup (SqT.of upd_same) ((rs.cut l u).mono t4.ex))⟩
end
end Gd
set_option exponentiation.threshold 200000
namespace Lw
open PySem PySem.Spec PyProof PyProof.Rows L2 Gd Fr
def f45 : List F4 := [(2, 3, -2, 1), (2, 11, -24, 5), (2, 24, -149, 104), (10, 7, -101, 90), (4, 3, -3, 3), (2, 53, -300, 971)]
theorem f45_ok : (f45.all fun t => fmrB t && (decide (t.1 % 2 = 0 ∧ t.1 ≤ 36) && decide (t.1 ^ (-t.2.2.1).toNat < 2 ^ 340))) = true := by decide +kernel
theorem tenK_pow {d k : Nat} (h0 : 0 < d) (h : tenK d = some k) : 2 ^ k ≤ d ∧ d ∣ 10 ^ k := by
  obtain ⟨a1, a2⟩ := strip_eq (q := 2) (by decide) d d h0 (Nat.le_refl _)
  have m0 := strip_pos (q := 2) (by decide) d d h0
  have ml := strip_le (q := 2) (by decide) d d
  unfold tenK at h
  generalize stripN 2 d d = x at *
  obtain ⟨m, i⟩ := x
  dsimp only at *
  obtain ⟨b1, b2⟩ := strip_eq (q := 5) (by decide) m m m0 (Nat.le_refl _)
  generalize stripN 5 m m = y at *
  obtain ⟨r, j⟩ := y
  dsimp only at *
  split at h
  · next z =>
    obtain ⟨rfl, _⟩ := z
    have hk := Option.some.inj h
    rw [Nat.one_mul] at b1
    subst b1
    constructor
    · rw [← hk]
      rcases Nat.le_total i j with c | c
      · rw [Nat.max_eq_right c]
        exact Nat.le_trans (Nat.pow_le_pow_left (by decide) j) ml
      · rw [Nat.max_eq_left c, a1]
        exact Nat.le_mul_of_pos_left _ m0
    · rw [a1, ← hk, show (10 : Nat) = 5 * 2 from rfl, Nat.mul_pow]
      exact Nat.mul_dvd_mul (Nat.pow_dvd_pow 5 (Nat.le_max_right _ _)) (Nat.pow_dvd_pow 2 (Nat.le_max_left _ _))
  · cases h
section
variable {b p : Nat} {low high : Int} (F : FmR b p low high)
include F
theorem dn45_le {c e : Int} (h0 : 0 < c) (h1 : c < ((b ^ p : Nat) : Int)) (h2 : low ≤ e) (h3 : e ≤ high) (hK : b ^ (-low).toNat < 2 ^ 340) : (loP b p low c e).2.toNat < 2 ^ 681 ∧ (upP b p c e).2.toNat < 2 ^ 681 := by
  have b0 : 0 < b := by have := F.D.b2; omega
  have key : ∀ e' : Int, low ≤ e' → b ^ (-e').toNat < 2 ^ 340 := fun e' h => Nat.lt_of_le_of_lt (Nat.pow_le_pow_right b0 (by omega)) hK
  have two : ∀ x y : Nat, x < 2 ^ 340 → y < 2 ^ 340 → (2 * (x : Int) * (y : Int)).toNat < 2 ^ 681 := fun x y hx hy => by
    have : x * y < 2 ^ 340 * 2 ^ 340 := by
      rcases Nat.eq_zero_or_pos y with z | z
      · subst z; rw [Nat.mul_zero]; decide +kernel
      · exact Nat.lt_of_lt_of_le (Nat.mul_lt_mul_of_pos_right hx z) (Nat.mul_le_mul_left _ (Nat.le_of_lt hy))
    have e2 : (2 ^ 681 : Nat) = 2 * (2 ^ 340 * 2 ^ 340) := by rw [← Nat.pow_add, ← Nat.pow_succ']
    have e3 : (2 * (x : Int) * (y : Int)).toNat = 2 * (x * y) := by
      rw [show (2 * (x : Int) * (y : Int)) = ((2 * (x * y) : Nat) : Int) by rw [Int.natCast_mul, Int.natCast_mul, Int.mul_assoc]; rfl, Int.toNat_natCast]
    rw [e3, e2]
    omega
  have pr := prv_le F h0 h1 h2 h3
  have ur := up_rng F (Int.le_of_lt h0) h1 h2 h3
  constructor
  · unfold loP midP szP; exact two _ _ (key e h2) (key _ pr.2.2.1)
  · unfold upP midP szP; exact two _ _ (key e h2) (key _ ur.2.2.1)
end
theorem half_bd {n d : Int} {k : Nat} (hn : 0 < n) (hd : 0 < d) (hq : n ≤ d * A4) (hk : k ≤ 681) (hdv : d.toNat ∣ 10 ^ k) : 0 < n * ((10 ^ k : Nat) : Int) / d ∧ n * ((10 ^ k : Nat) : Int) / d ≤ ((10 ^ 1081 : Nat) : Int) := by
  constructor
  · obtain ⟨m, hm⟩ := hdv
    have m0 : 0 < m := by
      refine Nat.pos_of_ne_zero fun z => ?_
      rw [z, Nat.mul_zero] at hm
      exact absurd hm (Nat.ne_of_gt (Nat.pow_pos (by decide)))
    have e : n * ((10 ^ k : Nat) : Int) = n * (m : Int) * d := by
      rw [hm, Int.natCast_mul, show ((d.toNat : Nat) : Int) = d by omega, Int.mul_assoc, Int.mul_comm d]
    rw [e, Int.mul_ediv_cancel _ (Int.ne_of_gt hd)]
    exact Int.mul_pos hn (by omega)
  · refine Int.le_of_lt_add_one ((Int.ediv_lt_iff_lt_mul hd).mpr ?_)
    have h1 : n * ((10 ^ k : Nat) : Int) ≤ d * A4 * ((10 ^ 681 : Nat) : Int) := by
      refine Int.le_trans (Int.mul_le_mul_of_nonneg_right hq (Int.natCast_nonneg _)) ?_
      refine Int.mul_le_mul_of_nonneg_left (Int.ofNat_le.mpr (Nat.pow_le_pow_right (by decide) hk)) (Int.mul_nonneg (Int.le_of_lt hd) (by unfold A4; exact Int.natCast_nonneg _))
    have e : d * A4 * ((10 ^ 681 : Nat) : Int) = ((10 ^ 1081 : Nat) : Int) * d := by
      unfold A4
      rw [Int.mul_assoc, ← Int.natCast_mul, ← Nat.pow_add, Int.mul_comm]
    rw [e] at h1
    rw [Int.add_mul, Int.one_mul]
    omega
end Lw
set_option exponentiation.threshold 20000
namespace K45
open PySem PySem.Spec PyProof.Rows L2 Gd Fr Lw
open scoped Rat

def topS (i : Nat) : Stmt := PySem.Challenge.pw_nearestheld_k45_whole_long_texts_that_ti.main.body.getD i (.Pass ⟨0, 0, 0, 0⟩)
variable {P : Program} {w : World} {K : PySem.W.Frag} {mg : Str → Option Value} {base : Heap}

abbrev s_integer_power : Stmt := topS 7
theorem sc_integer_power : FnScope ["base", "e", "power"] ["base", "e"] (defScope s_integer_power) := ⟨rfl, rfl, rfl, by decide +kernel, rfl, by decide +kernel, by decide +kernel⟩

theorem c_of_integer_power (T : At K mg "integer_power" s_integer_power ["base", "e"]) : Cal P w K mg base "integer_power" 4 R_pow :=
  cal_at T sc_integer_power (by rintro _ _ _ _ ⟨⟩; rfl) fun f cd0 A out s H E G Γ B r B' hR => by
  obtain ⟨b, e, B, hb, he⟩ := hR
  refine sj_set 2 G.nd ej_int ?_
  refine sj_while G.nd (fun Γ' B' => ∃ k m j : Nat, Γ' = [.da (.int ((b ^ k : Nat) : Int)), .da (.int m), .da (.int ((b ^ j : Nat) : Int))] ∧ j + k * m = e ∧ B' = B) (fun Γ' _ => (intAt Γ' 1).toNat)
    ⟨1, e, 0, by rw [Nat.pow_one]; rfl, by omega, rfl⟩ ?_
  rintro Γ' B' ⟨k, m, j, rfl, hk, rfl⟩
  refine ⟨_, tj_gt (ej_dat 1) ej_int, fun h => ?_, fun h => ?_⟩
  · have hm : 0 < m := by have := of_decide_eq_true h; omega
    obtain ⟨k1, j1⟩ := k_le hk hm
    refine sj_ifM (fun Γ' B2 => ∃ j' : Nat, Γ' = [.da (.int ((b ^ k : Nat) : Int)), .da (.int m), .da (.int ((b ^ j' : Nat) : Int))] ∧ j' + (k + k) * (m / 2) = e ∧ B2 = B') (tj_eqI G.hu (ej_mod (ej_dat 1) ej_int (by decide)) ej_int) (fun h1 => ?_) (fun h1 => ?_) ?_
    · refine sj_set 2 G.nd (ej_mul (ej_dat 2) (ej_dat 0) (cm (bd_pow j hb) (bd_pow k hb) (by omega))) (sj_nil ?_)
      rw [pow_up]
      exact ⟨j + k, rfl, turn_odd hk (by have := of_decide_eq_true h1; omega), rfl⟩
    · exact sj_nil ⟨j, rfl, turn_even hk (by have := of_decide_eq_false h1; omega), rfl⟩
    · rintro Γ2 B2 ⟨j', rfl, hj', rfl⟩
      refine sj_set 0 G.nd (ej_mul (ej_dat 0) (ej_dat 0) (cm (bd_pow k hb) (bd_pow k hb) (by omega))) ?_
      refine sj_set 1 G.nd (ej_fdiv (ej_dat 1) ej_int (cdv (show Bd 2 2 from by unfold Bd; decide) (by decide))) (sj_nil ?_)
      rw [pow_sq, half]
      exact ⟨⟨k + k, m / 2, j', rfl, hj', rfl⟩, show ((m / 2 : Nat) : Int).toNat < (m : Int).toNat by omega⟩
  · have hm : ¬ 0 < m := by have := of_decide_eq_false h; omega
    have := j_end hk hm
    subst this
    exact sj_ret (ej_dat 2) ⟨rfl, rfl⟩

abbrev s_is_integer : Stmt := topS 8
theorem sc_is_integer : FnScope ["thing"] ["thing"] (defScope s_is_integer) := ⟨rfl, rfl, rfl, by decide +kernel, rfl, by decide +kernel, by decide +kernel⟩

theorem c_of_is_integer (m_isinstance : mg "isinstance" = none) (m_int : mg "int" = none) (m_bool : mg "bool" = none) (T : At K mg "is_integer" s_is_integer ["thing"]) : Cal P w K mg base "is_integer" 4 R_anyint :=
  cal_at T sc_is_integer (by rintro _ _ _ _ ⟨⟩; rfl) fun f cd0 A out s H E0 G Γ B r B' hR => by
  obtain ⟨d, B⟩ := hR
  cases d with
  | int i => exact sj_ret (ej_and (x := true) (y := true) (ej_isi (T := "int") (r := true) m_isinstance m_int (ej_dat (d := .int i) 0)) fun _ => ej_one (ej_not (x := false) (ej_isi (T := "bool") (r := false) m_isinstance m_bool (ej_dat (d := .int i) 0)))) ⟨rfl, rfl⟩
  | bool i => exact sj_ret (ej_and (x := true) (y := false) (ej_isi (T := "int") (r := true) m_isinstance m_int (ej_dat (d := .bool i) 0)) fun _ => ej_one (ej_not (x := true) (ej_isi (T := "bool") (r := true) m_isinstance m_bool (ej_dat (d := .bool i) 0)))) ⟨rfl, rfl⟩
  | none => exact sj_ret (ej_and (x := false) (y := true) (ej_isi (T := "int") (r := false) m_isinstance m_int (ej_dat (d := .none) 0)) fun h => Bool.noConfusion h) ⟨rfl, rfl⟩
  | str x => exact sj_ret (ej_and (x := false) (y := true) (ej_isi (T := "int") (r := false) m_isinstance m_int (ej_dat (d := .str x) 0)) fun h => Bool.noConfusion h) ⟨rfl, rfl⟩
  | list x => exact sj_ret (ej_and (x := false) (y := true) (ej_isi (T := "int") (r := false) m_isinstance m_int (ej_dat (d := .list x) 0)) fun h => Bool.noConfusion h) ⟨rfl, rfl⟩
  | tuple x => exact sj_ret (ej_and (x := false) (y := true) (ej_isi (T := "int") (r := false) m_isinstance m_int (ej_dat (d := .tuple x) 0)) fun h => Bool.noConfusion h) ⟨rfl, rfl⟩
  | dict x => exact sj_ret (ej_and (x := false) (y := true) (ej_isi (T := "int") (r := false) m_isinstance m_int (ej_dat (d := .dict x) 0)) fun h => Bool.noConfusion h) ⟨rfl, rfl⟩

abbrev s_is_format : Stmt := topS 9
theorem sc_is_format : FnScope ["thing", "base", "digits", "low", "high", "part"] ["thing"] (defScope s_is_format) := ⟨rfl, rfl, rfl, by decide +kernel, rfl, by decide +kernel, by decide +kernel⟩

theorem c_of_is_format /-H-/ (m_isinstance : mg "isinstance" = none) (m_tuple : mg "tuple" = none) (m_len : mg "len" = none) (m_all : mg "all" = none) (c_is_integer : Cal P w K mg base "is_integer" 4 R_anyint) /-E-/ (T : At K mg "is_format" s_is_format ["thing"]) : Cal P w K mg base "is_format" 6 R_isfmt :=
  cal_at T sc_is_format (by rintro _ _ _ _ ⟨⟩; rfl) fun f cd0 A out s0 H E0 G Γ B r B' hR => by
  obtain ⟨b, p, low, high, B, F, hb⟩ := hR
  have b2 := F.D.b2; have p2 := F.D.p2; have p7 := F.p7; have lh := F.D.lh; have flo := F.D.lo; have fhi := F.D.hi
  refine sj_when (x := false) (tj_w (wj_or (x := false) (y := false) (tj_not (x := true) (tj_val (ej_isi (T := "tuple") (r := true) m_isinstance m_tuple (ej_dat (d := fmP b p low high) 0)))) fun _ => wj_or1 (tj_is (tj_neI G.hu (ej_lenT m_len (ej_dat (d := fmP b p low high) 0)) ej_int) rfl))) (fun h => Bool.noConfusion h) (fun _ => ?_)
  refine sj_when (x := false) (tj_is (tj_not (tj_val (ej_all (bs := [true, true, true, true]) G.calm m_all (ej_lcT (j := 5) (x := "part") G.nd G.calm (blkOk_by (N := ["thing", "base", "digits", "low", "high", "part"]) (sc := defScope s_is_format) (by decide +kernel)) (fun _ _ _ _ _ => pg_name (i := 5) G.nd rfl (Or.inl rfl))
      (rj_lcT (ds := [.int (b : Int), .int (p : Int), .int low, .int high]) (ys := [.bool true, .bool true, .bool true, .bool true]) (fun _ => B) (ej_dat (d := fmP b p low high) 0) rfl (Nat.le_of_ble_eq_true rfl) (fun i y' z' hi hz s0 H0 C cl fp => by
        obtain ⟨n, rfl, rfl⟩ : ∃ n : Int, y' = .int n ∧ z' = .bool true := by
          match i, hi, hz with
          | 0, hi, hz => cases hi; cases hz; exact ⟨_, rfl, rfl⟩
          | 1, hi, hz => cases hi; cases hz; exact ⟨_, rfl, rfl⟩
          | 2, hi, hz => cases hi; cases hz; exact ⟨_, rfl, rfl⟩
          | 3, hi, hz => cases hi; cases hz; exact ⟨_, rfl, rfl⟩
        exact ej_call c_is_integer ⟨G.gd, G.rm.mono (by decide), G.nd, G.calm⟩ (aj_cons (ej_dat (d := .int n) 5) aj_nil) (R_anyint.mk (.int n) B))))))) rfl) (fun h => Bool.noConfusion h) (fun _ => ?_)
  refine sj_unpack [1, 2, 3, 4] (ds := [.int b, .int p, .int low, .int high]) G.calm (ej_dat (d := fmP b p low high) 0) (pgs_cons (pgN 1 G.nd) (pgs_cons (pgN 2 G.nd) (pgs_cons (pgN 3 G.nd) (pgs_cons (pgN 4 G.nd) pgs_nil)))) rfl ?_
  refine sj_when (x := false) (tj_w (wj_or (x := false) (y := false) (tj_is (tj_neI G.hu (ej_mod (ej_dat (d := .int (b : Nat)) 1) ej_int (by decide)) ej_int) (by rw [decide_eq_true (by omega)]; rfl)) fun _ => wj_or (x := false) (y := false) (tj_is (tj_lt (ej_dat (d := .int (b : Nat)) 1) ej_int) (decide_eq_false (by omega))) fun _ => wj_or (x := false) (y := false) (tj_is (tj_gt (ej_dat (d := .int (b : Nat)) 1) ej_int) (decide_eq_false (by omega))) fun _ => wj_or (x := false) (y := false) (tj_is (tj_lt (ej_dat (d := .int (p : Nat)) 2) ej_int) (decide_eq_false (by omega))) fun _ => wj_or1 (tj_is (tj_gt (ej_dat (d := .int (p : Nat)) 2) ej_int) (decide_eq_false (by omega))))) (fun h => Bool.noConfusion h) (fun _ => ?_)
  exact sj_ret (ej_and (x := true) (y := true) (ej_is (ej_le (ej_neg ej_int) (ej_dat (d := .int low) 3)) (by rw [decide_eq_true (by omega)])) fun _ => ej_and (x := true) (y := true) (ej_is (ej_le (ej_dat (d := .int low) 3) (ej_dat (d := .int high) 4)) (by rw [decide_eq_true lh])) fun _ => ej_one (ej_is (ej_le (ej_dat (d := .int high) 4) ej_int) (by rw [decide_eq_true (by omega)]))) ⟨rfl, rfl⟩

abbrev s_is_way : Stmt := topS 10
theorem sc_is_way : FnScope ["thing"] ["thing"] (defScope s_is_way) := ⟨rfl, rfl, rfl, by decide +kernel, rfl, by decide +kernel, by decide +kernel⟩

theorem c_of_is_way (g_ways : Glob K mg "WAYS" (.tuple (wayList.map .str))) /-H-/ (m_isinstance : mg "isinstance" = none) (m_str : mg "str" = none) /-E-/ (T : At K mg "is_way" s_is_way ["thing"]) : Cal P w K mg base "is_way" 5 R_isway :=
  cal_at T sc_is_way (by rintro _ _ _ _ ⟨⟩; rfl) fun f cd0 A out s0 H E0 G Γ B r B' hR => by
  obtain ⟨x, B, h⟩ := hR
  have e : (wayList.any fun s => decide (s = x)) = true := List.any_eq_true.mpr ⟨x, h, decide_eq_true rfl⟩
  exact sj_ret (ej_is (ej_and (x := true) (y := wayList.any fun s => decide (s = x)) (ej_isi (T := "str") (r := true) m_isinstance m_str (ej_dat (d := .str x) 0)) fun _ => ej_one (ej_inT (ss := wayList) (ej_dat (d := .str x) 0) (ej_glob g_ways))) (by rw [e]; rfl)) ⟨rfl, rfl⟩

abbrev s_reduced : Stmt := topS 12
theorem sc_reduced : FnScope ["n", "d", "ahead", "behind", "twos", "common"] ["n", "d"] (defScope s_reduced) := ⟨rfl, rfl, rfl, by decide +kernel, rfl, by decide +kernel, by decide +kernel⟩

theorem c_of_reduced (m_gcd : mg "gcd" = some (.builtin "math.gcd")) (m_min : mg "min" = none) (c_u_twos_in : Cal P w K mg base "_twos_in" 1 R_twos) (T : At K mg "reduced" s_reduced ["n", "d"]) : Cal P w K mg base "reduced" 3 R_redW :=
  cal_at T sc_reduced (by rintro _ _ _ _ ⟨⟩; rfl) fun f cd0 A out s H E G Γ B r B' hR => by
  obtain ⟨n, d, B, hd, hb⟩ := hR
  refine sj_when (tj_eqI G.hu (ej_dat 0) ej_int) (fun h => ?_) (fun h => ?_)
  · have h0 : n = 0 := of_decide_eq_true h
    subst h0
    exact sj_ret (ej_tupD (ad_cons ej_int (ad_cons ej_int ad_nil)) (Nat.le_of_ble_eq_true rfl)) ⟨by rw [Rat.zero_divInt]; rfl, rfl⟩
  · have hn : n ≠ 0 := of_decide_eq_false h
    obtain ⟨i, a, rfl⟩ := tw_ex hn
    obtain ⟨j, b, rfl⟩ := tw_ex hd
    refine sj_par 2 3 G.nd G.calm (aj_cons (ej_call c_u_twos_in (G.le (by decide)) (aj_cons (ej_dat 0) aj_nil) (R_twos.mk i a B)) (aj_cons (ej_call c_u_twos_in (G.le (by decide)) (aj_cons (ej_dat 1) aj_nil) (R_twos.mk j b B)) aj_nil)) ?_ (by decide) (by rfl)
    obtain ⟨t, hi, hj, ht, em⟩ : ∃ t : Nat, t ≤ i ∧ t ≤ j ∧ (t = i ∨ t = j) ∧ min (i : Int) (j : Int) = (t : Int) := ⟨min i j, by omega, by omega, by omega, by omega⟩
    refine sj_set 4 G.nd (ej_is (ej_min G.calm m_min (ej_dat 2) (ej_dat 3)) (congrArg PyData.int em)) ?_
    refine sj_par 0 1 G.nd G.calm (aj_cons (ej_is (ej_shr (ej_dat 0) (ej_dat 4)) (congrArg PyData.int (tw_shr hi a))) (aj_cons (ej_is (ej_shr (ej_dat 1) (ej_dat 4)) (congrArg PyData.int (tw_shr hj b))) aj_nil)) ?_ (by decide) (by rfl)
    have ek : (j : Int) - (t : Int) = ((j - t : Nat) : Int) := by omega
    have e0 : tw (j - t) b / 2 ^ (j - t) = tw 0 b := by rw [tw_shr (Nat.le_refl _), Nat.sub_self]
    refine sj_set 5 G.nd (ej_gcd m_gcd (ej_dat 0) (ej_is (ej_shr (ej_dat 1) (ej_is (ej_sub (ej_dat 3) (ej_dat 4)) (congrArg PyData.int ek))) (congrArg PyData.int e0))) ?_
    have hd' : tw (j - t) b ≠ 0 := tw_ne _ _
    have eg : Nat.gcd (tw (i - t) a).natAbs (tw 0 b).natAbs = Nat.gcd (tw (i - t) a).natAbs (tw (j - t) b).natAbs := by
      refine (gcd_odd _ b ?_).symm
      rcases ht with rfl | rfl
      · left; rw [Nat.sub_self]; exact tw_odd a
      · right; exact Nat.sub_self _
    rw [eg, divInt_tw hi hj a b]
    have cx : ∀ m, CDivX m (com (tw (i - t) a) (tw (j - t) b)) := fun m => by
      rcases hb with hb | hb
      · exact cdx (com_bdN (tw_ne _ _) (bd_tw hb (Nat.sub_le _ _))) (com_ne hd')
      · exact cdx (com_bd hd' (bd_tw hb (Nat.sub_le _ _))) (com_ne hd')
    refine sj_if (tj_lt (ej_dat 1) ej_int) (fun h => ?_) (fun h => ?_)
    · refine sj_set 5 G.nd (ej_neg (ej_dat 5)) (sj_nil ?_)
      have e : -((Nat.gcd (tw (i - t) a).natAbs (tw (j - t) b).natAbs : Nat) : Int) = com (tw (i - t) a) (tw (j - t) b) := (if_pos (of_decide_eq_true h)).symm
      rw [e]
      exact sj_ret (ej_tupD (ad_cons (ej_fdivX (ej_dat 0) (ej_dat 5) (cx _)) (ad_cons (ej_fdivX (ej_dat 1) (ej_dat 5) (cx _)) ad_nil)) (Nat.le_of_ble_eq_true rfl)) ⟨by rw [red_num hd', red_den hd']; rfl, rfl⟩
    · refine sj_nil ?_
      have e : ((Nat.gcd (tw (i - t) a).natAbs (tw (j - t) b).natAbs : Nat) : Int) = com (tw (i - t) a) (tw (j - t) b) := (if_neg (of_decide_eq_false h)).symm
      rw [e]
      exact sj_ret (ej_tupD (ad_cons (ej_fdivX (ej_dat 0) (ej_dat 5) (cx _)) (ad_cons (ej_fdivX (ej_dat 1) (ej_dat 5) (cx _)) ad_nil)) (Nat.le_of_ble_eq_true rfl)) ⟨by rw [red_num hd', red_den hd']; rfl, rfl⟩

abbrev s_times : Stmt := topS 13
theorem sc_times : FnScope ["one", "other", "first", "right", "second", "left"] ["one", "other"] (defScope s_times) := ⟨rfl, rfl, rfl, by decide +kernel, rfl, by decide +kernel, by decide +kernel⟩

theorem c_of_times (c_reduced : Cal P w K mg base "reduced" 3 R_redW) (T : At K mg "times" s_times ["one", "other"]) : Cal P w K mg base "times" 4 R_timesX :=
  cal_at T sc_times (by rintro _ _ _ _ ⟨⟩; rfl) fun f cd0 A out s H E G Γ B r B' hR => by
  obtain ⟨n, d, m, c, x, y, B, hx, hy, h1, h2, h3, h4, a1, a2⟩ := hR
  obtain ⟨b1, b2⟩ := divInt_bd (den_ne y) hx.nu hy.de
  obtain ⟨b3, b4⟩ := divInt_bd (den_ne x) hy.nu hx.de
  refine sj_unpack [2, 3] (ds := [.int (x.num /. (y.den : Int)).num, .int ((x.num /. (y.den : Int)).den : Int)]) G.calm (ej_call c_reduced (G.le (by decide)) (aj_cons (ej_at (ej_dat (d := fq x) 0)) (aj_cons (ej_at (ej_dat (d := fq y) 1)) aj_nil)) (R_redW.mk _ _ _ (den_ne y) a1)) (pgs_cons (pg_name (i := 2) G.nd rfl (Or.inl rfl)) (pgs_cons (pg_name (i := 3) G.nd rfl (Or.inl rfl)) pgs_nil)) rfl ?_
  refine sj_unpack [4, 5] (ds := [.int (y.num /. (x.den : Int)).num, .int ((y.num /. (x.den : Int)).den : Int)]) G.calm (ej_call c_reduced (G.le (by decide)) (aj_cons (ej_at (ej_dat (d := fq y) 1)) (aj_cons (ej_at (ej_dat (d := fq x) 0)) aj_nil)) (R_redW.mk _ _ _ (den_ne x) a2)) (pgs_cons (pg_name (i := 4) G.nd rfl (Or.inl rfl)) (pgs_cons (pg_name (i := 5) G.nd rfl (Or.inl rfl)) pgs_nil)) rfl ?_
  exact sj_ret (ej_tupD (ad_cons (ej_mul (ej_dat 2) (ej_dat 4) (cmz b1 b3)) (ad_cons (ej_mul (ej_dat 5) (ej_dat 3) (cmz b4 b2)) ad_nil)) (Nat.le_of_ble_eq_true rfl)) ⟨mul_by x y, rfl⟩

abbrev s_size_of : Stmt := topS 14
theorem sc_size_of : FnScope ["one"] ["one"] (defScope s_size_of) := ⟨rfl, rfl, rfl, by decide +kernel, rfl, by decide +kernel, by decide +kernel⟩

theorem c_of_size_of (m_abs : mg "abs" = none) (T : At K mg "size_of" s_size_of ["one"]) : Cal P w K mg base "size_of" 4 (R_one fun x => fq (absQ x)) :=
  cal_at T sc_size_of (by rintro _ _ _ _ ⟨⟩; rfl) fun f cd0 A out s H E G Γ B r B' hR => by
  obtain ⟨x, B⟩ := hR
  refine sj_ret (ej_tupD (ad_cons (ej_abs m_abs (ej_at (ej_dat 0))) (ad_cons (ej_at (ej_dat 0)) ad_nil)) (Nat.le_of_ble_eq_true rfl)) ⟨?_, rfl⟩
  unfold fq
  rw [(absQ_num x).1, (absQ_num x).2]

abbrev s_power_of : Stmt := topS 15
theorem sc_power_of : FnScope ["base", "e"] ["base", "e"] (defScope s_power_of) := ⟨rfl, rfl, rfl, by decide +kernel, rfl, by decide +kernel, by decide +kernel⟩

theorem c_of_power_of (c_integer_power : Cal P w K mg base "integer_power" 4 R_pow) (T : At K mg "power_of" s_power_of ["base", "e"]) : Cal P w K mg base "power_of" 5 R_power_of :=
  cal_at T sc_power_of (by rintro _ _ _ _ ⟨⟩; rfl) fun f cd0 A out s H E G Γ B r B' hR => by
  obtain ⟨b, e, B, h0, hb, h1, h2⟩ := hR
  refine sj_when (tj_lt (ej_dat 1) ej_int) (fun h => ?_) (fun h => ?_)
  · have he : e < 0 := of_decide_eq_true h
    have hn : -e = ((-e).toNat : Int) := by omega
    refine sj_ret (ej_tupD (ad_cons ej_int (ad_cons (ej_call c_integer_power (G.le (by decide)) (aj_cons (ej_dat 0) (aj_cons (ej_is (ej_neg (ej_dat 1)) (congrArg PyData.int hn)) aj_nil)) (R_pow.mk b (-e).toNat B hb (by omega))) ad_nil)) (Nat.le_of_ble_eq_true rfl)) ⟨?_, rfl⟩
    unfold pw
    rw [if_pos he, fq_inv (Nat.pow_pos h0)]
  · have he : ¬ e < 0 := of_decide_eq_false h
    have hn : e = (e.toNat : Int) := by omega
    refine sj_ret (ej_tupD (ad_cons (ej_call c_integer_power (G.le (by decide)) (aj_cons (ej_dat 0) (aj_cons (ej_is (ej_dat 1) (congrArg PyData.int hn)) aj_nil)) (R_pow.mk b e.toNat B hb (by omega))) (ad_cons ej_int ad_nil)) (Nat.le_of_ble_eq_true rfl)) ⟨?_, rfl⟩
    unfold pw
    rw [if_neg he, fq_nat]


abbrev s_sign_of_fraction : Stmt := topS 16
theorem sc_sign_of_fraction : FnScope ["one"] ["one"] (defScope s_sign_of_fraction) := ⟨rfl, rfl, rfl, by decide +kernel, rfl, by decide +kernel, by decide +kernel⟩

theorem c_of_sign_of_fraction (T : At K mg "sign_of_fraction" s_sign_of_fraction ["one"]) : Cal P w K mg base "sign_of_fraction" 4 (R_one fun x => .int (sgn x)) :=
  cal_at T sc_sign_of_fraction (by rintro _ _ _ _ ⟨⟩; rfl) fun f cd0 A out s H E G Γ B r B' hR => by
  obtain ⟨x, B⟩ := hR
  refine sj_ret (ej_ifI (tj_lt (ej_at (ej_dat 0)) ej_int) (fun _ => ej_int) fun _ => ej_int) ⟨?_, rfl⟩
  unfold sgn
  by_cases h : x.num < 0
  · rw [if_pos h, decide_eq_true h]; rfl
  · rw [if_neg h, decide_eq_false h]; rfl

abbrev s_part_of : Stmt := topS 17
theorem sc_part_of : FnScope ["left", "whole"] ["left", "whole"] (defScope s_part_of) := ⟨rfl, rfl, rfl, by decide +kernel, rfl, by decide +kernel, by decide +kernel⟩

theorem c_of_part_of (T : At K mg "part_of" s_part_of ["left", "whole"]) : Cal P w K mg base "part_of" 4 R_part :=
  cal_at T sc_part_of (by rintro _ _ _ _ ⟨⟩; rfl) fun f cd0 A out s H E G Γ B r B' hR => by
  obtain ⟨l, m, B, n, hl, hn⟩ := hR
  have cm2 : CMulW 2 l := cm (n := 2) (by unfold Bd; decide) hl (by omega)
  refine sj_when (tj_eqI G.hu (ej_dat 0) ej_int) (fun h => ?_) (fun h => ?_)
  · exact sj_ret ej_int ⟨by unfold pt; rw [if_pos (of_decide_eq_true h)], rfl⟩
  · refine sj_when (tj_lt (ej_mul ej_int (ej_dat 0) cm2) (ej_dat 1)) (fun h2 => ?_) (fun h2 => ?_)
    · exact sj_ret ej_int ⟨by unfold pt; rw [if_neg (of_decide_eq_false h), if_pos (of_decide_eq_true h2)], rfl⟩
    · refine sj_ret (ej_ifI (tj_eqI G.hu (ej_mul ej_int (ej_dat 0) cm2) (ej_dat 1)) (fun _ => ej_int) fun _ => ej_int) ⟨?_, rfl⟩
      unfold pt
      rw [if_neg (of_decide_eq_false h), if_neg (of_decide_eq_false h2)]
      by_cases h3 : 2 * l = m
      · rw [if_pos h3, decide_eq_true h3]; rfl
      · rw [if_neg h3, decide_eq_false h3]; rfl

abbrev s_is_taken_outward : Stmt := topS 18
theorem sc_is_taken_outward : FnScope ["way", "s", "c", "part"] ["way", "s", "c", "part"] (defScope s_is_taken_outward) := ⟨rfl, rfl, rfl, by decide +kernel, rfl, by decide +kernel, by decide +kernel⟩

theorem c_of_is_taken_outward (T : At K mg "is_taken_outward" s_is_taken_outward ["way", "s", "c", "part"]) : Cal P w K mg base "is_taken_outward" 4 R_outw :=
  cal_at T sc_is_taken_outward (by rintro _ _ _ _ ⟨⟩; rfl) fun f cd0 A out s H E G Γ B r B' hR => by
  obtain ⟨way, s, c, part, B⟩ := hR
  refine sj_when (tj_w (wj_or (tj_eqI G.hu (ej_dat 3) ej_int) fun _ => (wj_or1 (tj_eqS (ej_dat 0) ej_str)))) (fun h => ?_) (fun h => ?_)
  · have h : part = 0 ∨ way = "zero" := by simpa using h
    exact sj_ret ej_bl ⟨by unfold outw; rw [if_pos h], rfl⟩
  · have h : ¬ (part = 0 ∨ way = "zero") := by simpa using h
    unfold outw
    rw [if_neg h]
    refine sj_when (tj_eqS (ej_dat 0) ej_str) (fun h => ?_) (fun h => ?_)
    · exact sj_ret (ej_eqI G.hu (ej_dat 1) ej_int) ⟨by rw [if_pos (of_decide_eq_true h)], rfl⟩
    · rw [if_neg (of_decide_eq_false h)]
      refine sj_when (tj_eqS (ej_dat 0) ej_str) (fun h => ?_) (fun h => ?_)
      · exact sj_ret (ej_eqI G.hu (ej_dat 1) ej_int) ⟨by rw [if_pos (of_decide_eq_true h)], rfl⟩
      · rw [if_neg (of_decide_eq_false h)]
        refine sj_when (tj_eqI G.hu (ej_dat 3) ej_int) (fun h => ?_) (fun h => ?_)
        · exact sj_ret (ej_or (ej_eqS (ej_dat 0) ej_str) fun _ => (ej_one (ej_eqI G.hu (ej_mod (ej_dat 2) ej_int (by decide)) ej_int))) ⟨by rw [if_pos (of_decide_eq_true h)], rfl⟩
        · exact sj_ret (ej_eqI G.hu (ej_dat 3) ej_int) ⟨by rw [if_neg (of_decide_eq_false h)], rfl⟩

abbrev s_power_below : Stmt := topS 19
theorem sc_power_below : FnScope ["base", "one", "n", "d"] ["base", "one"] (defScope s_power_below) := ⟨rfl, rfl, rfl, by decide +kernel, rfl, by decide +kernel, by decide +kernel⟩

theorem c_of_power_below (c_u_power_within : Cal P w K mg base "_power_within" 4 R_withinW) (T : At K mg "power_below" s_power_below ["base", "one"]) : Cal P w K mg base "power_below" 5 R_pbelowW :=
  cal_at T sc_power_below (by rintro _ _ _ _ ⟨⟩; rfl) fun f cd0 A out s H E G Γ B r B' hR => by
  obtain ⟨b, q, k, B, h2, h0, hz, w1, w2, h1, h3⟩ := hR
  have hn0 : 0 < q.num := by
    have : 0 ≤ q.num := Rat.num_nonneg.mpr (Rat.le_of_lt h0)
    have : q.num ≠ 0 := fun z => absurd h0 (by rw [Rat.num_eq_zero.mp z]; decide)
    omega
  have hd0 := den_pos q
  have eN : q.num = (q.num.toNat : Int) := by omega
  refine sj_unpack [2, 3] G.calm (ej_dat (d := .tuple [.int q.num, .int (q.den : Int)]) 1) (pgs_cons (pg_name (i := 2) G.nd rfl (Or.inl rfl)) (pgs_cons (pg_name (i := 3) G.nd rfl (Or.inl rfl)) pgs_nil)) rfl ?_
  refine sj_when (tj_ge (ej_dat 2) (ej_dat 3)) (fun h => ?_) (fun h => ?_)
  · have hge : (q.den : Int) ≤ q.num := of_decide_eq_true h
    have hk : 0 ≤ k := by
      refine Decidable.byContradiction fun hk => ?_
      have h4 : pw b (k + 1) ≤ pw b 0 := pw_mono h2 (by omega)
      rw [show (0 : Int) = ((0 : Nat) : Int) - (0 : Nat) by omega] at h4
      have := (lt_pw_iff h2 q 0 0).mp (ltle h3 h4)
      rw [Nat.pow_zero] at this; omega
    have ek : k = (k.toNat : Int) := by omega
    have a1 := (pw_le_iff h2 q 0 k.toNat).mp (by rw [show ((k.toNat : Nat) : Int) - (0 : Nat) = k by omega]; exact h1)
    have a3 := (lt_pw_iff h2 q 0 (k.toNat + 1)).mp (by rw [show ((k.toNat + 1 : Nat) : Int) - (0 : Nat) = k + 1 by omega]; exact h3)
    rw [Nat.pow_zero, eN] at a1 a3
    have b1 : q.den * b ^ k.toNat ≤ q.num.toNat := by
      have : ((q.den * b ^ k.toNat : Nat) : Int) ≤ (q.num.toNat : Int) := by rw [Int.natCast_mul]; omega
      omega
    have b3 : q.num.toNat < q.den * b ^ (k.toNat + 1) := by
      have : (q.num.toNat : Int) < ((q.den * b ^ (k.toNat + 1) : Nat) : Int) := by rw [Int.natCast_mul]; omega
      omega
    have ew : q.num / (q.den : Int) = ((q.num.toNat / q.den : Nat) : Int) := by rw [Int.natCast_ediv, ← eN]
    rw [ek]
    refine sj_ret (ej_call c_u_power_within (G.le (by decide)) (aj_cons (ej_dat 0) (aj_cons (ej_is (ej_fdivP (ej_dat 2) (ej_dat 3) (divp2 hd0 hz.symm)) (congrArg PyData.int ew)) aj_nil)) (R_withinW.mk b _ k.toNat B h2 w1 ?_ ?_)) ⟨rfl, rfl⟩
    · exact (Nat.le_div_iff_mul_le q.den_pos).mpr (by rw [Nat.mul_comm]; exact b1)
    · exact (Nat.div_lt_iff_lt_mul q.den_pos).mpr (by rw [Nat.mul_comm]; exact b3)
  · have hlt : q.num < (q.den : Int) := by have := of_decide_eq_false h; omega
    have hk : k < 0 := by
      refine Decidable.byContradiction fun hk => ?_
      have h4 : pw b 0 ≤ pw b k := pw_mono h2 (by omega)
      rw [show (0 : Int) = ((0 : Nat) : Int) - (0 : Nat) by omega] at h4
      have := (pw_le_iff h2 q 0 0).mp (Rat.le_trans h4 h1)
      rw [Nat.pow_zero] at this; omega
    generalize hm : (-1 - k).toNat = m
    have ek : k = -1 - (m : Int) := by omega
    have a1 := (pw_le_iff h2 q (m + 1) 0).mp (by rw [show ((0 : Nat) : Int) - (m + 1 : Nat) = k by omega]; exact h1)
    have a3 := (lt_pw_iff h2 q m 0).mp (by rw [show ((0 : Nat) : Int) - (m : Nat) = k + 1 by omega]; exact h3)
    rw [Nat.pow_zero, eN] at a1 a3
    have b1 : q.den ≤ q.num.toNat * b ^ (m + 1) := by
      have : (q.den : Int) ≤ ((q.num.toNat * b ^ (m + 1) : Nat) : Int) := by rw [Int.natCast_mul]; omega
      omega
    have b3 : q.num.toNat * b ^ m < q.den := by
      have : ((q.num.toNat * b ^ m : Nat) : Int) < (q.den : Int) := by rw [Int.natCast_mul]; omega
      omega
    have hn1 : 0 < q.num.toNat := by omega
    have ew : ((q.den : Int) - 1) / q.num = (((q.den - 1) / q.num.toNat : Nat) : Int) := by
      rw [Int.natCast_ediv, ← eN]; congr 1; have := q.den_pos; omega
    rw [ek]
    refine sj_ret (ej_sub (ej_neg ej_int) (ej_call c_u_power_within (G.le (by decide)) (aj_cons (ej_dat 0) (aj_cons (ej_is (ej_fdivP (ej_sub (ej_dat 3) ej_int) (ej_dat 2) (divp2 hn0 (hz.imp id fun z => by unfold Bd at z ⊢; omega))) (congrArg PyData.int ew)) aj_nil)) (R_withinW.mk b _ m B h2 w2 ?_ ?_))) ⟨rfl, rfl⟩
    · exact (Nat.le_div_iff_mul_le hn1).mpr (by rw [Nat.mul_comm]; omega)
    · exact (Nat.div_lt_iff_lt_mul hn1).mpr (by rw [Nat.mul_comm]; omega)

abbrev s_u_power_within : Stmt := topS 20
theorem sc_u_power_within : FnScope ["base", "whole", "squares", "power", "k", "left", "square"] ["base", "whole"] (defScope s_u_power_within) := ⟨rfl, rfl, rfl, by decide +kernel, rfl, by decide +kernel, by decide +kernel⟩

theorem c_of_u_power_within (m_rev : mg "reversed" = none) (T : At K mg "_power_within" s_u_power_within ["base", "whole"]) : Cal P w K mg base "_power_within" 4 R_withinW :=
  cal_at T sc_u_power_within (by rintro _ _ _ _ ⟨⟩; rfl) fun f cd0 A out s H E G Γ B r B' hR => by
  obtain ⟨b, wh, k0, B, h2, hw, h1, h3⟩ := hR
  refine sj_own 2 G.nd (fj_lstD ad_nil (by decide)) (by exact Nat.le_of_ble_eq_true rfl) ?_
  refine ow_set 3 G.nd (by decide) (ej_dat 0) ?_
  refine ow_while (fun Γ' B' acc => ∃ j : Nat, Γ' = [.da (.int b), .da (.int wh), .no, .da (.int ((b ^ 2 ^ j : Nat) : Int)), .no, .no, .no] ∧ B' = B ∧ acc = sqs b j ∧ ∀ i, i < j → b ^ 2 ^ i ≤ wh) (fun Γ' _ _ => (wh + 1 : Nat) - (intAt Γ' 3).toNat)
    ⟨0, by rw [Nat.pow_zero, Nat.pow_one]; rfl, rfl, rfl, fun i hi => absurd hi (by omega)⟩ ?_
  rintro Γ' B' acc ⟨j, rfl, rfl, rfl, hj⟩
  have hj14 := few_sqW h2 hw.1 hj
  refine ⟨_, tj_le (ej_dat 3) (ej_dat 1), fun h => ?_, fun h => ?_⟩
  · have hle : b ^ 2 ^ j ≤ wh := by have := of_decide_eq_true h; omega
    have hbd : Bd 17000 ((b ^ 2 ^ j : Nat) : Int) := Bd.nat (Nat.lt_of_le_of_lt hle hw.1)
    refine ow_app G.nd (ej_dat 3) (by rw [sqs_len]; omega) ?_
    refine ow_set 3 G.nd (by decide) (ej_mul (ej_dat 3) (ej_dat 3) (cmz hbd hbd)) (ow_nil ⟨⟨j + 1, ?_, rfl, sqs_succ b j, fun i hi => ?_⟩, ?_⟩)
    · rw [sq_next]; rfl
    · by_cases e : i = j
      · subst e; exact hle
      · exact hj i (by omega)
    · show (wh + 1 : Nat) - (((b ^ 2 ^ j : Nat) : Int) * ((b ^ 2 ^ j : Nat) : Int)).toNat < (wh + 1 : Nat) - (((b ^ 2 ^ j : Nat) : Int)).toNat
      rw [sq_next, Int.toNat_natCast, Int.toNat_natCast]
      have : b ^ 2 ^ j < b ^ 2 ^ (j + 1) := Nat.pow_lt_pow_right (by omega) (Nat.pow_lt_pow_right (by decide) (by omega))
      omega
  · have hgt : wh < b ^ 2 ^ j := by have := of_decide_eq_false h; omega
    have w1 : 1 ≤ wh := Nat.le_trans (Nat.pow_pos (by omega)) h1
    refine ow_end ?_
    refine sj_par 4 5 G.nd G.calm (aj_cons ej_int (aj_cons (ej_dat 1) aj_nil)) ?_ (by decide) (by rfl)
    refine sj_forRev (ds := sqs b j) 6 G.nd G.calm m_rev (fun i Γ' B2 => ∃ (k l : Nat) (z : VD), Γ' = [.da (.int b), .da (.int wh), .da (.list (sqs b j)), .da (.int ((b ^ 2 ^ j : Nat) : Int)), .da (.int k), .da (.int l), z] ∧ B2 = B' ∧
      l = wh / b ^ (k * 2 ^ (j - i)) ∧ l < b ^ 2 ^ (j - i) ∧ 1 ≤ l) (ej_dat 2) ⟨0, wh, .no, rfl, rfl, by rw [Nat.zero_mul, Nat.pow_zero, Nat.div_one], hgt, w1⟩ (fun i y Γ' B2 hi hy hP => ?_) (fun Γ' B2 hP => ?_)
    · obtain ⟨k, l, z, rfl, rfl, e1, e2, e3⟩ := hP
      rw [sqs_len] at hi hy
      obtain rfl := sqs_at hy
      have em : j - i = (j - 1 - i) + 1 := by omega
      have em' : j - (i + 1) = j - 1 - i := by omega
      rw [em] at e1 e2
      have hbs : CDivP (l : Int) ((b ^ 2 ^ (j - 1 - i) : Nat) : Int) := divpW (Nat.pow_pos (by omega)) (by rw [e1]; exact Nat.div_le_self _ _) fun z => hw.2 _ (by omega) z (hj _ (by omega))
      have hps : 0 < b ^ 2 ^ (j - 1 - i) := Nat.pow_pos (by omega)
      refine sj_set 4 G.nd (ej_mulC ej_int (ej_dat 4) (.inl (by decide))) ?_
      refine sj_ifM (fun Γ3 B3 => ∃ (k l : Nat) (z : VD), Γ3 = [.da (.int b), .da (.int wh), .da (.list (sqs b j)), .da (.int ((b ^ 2 ^ j : Nat) : Int)), .da (.int k), .da (.int l), z] ∧ B3 = B2 ∧
        l = wh / b ^ (k * 2 ^ (j - (i + 1))) ∧ l < b ^ 2 ^ (j - (i + 1)) ∧ 1 ≤ l) (tj_le (ej_dat 6) (ej_dat 5)) (fun h => ?_) (fun h => ?_) (fun Γ3 B3 q => sj_nil q)
      · have hs : b ^ 2 ^ (j - 1 - i) ≤ l := by have := of_decide_eq_true h; omega
        obtain ⟨q1, q2, q3⟩ := step_yes h2 e1 e2 e3 hs
        refine sj_set 4 G.nd (ej_add (ej_dat 4) ej_int) ?_
        refine sj_set 5 G.nd (ej_fdivP (ej_dat 5) (ej_dat 6) hbs) (sj_nil ?_)
        rw [em']
        exact ⟨2 * k + 1, l / b ^ 2 ^ (j - 1 - i), _, by rw [← Int.natCast_ediv]; rfl, rfl, q1, q2, q3⟩
      · have hs : ¬ b ^ 2 ^ (j - 1 - i) ≤ l := by have := of_decide_eq_false h; omega
        obtain ⟨q1, q2⟩ := step_no (k := k) e1 hs
        refine sj_nil ?_
        rw [em']
        exact ⟨2 * k, l, _, rfl, rfl, q1, q2, e3⟩
    · obtain ⟨k, l, z, rfl, rfl, e1, e2, e3⟩ := hP
      rw [sqs_len, Nat.sub_self] at e1 e2
      obtain ⟨q1, q2⟩ := log_end h2 e1 e2 e3
      obtain rfl := pow_uniq h2 q1 q2 h1 h3
      exact sj_ret (ej_dat 4) ⟨rfl, rfl⟩

abbrev s_u_twos_in : Stmt := topS 21
theorem sc_u_twos_in : FnScope ["n"] ["n"] (defScope s_u_twos_in) := ⟨rfl, rfl, rfl, by decide +kernel, rfl, by decide +kernel, by decide +kernel⟩

theorem c_of_u_twos_in (T : At K mg "_twos_in" s_u_twos_in ["n"]) : Cal P w K mg base "_twos_in" 1 R_twos :=
  cal_at T sc_u_twos_in (by rintro _ _ _ _ ⟨⟩; rfl) fun f cd0 A out s H E G Γ B r B' hR => by
  obtain ⟨k, a, B⟩ := hR
  exact sj_ret (ej_sub (ej_bits (ej_band (ej_dat 0) (ej_neg (ej_dat 0)))) ej_int) ⟨by rw [tw_low, bits_two], rfl⟩

abbrev s_zero : Stmt := topS 23
theorem sc_zero : FnScope ["form", "s"] ["form", "s"] (defScope s_zero) := ⟨rfl, rfl, rfl, by decide +kernel, rfl, by decide +kernel, by decide +kernel⟩

theorem c_of_zero (T : At K mg "zero" s_zero ["form", "s"]) : Cal P w K mg base "zero" 4 R_zero :=
  cal_at T sc_zero (by rintro _ _ _ _ ⟨⟩; rfl) fun f cd0 A out s H E G Γ B r B' hR => by
  obtain ⟨b, p, low, high, s, B⟩ := hR
  exact sj_ret (ej_tupD (ad_cons ej_str (ad_cons (ej_dat 1) (ad_cons ej_int (ad_cons (ej_at (ej_dat (d := .tuple [.int b, .int p, .int low, .int high]) 0)) ad_nil)))) (Nat.le_of_ble_eq_true rfl)) ⟨rfl, rfl⟩

abbrev s_rounded : Stmt := topS 25
theorem sc_rounded : FnScope ["form", "way", "x", "s"] ["form", "way", "x", "s"] (defScope s_rounded) := ⟨rfl, rfl, rfl, by decide +kernel, rfl, by decide +kernel, by decide +kernel⟩

theorem c_of_rounded (c_zero : Cal P w K mg base "zero" 4 R_zero) (c_u_outcome : Cal P w K mg base "_outcome" 6 R_outcomeW) (c_sign_of_fraction : Cal P w K mg base "sign_of_fraction" 4 (R_one fun x => .int (sgn x))) (c_u_spot : Cal P w K mg base "_spot" 6 R_spotW) (c_size_of : Cal P w K mg base "size_of" 4 (R_one fun x => fq (absQ x)))
    (T : At K mg "rounded" s_rounded ["form", "way", "x", "s"]) : Cal P w K mg base "rounded" 7 R_roundW :=
  cal_at T sc_rounded (by rintro _ _ _ _ ⟨⟩; rfl) fun f cd0 A out s H E G Γ B r B' hR => by
  obtain ⟨b, p, low, high, way, x, s, n, d, B, F, hw, hs, hx, hn, hd, hz, l1, l2⟩ := hR
  refine sj_when (tj_eqI G.hu (ej_at (ej_dat (d := .tuple [.int x.num, .int (x.den : Int)]) 2)) ej_int) (fun h => ?_) (fun h => ?_)
  · have e : x = 0 := Rat.num_eq_zero.mp (of_decide_eq_true h)
    subst e
    rw [rdP_zero F.D.b2 F.D.lh]
    exact sj_ret (ej_tupD (ad_cons (ej_call c_zero (G.le (by decide)) (aj_cons (ej_dat 0) (aj_cons (ej_dat 3) aj_nil)) (R_zero.mk b p low high s B)) (ad_cons (ej_tupD ad_nil (Nat.le_of_ble_eq_true rfl)) ad_nil)) (Nat.le_of_ble_eq_true rfl)) ⟨rfl, rfl⟩
  · have e : x ≠ 0 := fun z => of_decide_eq_false h (Rat.num_eq_zero.mpr z)
    rw [rdP_pos e]
    exact sj_ret (ej_call c_u_outcome (G.le (by decide)) (aj_cons (ej_dat 0) (aj_cons (ej_dat 1) (aj_cons (ej_call c_sign_of_fraction (G.le (by decide)) (aj_cons (ej_dat 2) aj_nil) (R_one.mk x B))
      (aj_cons (ej_call c_u_spot (G.le (by decide)) (aj_cons (ej_dat 0) (aj_cons (ej_call c_size_of (G.le (by decide)) (aj_cons (ej_dat 2) aj_nil) (R_one.mk x B)) aj_nil)) (R_spotW.mk b p low high (absQ x) n d B F (absQ_pos e) hx.abs hn hd (abs_z hz) (l1 e) l2)) aj_nil)))) (R_outcomeW.mk b p low high way (sgn x) _ _ _ B F)) ⟨rfl, rfl⟩

abbrev s_u_spot : Stmt := topS 26
theorem sc_u_spot : FnScope ["form", "unsigned", "base", "digits", "low", "_", "e", "up", "down", "whole", "c", "left"] ["form", "unsigned"] (defScope s_u_spot) := ⟨rfl, rfl, rfl, by decide +kernel, rfl, by decide +kernel, by decide +kernel⟩

theorem c_of_u_spot (m_max : mg "max" = none) (m_divmod : mg "divmod" = none) (c_power_below : Cal P w K mg base "power_below" 5 R_pbelowW) (c_power_of : Cal P w K mg base "power_of" 5 R_power_of) (c_part_of : Cal P w K mg base "part_of" 4 R_part) (T : At K mg "_spot" s_u_spot ["form", "unsigned"]) : Cal P w K mg base "_spot" 6 R_spotW :=
  cal_at T sc_u_spot (by rintro _ _ _ _ ⟨⟩; rfl) fun f cd0 A out s H E G Γ B r B' hR => by
  obtain ⟨b, p, low, high, q, n, d, B, F, h0, hq, hn, hd, hz, l1, l2⟩ := hR
  have b2 := F.D.b2; have p2 := F.D.p2; have p7 := F.p7
  have hE := eQ_is (p := p) b2 low q
  have h0' := Rat.le_of_lt h0
  obtain ⟨he, hbe⟩ := F.e_ok hE l2
  have dD := F.divD h0 hE
  have hlo := hE.1
  have flo := F.D.lo
  refine sj_unpack [2, 3, 4, 5] G.calm (ej_dat (d := .tuple [.int b, .int p, .int low, .int high]) 0) (pgs_cons (pg_name (i := 2) G.nd rfl (Or.inl rfl)) (pgs_cons (pg_name (i := 3) G.nd rfl (Or.inl rfl)) (pgs_cons (pg_name (i := 4) G.nd rfl (Or.inl rfl)) (pgs_cons (pg_name (i := 5) G.nd rfl (Or.inl rfl)) pgs_nil)))) rfl ?_
  obtain ⟨k, k1, k3⟩ := log_ex b2 h0
  refine sj_set 6 G.nd (ej_is (y := .int (eQ b p low q)) (ej_max G.calm m_max (ej_dat 4) (ej_add (ej_sub (ej_call c_power_below (G.le (by decide)) (aj_cons (ej_dat 2) (aj_cons (ej_dat 1) aj_nil)) (R_pbelowW.mk b q k B b2 h0 hz (F.w1 h0 l2) (F.w2 h0 l1) k1 k3)) (ej_dat 3)) ej_int)) (congrArg PyData.int (e_of_log b2 k1 k3))) ?_
  generalize eQ b p low q = e at *
  have e1 : fq (pw b (-e)) = .tuple [.int ((b ^ (-e).toNat : Nat) : Int), .int ((b ^ e.toNat : Nat) : Int)] := by
    have := fq_pw b2 (-e)
    rw [Int.neg_neg] at this; exact this
  refine sj_unpack [7, 8] G.calm (ej_is (ej_call c_power_of (G.le (by decide)) (aj_cons (ej_dat 2) (aj_cons (ej_neg (ej_dat 6)) aj_nil)) (R_power_of.mk b (-e) B (by omega) F.D.b6 (by omega) (by omega))) e1) (pgs_cons (pg_name (i := 7) G.nd rfl (Or.inl rfl)) (pgs_cons (pg_name (i := 8) G.nd rfl (Or.inl rfl)) pgs_nil)) rfl ?_
  have hup : Bd 4700 ((b ^ (-e).toNat : Nat) : Int) := Bd.nat (F.lo_ok hlo)
  have hdn : Bd 16400 ((b ^ e.toNat : Nat) : Int) := Bd.nat hbe
  have hD : Bd (d + 16400) (Dq b e q) := hq.de.mul hdn
  have hDp := Dq_pos b2 e q
  refine sj_set 9 G.nd (ej_mul (ej_at (ej_dat (d := .tuple [.int q.num, .int (q.den : Int)]) 1)) (ej_dat 8) (cmz hq.de hdn)) ?_
  refine sj_unpack [10, 11] G.calm (ej_divmodP m_divmod (ej_mul (ej_at (ej_dat (d := .tuple [.int q.num, .int (q.den : Int)]) 1)) (ej_dat 7) (cmz hq.nu hup)) (ej_dat (d := .int (Dq b e q)) 9) dD) (pgs_cons (pg_name (i := 10) G.nd rfl (Or.inl rfl)) (pgs_cons (pg_name (i := 11) G.nd rfl (Or.inl rfl)) pgs_nil)) rfl ?_
  exact sj_ret (ej_tupD (ad_cons (ej_dat 6) (ad_cons (ej_dat (d := .int (cQ b e q)) 10) (ad_cons (ej_call c_part_of (G.le (by decide)) (aj_cons (ej_dat (d := .int (rQ b e q)) 11) (aj_cons (ej_dat (d := .int (Dq b e q)) 9) aj_nil)) (R_part.mk _ _ B (d + 16400) (hD.mod hDp) (by omega))) ad_nil))) (Nat.le_of_ble_eq_true rfl)) ⟨rfl, rfl⟩

abbrev s_u_nearest : Stmt := topS 27
theorem sc_u_nearest : FnScope ["form", "way", "s", "spot", "base", "digits", "_", "e", "c", "part"] ["form", "way", "s", "spot"] (defScope s_u_nearest) := ⟨rfl, rfl, rfl, by decide +kernel, rfl, by decide +kernel, by decide +kernel⟩

theorem c_of_u_nearest (c_is_taken_outward : Cal P w K mg base "is_taken_outward" 4 R_outw) (c_integer_power : Cal P w K mg base "integer_power" 4 R_pow) (T : At K mg "_nearest" s_u_nearest ["form", "way", "s", "spot"]) : Cal P w K mg base "_nearest" 5 R_nearestW :=
  cal_at T sc_u_nearest (by rintro _ _ _ _ ⟨⟩; rfl) fun f cd0 A out s H E G Γ B r B' hR => by
  obtain ⟨b, p, low, high, way, s, e, c, part, B, F⟩ := hR
  have b2 := F.D.b2; have p2 := F.D.p2; have p7 := F.p7
  refine sj_unpack [4, 5, 6, 6] G.calm (ej_dat (d := .tuple [.int b, .int p, .int low, .int high]) 0) (pgs_cons (pg_name (i := 4) G.nd rfl (Or.inl rfl)) (pgs_cons (pg_name (i := 5) G.nd rfl (Or.inl rfl)) (pgs_cons (pg_name (i := 6) G.nd rfl (Or.inl rfl)) (pgs_cons (pg_name (i := 6) G.nd rfl (Or.inl rfl)) pgs_nil)))) rfl ?_
  refine sj_unpack [7, 8, 9] G.calm (ej_dat (d := .tuple [.int e, .int c, .int part]) 3) (pgs_cons (pg_name (i := 7) G.nd rfl (Or.inl rfl)) (pgs_cons (pg_name (i := 8) G.nd rfl (Or.inl rfl)) (pgs_cons (pg_name (i := 9) G.nd rfl (Or.inl rfl)) pgs_nil))) rfl ?_
  refine sj_when (tj_not (tj_val (ej_call c_is_taken_outward (G.le (by decide)) (aj_cons (ej_dat 1) (aj_cons (ej_dat 2) (aj_cons (ej_dat 8) (aj_cons (ej_dat 9) aj_nil)))) (R_outw.mk way s c part B)))) (fun h => ?_) (fun h => ?_)
  · have ho : outw way s c part = false := by simpa using h
    rw [ho]
    exact sj_ret (ej_tupD (ad_cons ej_str (ad_cons (ej_dat 2) (ad_cons (ej_dat 8) (ad_cons (ej_dat 7) ad_nil)))) (Nat.le_of_ble_eq_true rfl)) ⟨rfl, rfl⟩
  · have ho : outw way s c part = true := by simpa using h
    rw [ho]
    unfold nb upN
    rw [if_pos rfl]
    refine sj_when (tj_eqI G.hu (ej_add (ej_dat 8) ej_int) (ej_call c_integer_power (G.le (by decide)) (aj_cons (ej_dat 4) (aj_cons (ej_dat 5) aj_nil)) (R_pow.mk b p B F.D.b6 (by omega)))) (fun h => ?_) (fun h => ?_)
    · rw [if_pos (of_decide_eq_true h)]
      have e1 : (p : Int) - 1 = ((p - 1 : Nat) : Int) := by omega
      exact sj_ret (ej_tupD (ad_cons ej_str (ad_cons (ej_dat 2) (ad_cons (ej_call c_integer_power (G.le (by decide)) (aj_cons (ej_dat 4) (aj_cons (ej_is (ej_sub (ej_dat 5) ej_int) (congrArg PyData.int e1)) aj_nil)) (R_pow.mk b (p - 1) B F.D.b6 (by omega))) (ad_cons (ej_add (ej_dat 7) ej_int) ad_nil)))) (Nat.le_of_ble_eq_true rfl)) ⟨rfl, rfl⟩
    · rw [if_neg (of_decide_eq_false h)]
      exact sj_ret (ej_tupD (ad_cons ej_str (ad_cons (ej_dat 2) (ad_cons (ej_add (ej_dat 8) ej_int) (ad_cons (ej_dat 7) ad_nil)))) (Nat.le_of_ble_eq_true rfl)) ⟨rfl, rfl⟩

abbrev s_u_outcome : Stmt := topS 28
theorem sc_u_outcome : FnScope ["form", "way", "s", "spot", "base", "digits", "_", "high", "number", "c", "part"] ["form", "way", "s", "spot"] (defScope s_u_outcome) := ⟨rfl, rfl, rfl, by decide +kernel, rfl, by decide +kernel, by decide +kernel⟩

theorem c_of_u_outcome (c_u_nearest : Cal P w K mg base "_nearest" 5 R_nearestW) (c_u_too_great : Cal P w K mg base "_too_great" 5 R_toogW) (c_integer_power : Cal P w K mg base "integer_power" 4 R_pow) (T : At K mg "_outcome" s_u_outcome ["form", "way", "s", "spot"]) : Cal P w K mg base "_outcome" 6 R_outcomeW :=
  cal_at T sc_u_outcome (by rintro _ _ _ _ ⟨⟩; rfl) fun f cd0 A out s H E G Γ B r B' hR => by
  obtain ⟨b, p, low, high, way, s, e, c, part, B, F⟩ := hR
  have b2 := F.D.b2; have p2 := F.D.p2; have p7 := F.p7
  refine sj_unpack [4, 5, 6, 7] G.calm (ej_dat (d := .tuple [.int b, .int p, .int low, .int high]) 0) (pgs_cons (pg_name (i := 4) G.nd rfl (Or.inl rfl)) (pgs_cons (pg_name (i := 5) G.nd rfl (Or.inl rfl)) (pgs_cons (pg_name (i := 6) G.nd rfl (Or.inl rfl)) (pgs_cons (pg_name (i := 7) G.nd rfl (Or.inl rfl)) pgs_nil)))) rfl ?_
  refine sj_set 8 G.nd (ej_call c_u_nearest (G.le (by decide)) (aj_cons (ej_dat 0) (aj_cons (ej_dat 1) (aj_cons (ej_dat 2) (aj_cons (ej_dat 3) aj_nil)))) (R_nearestW.mk b p low high way s e c part B F)) ?_
  unfold outP
  generalize (nb b p (outw way s c part) c e).1 = c'
  generalize (nb b p (outw way s c part) c e).2 = e'
  refine sj_when (tj_gt (ej_at (ej_dat (d := .tuple [.str "num", .int s, .int c', .int e']) 8)) (ej_dat 7)) (fun h => ?_) (fun h => ?_)
  · rw [if_pos (of_decide_eq_true h)]
    exact sj_ret (ej_tupD (ad_cons (ej_call c_u_too_great (G.le (by decide)) (aj_cons (ej_dat 0) (aj_cons (ej_dat 1) (aj_cons (ej_dat 2) aj_nil))) (R_toogW.mk b p low high way s B F)) (ad_cons (ej_tupD (ad_cons ej_str (ad_cons ej_str ad_nil)) (Nat.le_of_ble_eq_true rfl)) ad_nil)) (Nat.le_of_ble_eq_true rfl)) ⟨rfl, rfl⟩
  · rw [if_neg (of_decide_eq_false h)]
    refine sj_unpack [6, 9, 10] G.calm (ej_dat (d := .tuple [.int e, .int c, .int part]) 3) (pgs_cons (pg_name (i := 6) G.nd rfl (Or.inl rfl)) (pgs_cons (pg_name (i := 9) G.nd rfl (Or.inl rfl)) (pgs_cons (pg_name (i := 10) G.nd rfl (Or.inl rfl)) pgs_nil))) rfl ?_
    refine sj_when (tj_eqI G.hu (ej_dat 10) ej_int) (fun h => ?_) (fun h => ?_)
    · rw [if_pos (of_decide_eq_true h)]
      exact sj_ret (ej_tupD (ad_cons (ej_dat 8) (ad_cons (ej_tupD ad_nil (Nat.le_of_ble_eq_true rfl)) ad_nil)) (Nat.le_of_ble_eq_true rfl)) ⟨rfl, rfl⟩
    · rw [if_neg (of_decide_eq_false h)]
      have e1 : (p : Int) - 1 = ((p - 1 : Nat) : Int) := by omega
      refine sj_when (tj_lt (ej_dat 9) (ej_call c_integer_power (G.le (by decide)) (aj_cons (ej_dat 4) (aj_cons (ej_is (ej_sub (ej_dat 5) ej_int) (congrArg PyData.int e1)) aj_nil)) (R_pow.mk b (p - 1) B F.D.b6 (by omega)))) (fun h => ?_) (fun h => ?_)
      · rw [if_pos (of_decide_eq_true h)]
        exact sj_ret (ej_tupD (ad_cons (ej_dat 8) (ad_cons (ej_tupD (ad_cons ej_str (ad_cons ej_str ad_nil)) (Nat.le_of_ble_eq_true rfl)) ad_nil)) (Nat.le_of_ble_eq_true rfl)) ⟨rfl, rfl⟩
      · rw [if_neg (of_decide_eq_false h)]
        exact sj_ret (ej_tupD (ad_cons (ej_dat 8) (ad_cons (ej_tupD (ad_cons ej_str ad_nil) (Nat.le_of_ble_eq_true rfl)) ad_nil)) (Nat.le_of_ble_eq_true rfl)) ⟨rfl, rfl⟩

abbrev s_u_too_great : Stmt := topS 29
theorem sc_u_too_great : FnScope ["form", "way", "s", "base", "digits", "_", "high"] ["form", "way", "s"] (defScope s_u_too_great) := ⟨rfl, rfl, rfl, by decide +kernel, rfl, by decide +kernel, by decide +kernel⟩

theorem c_of_u_too_great (c_integer_power : Cal P w K mg base "integer_power" 4 R_pow) (T : At K mg "_too_great" s_u_too_great ["form", "way", "s"]) : Cal P w K mg base "_too_great" 5 R_toogW :=
  cal_at T sc_u_too_great (by rintro _ _ _ _ ⟨⟩; rfl) fun f cd0 A out s H E G Γ B r B' hR => by
  obtain ⟨b, p, low, high, way, s, B, F⟩ := hR
  have b2 := F.D.b2; have p2 := F.D.p2; have p7 := F.p7
  refine sj_unpack [3, 4, 5, 6] G.calm (ej_dat (d := .tuple [.int b, .int p, .int low, .int high]) 0) (pgs_cons (pg_name (i := 3) G.nd rfl (Or.inl rfl)) (pgs_cons (pg_name (i := 4) G.nd rfl (Or.inl rfl)) (pgs_cons (pg_name (i := 5) G.nd rfl (Or.inl rfl)) (pgs_cons (pg_name (i := 6) G.nd rfl (Or.inl rfl)) pgs_nil)))) rfl ?_
  refine sj_when (x := isInf way s) (tj_is (tj_w (wj_or (tj_inT (ss := ["even", "away"]) (ej_dat 1) (ej_tupD (ad_cons ej_str (ad_cons ej_str ad_nil)) (Nat.le_of_ble_eq_true rfl))) fun _ => wj_or (tj_w (wj_and (tj_eqS (ej_dat 1) ej_str) fun _ => wj_and1 (tj_eqI G.hu (ej_dat 2) ej_int))) fun _ => wj_or1 (tj_w (wj_and (tj_eqS (ej_dat 1) ej_str) fun _ => wj_and1 (tj_eqI G.hu (ej_dat 2) ej_int))))) (isInf_or way s)) (fun h => ?_) (fun h => ?_)
  · exact sj_ret (ej_tupD (ad_cons ej_str (ad_cons (ej_dat 2) ad_nil)) (Nat.le_of_ble_eq_true rfl)) ⟨by unfold tooG; rw [if_pos h], rfl⟩
  · exact sj_ret (ej_tupD (ad_cons ej_str (ad_cons (ej_dat 2) (ad_cons (ej_sub (ej_call c_integer_power (G.le (by decide)) (aj_cons (ej_dat 3) (aj_cons (ej_dat 4) aj_nil)) (R_pow.mk b p B F.D.b6 (by omega))) ej_int) (ad_cons (ej_dat 6) ad_nil)))) (Nat.le_of_ble_eq_true rfl)) ⟨by unfold tooG; rw [if_neg (by rw [h]; decide)]; rfl, rfl⟩

abbrev s_digits_in : Stmt := topS 32
theorem sc_digits_in : FnScope ["base", "text", "n", "sign", "digit"] ["base", "text"] (defScope s_digits_in) := ⟨rfl, rfl, rfl, by decide +kernel, rfl, by decide +kernel, by decide +kernel⟩

theorem c_of_digits_in (g_digits : Glob K mg "DIGITS" (.str DIGS)) /-H-/  /-E-/ (T : At K mg "digits_in" s_digits_in ["base", "text"]) : Cal P w K mg base "digits_in" 4 R_digin :=
  cal_at T sc_digits_in (by rintro _ _ _ _ ⟨⟩; rfl) fun f cd0 A out s0 H E0 G Γ B r B' hR => by
  obtain ⟨x, B, hd, hne, hl⟩ := hR
  have ne : x ≠ ("" : Str) := fun z => hne (by rw [z]; rfl)
  refine sj_when (x := false) (tj_is (tj_eqS (ej_dat (d := .str x) 1) ej_str) (decide_eq_false ne)) (fun h => Bool.noConfusion h) (fun _ => ?_)
  refine sj_set 2 (d := .da (.int 0)) (B1 := B) G.nd ej_int ?_
  refine sj_forS 3 (z := x) (B1 := B) G.nd G.calm (fun i Γ' B' => B' = B ∧ ∃ g3 g4, Γ' = [.da (.int 10), .da (.str x), .da (.int (digV (x.cps.toList.take i) : Nat)), g3, g4]) (ej_dat (d := .str x) 1) ⟨rfl, _, _, rfl⟩ (fun i c Γ' B' hc hP => ?_) (fun Γ' B' hP => ?_)
  · obtain ⟨rfl, g3, g4, rfl⟩ := hP
    have hc' : x.cps.toList[i]? = some c := by rw [Array.getElem?_toList]; exact hc
    have cd := hd c (List.mem_of_getElem? hc')
    have nb : Bd 13300 ((digV (x.cps.toList.take i) : Nat) : Int) := by
      refine Bd.nat (Nat.lt_of_lt_of_le (digV_lt (isDs_sub hd fun c hc => List.mem_of_mem_take hc)) (Nat.le_trans (Nat.pow_le_pow_right (by decide) (Nat.le_trans (by rw [List.length_take]; exact Nat.min_le_right _ _) hl)) (by decide +kernel)))
    have tk : x.cps.toList.take (i + 1) = x.cps.toList.take i ++ [c] := by rw [List.take_add_one, hc']; rfl
    have up : ((digV (x.cps.toList.take i) : Nat) : Int) * 10 + ((c - 48 : Nat) : Int) = ((digV (x.cps.toList.take (i + 1)) : Nat) : Int) := by rw [tk, digV_snoc]; omega
    generalize digV (x.cps.toList.take i) = n at *
    generalize digV (x.cps.toList.take (i + 1)) = n' at *
    refine sj_set 4 (d := .da (.int ((c - 48 : Nat) : Int))) (B1 := B') G.nd (ej_is (ej_find (ej_glob g_digits) (ej_dat (d := .str ⟨#[c]⟩) 3)) (congrArg PyData.int (digs_find cd))) ?_
    refine sj_when (x := false) (tj_w (wj_or (x := false) (y := false) (tj_is (tj_lt (ej_dat (d := .int ((c - 48 : Nat) : Int)) 4) ej_int) (decide_eq_false (by omega))) fun _ => wj_or1 (tj_is (tj_ge (ej_dat (d := .int ((c - 48 : Nat) : Int)) 4) (ej_dat (d := .int 10) 0)) (decide_eq_false (by omega))))) (fun h => Bool.noConfusion h) (fun _ => ?_)
    exact sj_set 2 (d := .da (.int (n' : Nat))) (B1 := B') G.nd (ej_is (ej_add (ej_mul (ej_dat (d := .int (n : Nat)) 2) (ej_dat (d := .int 10) 0) (cm nb (show Bd 7 10 by unfold Bd; decide) (by decide))) (ej_dat (d := .int ((c - 48 : Nat) : Int)) 4)) (congrArg PyData.int up)) (sj_nil ⟨rfl, _, _, rfl⟩)
  · obtain ⟨rfl, g3, g4, rfl⟩ := hP
    have : x.cps.toList.take x.cps.size = x.cps.toList := List.take_of_length_le (by rw [Array.length_toList]; omega)
    rw [this]
    exact sj_ret (ej_dat 2) ⟨rfl, rfl⟩

abbrev s_decimal_worth : Stmt := topS 33
theorem sc_decimal_worth : FnScope ["decimal", "s", "c", "e"] ["decimal"] (defScope s_decimal_worth) := ⟨rfl, rfl, rfl, by decide +kernel, rfl, by decide +kernel, by decide +kernel⟩

theorem c_of_decimal_worth /-H-/ (c_times : Cal P w K mg base "times" 4 R_timesX) (c_power_of : Cal P w K mg base "power_of" 5 R_power_of) /-E-/ (T : At K mg "decimal_worth" s_decimal_worth ["decimal"]) : Cal P w K mg base "decimal_worth" 6 R_dworth :=
  cal_at T sc_decimal_worth (by rintro _ _ _ _ ⟨⟩; rfl) fun f cd0 A out s0 H E0 G Γ B r B' hR => by
  obtain ⟨s, c, e, B, hs, h0, hc, h1, h2⟩ := hR
  refine sj_unpack [1, 2, 3] (ds := [.int s, .int c, .int e]) G.calm (ej_dat (d := dcD s c e) 0) (pgs_cons (pgN 1 G.nd) (pgs_cons (pgN 2 G.nd) (pgs_cons (pgN 3 G.nd) pgs_nil))) rfl ?_
  have hx : Qz 8900 1 (((if s = 1 then -c else c : Int)) : Rat) := by
    refine ⟨?_, by rw [Rat.den_intCast]; unfold Bd; decide⟩
    rw [Rat.num_intCast]
    split
    · exact hc.neg
    · exact hc
  have e1 : fq ((if s = 1 then -c else c : Int) : Rat) = .tuple [.int (if s = 1 then -c else c), .int 1] := fq_int _
  refine sj_ret (ej_call c_times (G.le (by decide)) (aj_cons (ej_is (y := fq ((if s = 1 then -c else c : Int) : Rat)) (ej_tupD (ad_cons (ej_if (d := .da (.int (if s = 1 then -c else c))) (tj_eqI G.hu (ej_dat 1) ej_int) (fun h => ?_) (fun h => ?_)) (ad_cons ej_int ad_nil)) (Nat.le_of_ble_eq_true rfl)) e1.symm) (aj_cons (ej_call c_power_of (G.le (by decide)) (aj_cons ej_int (aj_cons (ej_dat 3) aj_nil)) (R_power_of.mk 10 e B (by decide) (by decide) (by omega) (by omega))) aj_nil)) (R_timesX.mk 8900 1 26600 26600 _ _ B hx (ten_qzW (by omega) (by omega)) (by decide) (by decide) (by decide) (by decide) (.inl hx.nu) (.inr (hx.de.le (by decide))))) ⟨rfl, rfl⟩
  · rw [if_pos (of_decide_eq_true h)]; exact ej_neg (ej_dat 2)
  · rw [if_neg (of_decide_eq_false h)]; exact (ej_dat 2)

abbrev s_decimal_of : Stmt := topS 34
theorem sc_decimal_of : FnScope ["text", "s", "unsigned", "digits", "mark", "power", "ahead", "_", "behind", "c", "e"] ["text"] (defScope s_decimal_of) := ⟨rfl, rfl, rfl, by decide +kernel, rfl, by decide +kernel, by decide +kernel⟩

theorem c_of_decimal_of /-H-/ (m_isinstance : mg "isinstance" = none) (m_str : mg "str" = none) (m_len : mg "len" = none) (c_parted_sign : Cal P w K mg base "parted_sign" 4 R_psign) (c_digits_in : Cal P w K mg base "digits_in" 4 R_digin) (c_u_signed_integer : Cal P w K mg base "_signed_integer" 6 R_sint) /-E-/ (T : At K mg "decimal_of" s_decimal_of ["text"]) : Cal P w K mg base "decimal_of" 8 R_decof :=
  cal_at T sc_decimal_of (by rintro _ _ _ _ ⟨⟩; rfl) fun f cd0 A out s0 H E0 G Γ B r B' hR => by
  obtain ⟨x, s, c, e, B, h⟩ := hR
  obtain ⟨u, m, A1, D, E, hs, hE, hM, hA, hD, hn, rfl, rfl, hl⟩ := h.ex
  have sl : (4000 : Nat) ≤ sizeLine := by decide
  have lx : x.length ≤ sizeLine := Nat.le_trans hl sl
  have ul : u.cps.toList.length ≤ 4000 := by have := hs.len; rw [len_tl] at hl; omega
  have lu : u.length ≤ sizeLine := by rw [len_tl]; exact Nat.le_trans ul sl
  have ml : m.cps.toList.length ≤ 4000 := by
    cases hE with
    | none => exact ul
    | e p _ _ _ _ _ _ _ => rw [tl_app, tl_app, List.length_append, List.length_append] at ul; omega
  have al : A1.cps.toList.length + D.cps.toList.length ≤ 4000 := by
    rcases hM.tl with ⟨e, e2⟩ | e
    · rw [e] at ml; rw [e2]; exact ml
    · rw [e, List.length_append, List.length_cons] at ml; omega
  have ad : (A1 ++ D).cps.toList = A1.cps.toList ++ D.cps.toList := tl_app _ _
  refine sj_when (x := false) (tj_is (tj_not (x := true) (tj_val (ej_isi (T := "str") (r := true) m_isinstance m_str (ej_dat (d := .str x) 0)))) rfl) (fun h => Bool.noConfusion h) (fun _ => ?_)
  refine sj_unpack [1, 2] (ds := [.int s, .str u]) G.calm (ej_call c_parted_sign (G.le (by decide)) (aj_cons (ej_dat (d := .str x) 0) aj_nil) (R_psign.mk x s u B hs lx)) (pgs_cons (pgN 1 G.nd) (pgs_cons (pgN 2 G.nd) pgs_nil)) rfl ?_
  have no := hM.no_e hA hD
  obtain ⟨zt, pd⟩ := mt_part hM hA
  have lm : m.length ≤ sizeLine := by rw [len_tl]; exact Nat.le_trans ml sl
  have R1 := R_digin.mk (A1 ++ D) B (by rw [ad]; exact isDs_app hA hD) (by rw [ad]; exact hn) (by rw [ad, List.length_append]; exact al)
  rw [ad] at R1
  have ld : D.length ≤ sizeLine := by rw [len_tl]; omega
  have lc : A1.length + D.length ≤ sizeLine := by rw [len_tl, len_tl]; omega
  cases hE with
  | none =>
    have pe := part_e0 no
    refine sj_unpack [3, 4, 5] (ds := [.str u, .str Str.empty, .str Str.empty]) G.calm (ej_is (ej_partition (ej_dat (d := .str u) 2) ej_str rfl lm) (by rw [pe])) (pgs_cons (pgN 3 G.nd) (pgs_cons (pgN 4 G.nd) (pgs_cons (pgN 5 G.nd) pgs_nil))) rfl ?_
    refine sj_unpack [6, 7, 8] (ds := [.str A1, .str zt, .str D]) G.calm (ej_is (ej_partition (ej_dat (d := .str u) 3) ej_str rfl lm) (by rw [pd])) (pgs_cons (pgN 6 G.nd) (pgs_cons (pgN 7 G.nd) (pgs_cons (pgN 8 G.nd) pgs_nil))) rfl ?_
    refine sj_par 9 10 (d1 := .da (.int (digV (A1.cps.toList ++ D.cps.toList) : Nat))) (d2 := .da (.int 0)) (B1 := B) G.nd G.calm (aj_cons (ej_call c_digits_in (G.le (by decide)) (aj_cons ej_int (aj_cons (ej_catS (ej_dat (d := .str A1) 6) (ej_dat (d := .str D) 8) lc) aj_nil)) (R1)) (aj_cons ej_int aj_nil)) ?_ (by decide) (by rfl)
    refine sj_when (x := false) (tj_is (tj_eqS (ej_dat (d := .str Str.empty) 4) ej_str) (by decide +kernel)) (fun h => Bool.noConfusion h) (fun _ => ?_)
    generalize digV (A1.cps.toList ++ D.cps.toList) = n at *
    refine sj_when (x := false) (tj_w (wj_or (x := false) (y := false) (tj_is (tj_isN (ej_dat (d := .int (n : Nat)) 9)) rfl) fun _ => wj_or1 (tj_is (tj_isN (ej_dat (d := .int 0) 10)) rfl))) (fun h => Bool.noConfusion h) (fun _ => ?_)
    exact sj_ret (ej_is (y := dcD s n (0 - (D.cps.toList.length : Int))) (ej_tupD (ad_cons (ej_dat (d := .int s) 1) (ad_cons (ej_dat (d := .int (n : Nat)) 9) (ad_cons (ej_sub (ej_dat (d := .int 0) 10) (ej_lenS (y := D) ld m_len (ej_dat (d := .str D) 8))) ad_nil))) (Nat.le_of_ble_eq_true rfl)) (by rw [len_tl]; rfl)) ⟨rfl, rfl⟩
  | e p s2 y h2 hlp hd2 hn2 hy2 =>
    have pe := part_e (p := p) no
    generalize hu : m ++ "e" ++ p = u at *
    have R2 := R_sint.mk p s2 y B h2 hlp hd2 hn2 hy2
    generalize (if s2 = 1 then -((digV y.cps.toList : Nat) : Int) else ((digV y.cps.toList : Nat) : Int)) = E at *
    refine sj_unpack [3, 4, 5] (ds := [.str m, .str "e", .str p]) G.calm (ej_is (ej_partition (ej_dat (d := .str u) 2) ej_str rfl lu) (by rw [pe])) (pgs_cons (pgN 3 G.nd) (pgs_cons (pgN 4 G.nd) (pgs_cons (pgN 5 G.nd) pgs_nil))) rfl ?_
    refine sj_unpack [6, 7, 8] (ds := [.str A1, .str zt, .str D]) G.calm (ej_is (ej_partition (ej_dat (d := .str m) 3) ej_str rfl lm) (by rw [pd])) (pgs_cons (pgN 6 G.nd) (pgs_cons (pgN 7 G.nd) (pgs_cons (pgN 8 G.nd) pgs_nil))) rfl ?_
    refine sj_par 9 10 (d1 := .da (.int (digV (A1.cps.toList ++ D.cps.toList) : Nat))) (d2 := .da (.int 0)) (B1 := B) G.nd G.calm (aj_cons (ej_call c_digits_in (G.le (by decide)) (aj_cons ej_int (aj_cons (ej_catS (ej_dat (d := .str A1) 6) (ej_dat (d := .str D) 8) lc) aj_nil)) (R1)) (aj_cons ej_int aj_nil)) ?_ (by decide) (by rfl)
    generalize digV (A1.cps.toList ++ D.cps.toList) = n at *
    refine sj_ifT (tj_is (tj_eqS (ej_dat (d := .str "e") 4) ej_str) (by decide +kernel)) ?_
    refine sj_set 10 (d := .da (.int E)) (B1 := B) G.nd (ej_call c_u_signed_integer (G.le (by decide)) (aj_cons (ej_dat (d := .str p) 5) aj_nil) (R2)) (sj_nil ?_)
    refine sj_when (x := false) (tj_w (wj_or (x := false) (y := false) (tj_is (tj_isN (ej_dat (d := .int (n : Nat)) 9)) rfl) fun _ => wj_or1 (tj_is (tj_isN (ej_dat (d := .int E) 10)) rfl))) (fun h => Bool.noConfusion h) (fun _ => ?_)
    exact sj_ret (ej_is (y := dcD s n (E - (D.cps.toList.length : Int))) (ej_tupD (ad_cons (ej_dat (d := .int s) 1) (ad_cons (ej_dat (d := .int (n : Nat)) 9) (ad_cons (ej_sub (ej_dat (d := .int E) 10) (ej_lenS (y := D) ld m_len (ej_dat (d := .str D) 8))) ad_nil))) (Nat.le_of_ble_eq_true rfl)) (by rw [len_tl]; rfl)) ⟨rfl, rfl⟩

abbrev s_parted_sign : Stmt := topS 35
theorem sc_parted_sign : FnScope ["text"] ["text"] (defScope s_parted_sign) := ⟨rfl, rfl, rfl, by decide +kernel, rfl, by decide +kernel, by decide +kernel⟩

theorem c_of_parted_sign /-H-/  /-E-/ (T : At K mg "parted_sign" s_parted_sign ["text"]) : Cal P w K mg base "parted_sign" 4 R_psign :=
  cal_at T sc_parted_sign (by rintro _ _ _ _ ⟨⟩; rfl) fun f cd0 A out s0 H E0 G Γ B r B' hR => by
  obtain ⟨x, s, y, B, h, hl⟩ := hR
  have q1 := starts1 x 45
  have q2 := starts1 x 43
  rw [← s_minus] at q1
  rw [← s_plus] at q2
  cases h with
  | minus _ h =>
    have e1 : Txt.startswith x "-" = true := by rw [q1, h]; rfl
    refine sj_when (x := true) (tj_is (tj_val (ej_startswith (ej_dat (d := .str x) 0) ej_str)) e1) (fun _ => ?_) (fun h => Bool.noConfusion h)
    exact sj_ret (ej_is (ej_tupD (ad_cons ej_int (ad_cons (ej_sliceS (ej_dat (d := .str x) 0) (oj_some ej_int) oj_none hl) ad_nil)) (Nat.le_of_ble_eq_true rfl)) (by rw [cutS1 h])) ⟨rfl, rfl⟩
  | plus _ h =>
    have e1 : Txt.startswith x "-" = false := by rw [q1, h]; rfl
    have e2 : Txt.startswith x "+" = true := by rw [q2, h]; rfl
    refine sj_when (x := false) (tj_is (tj_val (ej_startswith (ej_dat (d := .str x) 0) ej_str)) e1) (fun h => Bool.noConfusion h) (fun _ => ?_)
    exact sj_ret (ej_is (ej_tupD (ad_cons ej_int (ad_cons (ej_ifT (tj_is (tj_val (ej_startswith (ej_dat (d := .str x) 0) ej_str)) e2) (ej_sliceS (ej_dat (d := .str x) 0) (oj_some ej_int) oj_none hl)) ad_nil)) (Nat.le_of_ble_eq_true rfl)) (by rw [cutS1 h])) ⟨rfl, rfl⟩
  | none h1 h2 =>
    have e1 : Txt.startswith x "-" = false := by rw [q1]; exact decide_eq_false h1
    have e2 : Txt.startswith x "+" = false := by rw [q2]; exact decide_eq_false h2
    refine sj_when (x := false) (tj_is (tj_val (ej_startswith (ej_dat (d := .str x) 0) ej_str)) e1) (fun h => Bool.noConfusion h) (fun _ => ?_)
    exact sj_ret (ej_tupD (ad_cons ej_int (ad_cons (ej_ifF (tj_is (tj_val (ej_startswith (ej_dat (d := .str x) 0) ej_str)) e2) (ej_dat (d := .str x) 0)) ad_nil)) (Nat.le_of_ble_eq_true rfl)) ⟨rfl, rfl⟩

abbrev s_u_signed_integer : Stmt := topS 36
theorem sc_u_signed_integer : FnScope ["text", "s", "unsigned", "n"] ["text"] (defScope s_u_signed_integer) := ⟨rfl, rfl, rfl, by decide +kernel, rfl, by decide +kernel, by decide +kernel⟩

theorem c_of_u_signed_integer /-H-/ (c_parted_sign : Cal P w K mg base "parted_sign" 4 R_psign) (c_digits_in : Cal P w K mg base "digits_in" 4 R_digin) /-E-/ (T : At K mg "_signed_integer" s_u_signed_integer ["text"]) : Cal P w K mg base "_signed_integer" 6 R_sint :=
  cal_at T sc_u_signed_integer (by rintro _ _ _ _ ⟨⟩; rfl) fun f cd0 A out s0 H E0 G Γ B r B' hR => by
  obtain ⟨x, s, y, B, h, hl, hd, hn, hy⟩ := hR
  refine sj_unpack [1, 2] (ds := [.int s, .str y]) G.calm (ej_call c_parted_sign (G.le (by decide)) (aj_cons (ej_dat (d := .str x) 0) aj_nil) (R_psign.mk x s y B h hl)) (pgs_cons (pgN 1 G.nd) (pgs_cons (pgN 2 G.nd) pgs_nil)) rfl ?_
  refine sj_set 3 (d := .da (.int (digV y.cps.toList : Nat))) (B1 := B) G.nd (ej_call c_digits_in (G.le (by decide)) (aj_cons ej_int (aj_cons (ej_dat (d := .str y) 2) aj_nil)) (R_digin.mk y B hd hn hy)) ?_
  generalize digV y.cps.toList = n at *
  refine sj_when (x := false) (tj_is (tj_isN (ej_dat (d := .int (n : Nat)) 3)) rfl) (fun h => Bool.noConfusion h) (fun _ => ?_)
  by_cases h1 : s = 1
  · rw [if_pos h1]
    exact sj_ret (ej_ifT (tj_is (tj_eqI G.hu (ej_dat (d := .int s) 1) ej_int) (decide_eq_true h1)) (ej_neg (ej_dat (d := .int (n : Nat)) 3))) ⟨rfl, rfl⟩
  · rw [if_neg h1]
    exact sj_ret (ej_ifF (tj_is (tj_eqI G.hu (ej_dat (d := .int s) 1) ej_int) (decide_eq_false h1)) (ej_dat (d := .int (n : Nat)) 3)) ⟨rfl, rfl⟩

abbrev s_read_decimal : Stmt := topS 38
theorem sc_read_decimal : FnScope ["form", "way", "decimal", "s", "c", "e", "_", "digits", "low", "high", "far", "place"] ["form", "way", "decimal"] (defScope s_read_decimal) := ⟨rfl, rfl, rfl, by decide +kernel, rfl, by decide +kernel, by decide +kernel⟩

theorem c_of_read_decimal /-H-/ (m_abs : mg "abs" = none) (c_zero : Cal P w K mg base "zero" 4 R_zero) (c_power_below : Cal P w K mg base "power_below" 5 R_pbelowW) (c_rounded : Cal P w K mg base "rounded" 7 R_roundW) (c_decimal_worth : Cal P w K mg base "decimal_worth" 6 R_dworth) /-E-/ (T : At K mg "read_decimal" s_read_decimal ["form", "way", "decimal"]) : Cal P w K mg base "read_decimal" 8 R_read :=
  cal_at T sc_read_decimal (by rintro _ _ _ _ ⟨⟩; rfl) fun f cd0 A out s0 H E0 G Γ B r B' hR => by
  obtain ⟨b, p, low, high, way, s, c, e, B, F, hw, hs, h0, hc, h1⟩ := hR
  have b2 := F.D.b2; have p7 := F.p7; have lo := F.D.lo; have hi := F.D.hi; have lh := F.D.lh; have fr := F.far
  refine sj_unpack [3, 4, 5] (ds := [.int s, .int c, .int e]) G.calm (ej_dat (d := dcD s c e) 2) (pgs_cons (pgN 3 G.nd) (pgs_cons (pgN 4 G.nd) (pgs_cons (pgN 5 G.nd) pgs_nil))) rfl ?_
  by_cases cz : c = 0
  · subst cz
    rw [dq_zero, rdP_zero b2 lh]
    refine sj_when (x := true) (tj_is (tj_eqI G.hu (ej_dat 4) ej_int) rfl) (fun _ => ?_) (fun h => Bool.noConfusion h)
    exact sj_ret (ej_tupD (ad_cons (ej_call c_zero (G.le (by decide)) (aj_cons (ej_dat 0) (aj_cons (ej_dat 3) aj_nil)) (R_zero.mk b p low high s B)) (ad_cons (ej_tupD ad_nil (Nat.le_of_ble_eq_true rfl)) ad_nil)) (Nat.le_of_ble_eq_true rfl)) ⟨rfl, rfl⟩
  have c0 : 0 < c := by omega
  refine sj_when (x := false) (tj_is (tj_eqI G.hu (ej_dat 4) ej_int) (decide_eq_false cz)) (fun h => Bool.noConfusion h) (fun _ => ?_)
  refine sj_unpack [6, 7, 8, 9] (ds := [.int b, .int p, .int low, .int high]) G.calm (ej_dat (d := fmP b p low high) 0) (pgs_cons (pgN 6 G.nd) (pgs_cons (pgN 7 G.nd) (pgs_cons (pgN 8 G.nd) (pgs_cons (pgN 9 G.nd) pgs_nil)))) rfl ?_
  obtain ⟨fa, hfa⟩ : ∃ fa : Int, ((farN p low high : Nat) : Int) = fa := ⟨_, rfl⟩
  have ef : 2 * (absI low + absI high + p) + 1 = fa := by rw [← hfa]; unfold farN absI; split <;> split <;> omega
  have bs : Bd 60 (absI low + absI high + p) := by unfold Bd absI; split <;> split <;> omega
  refine sj_set 10 (d := .da (.int fa)) (B1 := B) G.nd (ej_is (ej_add (ej_mul ej_int (ej_add (ej_add (ej_abs m_abs (ej_dat 8)) (ej_abs m_abs (ej_dat 9))) (ej_dat 7)) (cm (show Bd 60 (2 : Int) by unfold Bd; decide) bs)) ej_int) (congrArg PyData.int ef)) ?_
  have cq : (0 : Rat) < (c : Rat) := by exact_mod_cast c0
  obtain ⟨k, k1, k2⟩ := log_ex (b := 10) (by decide) cq
  have kb := k_bound c0 hc k1 k2
  have fc : fq (c : Rat) = .tuple [.int c, .int 1] := fq_int c
  have cn : c.toNat < 2 ^ 8999 := by
    unfold Bd at hc
    exact Nat.lt_of_lt_of_le (show c.toNat < 2 ^ 8900 by omega) (Nat.pow_le_pow_right (by decide) (by decide))
  have RP := R_pbelowW.mk 10 (c : Rat) k B (by decide) cq (.inr (by rw [Rat.den_intCast]; exact Bd.le (n := 60) (by unfold Bd; decide) (by decide))) (by rw [Rat.num_intCast, Rat.den_intCast, Nat.div_one]; exact wh_small cn) (by rw [Rat.den_intCast, Nat.sub_self, Nat.zero_div]; exact wh_small (Nat.pow_pos (by decide))) k1 k2
  rw [fc] at RP
  refine sj_set 11 (d := .da (.int (k + e))) (B1 := B) G.nd (ej_add (ej_call c_power_below (G.le (by decide)) (aj_cons ej_int (aj_cons (ej_tupD (ad_cons (ej_dat 4) (ad_cons ej_int ad_nil)) (Nat.le_of_ble_eq_true rfl)) aj_nil)) (RP)) (ej_dat 5)) ?_
  obtain ⟨hi1, hi2⟩ := rd_clamp hs c0 (e := e) (p := p) (low := low) (high := high) b2 F.D.b6 (way := way) k1 k2
  rw [hfa] at hi1 hi2
  have fin : ∀ (c' e' : Int) (v : PyData), 0 < c' → Bd 8900 c' → -8000 ≤ e' → e' ≤ 8000 → (pw 10 (-fa) ≤ (c' : Rat) * pw 10 e' ∧ (c' : Rat) * pw 10 e' < pw 10 (fa + 1)) → rdP b p low high way (dqQ s c' e') s = v →
      SJ (cxOf CX0 P w K mg base ["form", "way", "decimal", "s", "c", "e", "_", "digits", "low", "high", "far", "place"] "read_decimal" (defScope s_read_decimal) f cd0 A out s0 H E0).nox [.da (fmP b p low high), .da (.str way), .da (dcD s c' e'), .da (.int s), .da (.int c), .da (.int e), .da (.int b), .da (.int p), .da (.int low), .da (.int high), .da (.int fa), .da (.int (k + e))] B ((defBody s_read_decimal).drop 6) { nx := fun _ B2 => v = .none ∧ B2 = B, rt := fun d B2 => d = v ∧ B2 = B } := fun c' e' v q0 qc q1 q2 q3 hv => by
    obtain ⟨z1, z2⟩ := dq_qz (e := e') hs q0 qc q1 q2
    have ab := dq_abs (e := e') hs q0
    refine sj_ret (ej_call c_rounded (G.le (by decide)) (aj_cons (ej_dat 0) (aj_cons (ej_dat 1) (aj_cons (ej_call c_decimal_worth (G.le (by decide)) (aj_cons (ej_dat (d := dcD s c' e') 2) aj_nil) (R_dworth.mk s c' e' B hs (Int.le_of_lt q0) qc q1 q2)) (aj_cons (ej_dat 3) aj_nil)))) (R_roundW.mk b p low high way (dqQ s c' e') s 40000 40000 B F hw hs z1 (by decide) (by decide) z2 (fun _ => by rw [hfa, ab]; exact q3.1) (by rw [hfa, ab]; exact q3.2))) ⟨hv, rfl⟩
  have one : ∀ x : Rat, ((1 : Int) : Rat) * x = x := fun x => by rw [show ((1 : Int) : Rat) = 1 from rfl, Rat.one_mul]
  have f0 : 0 ≤ fa ∧ fa ≤ 4900 := by omega
  by_cases hf : fa < absI (k + e)
  · refine sj_ifX (tx_tj (tj_is (tj_gt (ej_abs m_abs (ej_dat 11)) (ej_dat 10)) (decide_eq_true hf)) ⟨fun _ => ?_, fun h => Bool.noConfusion h⟩)
    by_cases hp : 0 < k + e
    · refine sj_set 2 (d := .da (dcD s 1 fa)) (B1 := B) G.nd (ej_tupD (ad_cons (ej_dat 3) (ad_cons ej_int (ad_cons (ej_ifT (tj_is (tj_gt (ej_dat 11) ej_int) (decide_eq_true hp)) (ej_dat 10)) ad_nil))) (Nat.le_of_ble_eq_true rfl)) (sj_nil ?_)
      refine fin 1 fa _ (by decide) (Bd.le (n := 60) (by unfold Bd; decide) (by decide)) (by omega) (by omega) ⟨?_, ?_⟩ (hi1 (by unfold absI at hf; split at hf <;> omega)).symm
      · rw [one]; exact pw_mono (by decide) (by omega)
      · rw [one]; exact pw_lt (by decide) (by omega)
    · refine sj_set 2 (d := .da (dcD s 1 (-fa))) (B1 := B) G.nd (ej_tupD (ad_cons (ej_dat 3) (ad_cons ej_int (ad_cons (ej_ifF (tj_is (tj_gt (ej_dat 11) ej_int) (decide_eq_false hp)) (ej_neg (ej_dat 10))) ad_nil))) (Nat.le_of_ble_eq_true rfl)) (sj_nil ?_)
      refine fin 1 (-fa) _ (by decide) (Bd.le (n := 60) (by unfold Bd; decide) (by decide)) (by omega) (by omega) ⟨?_, ?_⟩ (hi2 (by unfold absI at hf; split at hf <;> omega)).symm
      · rw [one]; exact Rat.le_refl
      · rw [one]; exact pw_lt (by decide) (by omega)
  · refine sj_when (x := false) (tj_is (tj_gt (ej_abs m_abs (ej_dat 11)) (ej_dat 10)) (decide_eq_false hf)) (fun h => Bool.noConfusion h) (fun _ => ?_)
    have hb : -fa ≤ k + e ∧ k + e ≤ fa := by unfold absI at hf; split at hf <;> omega
    have pe := pw_pos (b := 10) (by decide) e
    refine fin c e _ c0 hc (by omega) (by omega) ⟨?_, ?_⟩ rfl
    · refine Rat.le_trans (pw_mono (by decide) (show -fa ≤ k + e from hb.1)) ?_
      rw [pw_add (by decide)]
      exact Rat.mul_le_mul_of_nonneg_right k1 (Rat.le_of_lt pe)
    · have x1 : (c : Rat) * pw 10 e < pw 10 (k + 1) * pw 10 e := Rat.mul_lt_mul_of_pos_right k2 pe
      rw [← pw_add (by decide)] at x1
      exact ltle x1 (pw_mono (by decide) (by omega))

abbrev s_read : Stmt := topS 39
theorem sc_read : FnScope ["form", "way", "text", "s", "unsigned"] ["form", "way", "text"] (defScope s_read) := ⟨rfl, rfl, rfl, by decide +kernel, rfl, by decide +kernel, by decide +kernel⟩

theorem c_of_read /-H-/ (m_isinstance : mg "isinstance" = none) (m_str : mg "str" = none) (c_is_format : Cal P w K mg base "is_format" 6 R_isfmt) (c_is_way : Cal P w K mg base "is_way" 5 R_isway) (c_parted_sign : Cal P w K mg base "parted_sign" 4 R_psign) (c_read_decimal : Cal P w K mg base "read_decimal" 8 R_read) (c_decimal_of : Cal P w K mg base "decimal_of" 8 R_decof) /-E-/ (T : At K mg "read" s_read ["form", "way", "text"]) : Cal P w K mg base "read" 10 R_readT :=
  cal_at T sc_read (by rintro _ _ _ _ ⟨⟩; rfl) fun f cd0 A out s0 H E0 G Γ B r B' hR => by
  obtain ⟨b, p, low, high, way, x, s, c, e, B, F, hb, hw, h, hc, he⟩ := hR
  obtain ⟨u, m, A1, D, E, hs, hE, hM, hA, hD, hn, _, _, hl⟩ := h.ex
  obtain ⟨c0, r0, hu, hc0⟩ := u_head hE hM hA hn
  obtain ⟨n1, n2⟩ := dec_heads hs hu hc0
  have lx : x.length ≤ sizeLine := Nat.le_trans hl (by decide)
  refine sj_when (x := false) (tj_is (tj_not (x := true) (tj_val (ej_call c_is_format (G.le (by decide)) (aj_cons (ej_dat (d := fmP b p low high) 0) aj_nil) (R_isfmt.mk b p low high B F hb)))) rfl) (fun h => Bool.noConfusion h) (fun _ => ?_)
  refine sj_when (x := false) (tj_is (tj_not (x := true) (tj_val (ej_call c_is_way (G.le (by decide)) (aj_cons (ej_dat (d := .str way) 1) aj_nil) (R_isway.mk way B hw)))) rfl) (fun h => Bool.noConfusion h) (fun _ => ?_)
  refine sj_when (x := false) (tj_is (tj_not (x := true) (tj_val (ej_isi (T := "str") (r := true) m_isinstance m_str (ej_dat (d := .str x) 2)))) rfl) (fun h => Bool.noConfusion h) (fun _ => ?_)
  refine sj_when (x := false) (tj_is (tj_eqS (ej_dat (d := .str x) 2) ej_str) (decide_eq_false n1)) (fun h => Bool.noConfusion h) (fun _ => ?_)
  refine sj_unpack [3, 4] (ds := [.int s, .str u]) G.calm (ej_call c_parted_sign (G.le (by decide)) (aj_cons (ej_dat (d := .str x) 2) aj_nil) (R_psign.mk x s u B hs lx)) (pgs_cons (pgN 3 G.nd) (pgs_cons (pgN 4 G.nd) pgs_nil)) rfl ?_
  refine sj_when (x := false) (tj_is (tj_eqS (ej_dat (d := .str u) 4) ej_str) (decide_eq_false n2)) (fun h => Bool.noConfusion h) (fun _ => ?_)
  exact sj_ret (ej_call c_read_decimal (G.le (by decide)) (aj_cons (ej_dat (d := fmP b p low high) 0) (aj_cons (ej_dat (d := .str way) 1) (aj_cons (ej_call c_decimal_of (G.le (by decide)) (aj_cons (ej_dat (d := .str x) 2) aj_nil) (R_decof.mk x s c e B h)) aj_nil))) (R_read.mk b p low high way s c e B F hw hs.s01 (Int.natCast_nonneg _) hc he)) ⟨rfl, rfl⟩

abbrev s_l_bag : Stmt := topS 41
theorem sc_l_bag : FnScope ["_law_script", "_law_cell"] ["_law_script"] (defScope s_l_bag) := ⟨rfl, rfl, rfl, by decide +kernel, rfl, by decide +kernel, by decide +kernel⟩

theorem c_of_l_bag (m_abs : mg "abs" = none) (T : At K mg "_law_bag" s_l_bag ["_law_script"]) : Cal P w K mg base "_law_bag" 4 R_bag :=
  cal_at T sc_l_bag (by rintro _ _ _ _ ⟨⟩; rfl) fun f cd0 A out s H E G Γ B r B' hR => by
  obtain ⟨ns, B, hl⟩ := hR
  refine sj_ret (ej_lstD (ad_cons ej_int (ad_cons ej_int (ad_cons ej_int (ad_cons (ej_lc (j := 1) (x := "_law_cell") G.nd G.calm (blkOk_by (N := ["_law_script", "_law_cell"]) (sc := defScope s_l_bag) (by decide +kernel)) (fun _ _ _ _ _ => pg_name (i := 1) G.nd rfl (Or.inl rfl))
    (rj_lc (ds := (ns.take 63).map .int) (ys := ((ns.take 63).map absI).map .int) (fun _ => B) (ej_is (ej_sliceScr (ej_var 0 (d := .scr ns) rfl (fun z => nomatch z)) oj_none (oj_some ej_int)) (congrArg PyData.list (cut_head ns 63)))
      (by simp) (by rw [List.length_map, List.length_take]; omega) ?_)) ad_nil)))) (Nat.le_of_ble_eq_true rfl)) ⟨rfl, rfl⟩
  intro i y z hy hz s H C cl fp
  rw [List.getElem?_map] at hy hz
  rw [List.getElem?_map] at hz
  obtain ⟨n, hn, rfl⟩ := Option.map_eq_some_iff.mp hy
  rw [hn] at hz
  cases hz
  exact ej_abs m_abs (ej_dat 1)

abbrev s_l_take : Stmt := topS 42
theorem sc_l_take : FnScope ["_law_bag_here", "_law_many", "_law_cell", "_law_stirred", "_law_value", "_law_begin", "_law_second"] ["_law_bag_here", "_law_many"] (defScope s_l_take) := ⟨rfl, rfl, rfl, by decide +kernel, rfl, by decide +kernel, by decide +kernel⟩

theorem c_of_l_take (m_int : mg "int" = none) (T : At K mg "_law_take" s_l_take ["_law_bag_here", "_law_many"]) : Cal P w K mg base "_law_take" 4 R_take :=
  cal_at T sc_l_take (by rintro _ _ _ _ ⟨⟩; rfl) fun f cd0 A out s H E G Γ B r B' hR => by
  obtain ⟨B, m, hm, hb, hc⟩ := hR
  refine sj_ifM (fun Γ' B2 => B2 = stir B ∧ Γ'[0]? = some .bag ∧ Γ'[1]? = some (.da (.int m)) ∧ Γ'.length = 7) (tj_eqI G.hu (ej_bagAt (k := 0) (ej_bag 0) ej_int rfl (.inl ⟨rfl, rfl⟩) fun _ _ => rfl) ej_int) (fun h => ?_) (fun h => ?_) ?_
  · have hx : B.x = 0 := of_decide_eq_true h
    refine sj_set 2 G.nd (ej_ixL (ej_catL (ej_sliceL (ej_bagAt (k := 3) (ej_bag 0) ej_int rfl (.inr (.inr (.inr ⟨rfl, rfl⟩))) fun _ _ => rfl) (oj_some (ej_bagAt (k := 2) (ej_bag 0) ej_int rfl (.inr (.inr (.inl ⟨rfl, rfl⟩))) fun _ _ => rfl)) oj_none) (ej_lstD (ad_cons ej_int ad_nil) (Nat.le_of_ble_eq_true rfl)) ?_) ej_int (drop_cell B) fun _ _ => rfl) ?_
    · have h63 : B.cs.length ≤ 63 := hc
      show (cutP (B.cs.map PyData.int) (some B.z) none).length + 1 ≤ 1000
      unfold cutP
      rw [List.length_take, List.length_drop, List.length_map]; omega
    refine sj_bagAug (ej_bag 0) ej_int ej_int rfl ?_
    refine sj_ifM (fun Γ' B2 => Γ' = [.bag, .da (.int m), .da (.int (cell B)), .no, .no, .no, .no] ∧ B2 = ⟨if 10 ^ 18 ≤ cell B then cell B else B.x, B.y, B.z + 1, B.cs⟩)
      (tj_ge (ej_dat 2) (ej_pow ej_int ej_int ⟨by decide, by decide, by decide⟩)) (fun h => ?_) (fun h => ?_) ?_
    · refine sj_bagSet (ej_dat 2) (ej_bag 0) ej_int (k := 0) rfl (.inl ⟨rfl, rfl⟩) (sj_nil ⟨rfl, ?_⟩)
      have h' : (10 : Int) ^ 18 ≤ cell B := of_decide_eq_true h
      rw [if_pos h']
    · refine sj_nil ⟨rfl, ?_⟩
      have h' : ¬ (10 : Int) ^ 18 ≤ cell B := of_decide_eq_false h
      rw [if_neg h']
    · rintro Γ2 B2 ⟨rfl, rfl⟩
      refine sj_set 3 G.nd (ej_add (ej_add (ej_mulC (ej_bagAt (k := 1) (ej_bag 0) ej_int rfl (.inr (.inl ⟨rfl, rfl⟩)) fun _ _ => rfl) ej_int (.inr (by decide))) (ej_mod (ej_int1 m_int (ej_dat 2)) ej_int (by decide)))
        (ej_mulC ej_int (ej_bagAt (k := 2) (ej_bag 0) ej_int rfl (.inr (.inr (.inl ⟨rfl, rfl⟩))) fun _ _ => rfl) (.inl (by decide)))) ?_
      refine sj_bagSet (ej_mod (ej_int1 m_int (ej_dat 3)) ej_int (by decide)) (ej_bag 0) ej_int (k := 1) rfl (.inr (.inl ⟨rfl, rfl⟩)) (sj_nil ⟨?_, rfl, rfl, rfl⟩)
      unfold stir
      rw [if_pos hx]
  · refine sj_nil ⟨?_, rfl, rfl, rfl⟩
    unfold stir
    rw [if_neg (of_decide_eq_false h)]
  · rintro Γ2 B2 ⟨rfl, g0, g1, gl⟩
    refine sj_when (tj_gt (ej_bagAt (k := 0) (ej_bag 0 g0) ej_int rfl (.inl ⟨rfl, rfl⟩) fun _ _ => rfl) ej_int) (fun h => ?_) (fun h => ?_)
    · have h' : 0 < (stir B).x := of_decide_eq_true h
      refine sj_set 4 G.nd (ej_mod (ej_int1 m_int (ej_bagAt (k := 0) (ej_bag 0 g0) ej_int rfl (.inl ⟨rfl, rfl⟩) fun _ _ => rfl)) (ej_dat 1 g1) hm) ?_
      have g0' : (Γ2.set 4 (.da (.int ((stir B).x % m))))[0]? = some .bag := by rw [List.getElem?_set_ne (by decide)]; exact g0
      have g1' : (Γ2.set 4 (.da (.int ((stir B).x % m))))[1]? = some (.da (.int m)) := by rw [List.getElem?_set_ne (by decide)]; exact g1
      have g4 : (Γ2.set 4 (.da (.int ((stir B).x % m))))[4]? = some (.da (.int ((stir B).x % m))) := List.getElem?_set_self (by omega)
      refine sj_bagSet (ej_fdiv (ej_int1 m_int (ej_bagAt (k := 0) (ej_bag 0 g0') ej_int rfl (.inl ⟨rfl, rfl⟩) fun _ _ => rfl)) (ej_dat 1 g1') (cdv hb hm)) (ej_bag 0 g0') ej_int (k := 0) rfl (.inl ⟨rfl, rfl⟩) ?_
      refine sj_ret (ej_dat 4 g4) ⟨?_, ?_⟩
      · unfold tkV; rw [if_pos h']
      · unfold tkB; rw [if_pos h']
    · have h' : ¬ 0 < (stir B).x := of_decide_eq_false h
      refine sj_set 5 G.nd (ej_mod (ej_int1 m_int (ej_mulC (ej_add (ej_bagAt (k := 1) (ej_bag 0 g0) ej_int rfl (.inr (.inl ⟨rfl, rfl⟩)) fun _ _ => rfl) ej_int) ej_int (.inr (by decide)))) ej_int (by decide)) ?_
      generalize hbg : (((stir B).y + 1) * 39373) % 1000000007 = bg
      have hb5 : 0 ≤ bg ∧ bg < 1000000007 := by rw [← hbg]; exact ⟨Int.emod_nonneg _ (by decide), Int.emod_lt_of_pos _ (by decide)⟩
      have g5 : (Γ2.set 5 (.da (.int bg)))[5]? = some (.da (.int bg)) := List.getElem?_set_self (by omega)
      refine sj_set 6 G.nd (ej_mod (ej_int1 m_int (ej_mulC (ej_mod (ej_int1 m_int (ej_mulC (ej_dat 5 g5) (ej_dat 5 g5) (.inl (by omega)))) ej_int (by decide)) ej_int (.inr (by decide)))) ej_int (by decide)) ?_
      have g6 : ((Γ2.set 5 (.da (.int bg))).set 6 (.da (.int ((bg * bg) % 998244353 * 30011 % 998244353))))[6]? = some (.da (.int ((bg * bg) % 998244353 * 30011 % 998244353))) := List.getElem?_set_self (by rw [List.length_set]; omega)
      have g1' : ((Γ2.set 5 (.da (.int bg))).set 6 (.da (.int ((bg * bg) % 998244353 * 30011 % 998244353))))[1]? = some (.da (.int m)) := by
        rw [List.getElem?_set_ne (by decide), List.getElem?_set_ne (by decide)]; exact g1
      refine sj_ret (ej_mod (ej_int1 m_int (ej_fdiv (ej_dat 6 g6) ej_int (cdv (show Bd 3 7 from by unfold Bd; decide) (by decide)))) (ej_dat 1 g1') hm) ⟨?_, ?_⟩
      · unfold tkV low; rw [if_neg h', hbg]
      · unfold tkB; rw [if_neg h']

abbrev s_l_some : Stmt := topS 43
theorem sc_l_some : FnScope ["_law_bag_here", "_law_things"] ["_law_bag_here", "_law_things"] (defScope s_l_some) := ⟨rfl, rfl, rfl, by decide +kernel, rfl, by decide +kernel, by decide +kernel⟩

theorem c_of_l_some (m_len : mg "len" = none) (c_l_take : Cal P w K mg base "_law_take" 4 R_take) (T : At K mg "_law_some" s_l_some ["_law_bag_here", "_law_things"]) : Cal P w K mg base "_law_some" 5 R_some :=
  cal_at T sc_l_some (by rintro _ _ _ _ ⟨⟩; rfl) fun f cd0 A out s H E G Γ B r B' hR => by
  obtain ⟨B, ds, h, hl, hc⟩ := hR
  have hb : Bd 8000 (ds.length : Int) := by
    have h10 : ds.length < 2 ^ 10 := by omega
    exact (Bd.nat h10).le (by decide)
  exact sj_ret (ej_ixL (ej_dat 1) (ej_call c_l_take (G.le (by decide)) (aj_cons (ej_bag 0) (aj_cons (ej_lenL m_len (ej_dat 1)) aj_nil)) (R_take.mk B _ (by omega) hb hc)) (pick_at ds B h) fun _ _ => rfl) ⟨rfl, rfl⟩

theorem c_of_l_some_t (m_len : mg "len" = none) (c_l_take : Cal P w K mg base "_law_take" 4 R_take) (T_l_some : At K mg "_law_some" s_l_some ["_law_bag_here", "_law_things"]) : Cal P w K mg base "_law_some" 5 R_someT :=
  cal_at T_l_some sc_l_some (by rintro _ _ _ _ ⟨⟩; rfl) fun f cd0 A out s H E G Γ B r B' hR => by
  obtain ⟨B, ds, h, hl, hc⟩ := hR
  have hb : Bd 8000 (ds.length : Int) := by
    have h10 : ds.length < 2 ^ 10 := by omega
    exact (Bd.nat h10).le (by decide)
  exact sj_ret (ej_ixT (ej_dat 1) (ej_call c_l_take (G.le (by decide)) (aj_cons (ej_bag 0) (aj_cons (ej_lenT m_len (ej_dat 1)) aj_nil)) (R_take.mk B _ (by omega) hb hc)) (pick_at ds B h) fun _ _ => rfl) ⟨rfl, rfl⟩

abbrev s_l_alike : Stmt := topS 44
theorem sc_l_alike : FnScope ["_law_found", "_law_due"] ["_law_found", "_law_due"] (defScope s_l_alike) := ⟨rfl, rfl, rfl, by decide +kernel, rfl, by decide +kernel, by decide +kernel⟩

theorem c_of_l_alike (m_repr : mg "repr" = none) (T : At K mg "_law_alike" s_l_alike ["_law_found", "_law_due"]) : Cal P w K mg base "_law_alike" 4 R_alikeA :=
  cal_at T sc_l_alike (by rintro _ _ _ _ ⟨⟩; rfl) fun f cd0 A out s H E G Γ B r B' hR => by
  obtain ⟨d, B, h, hb⟩ := hR
  rcases hb with hb | rfl | ⟨b, rfl⟩ | ⟨i, rfl⟩
  · refine sj_ret (ej_and (ej_eq G.hu (ej_dat 0) (ej_dat 1) h.shaped h.shaped) fun _ => (ej_one (ej_eqS (ej_repr G m_repr (ej_dat 0) hb h.shows) (ej_repr G m_repr (ej_dat 1) hb h.shows)))) ⟨?_, rfl⟩
    rw [eqv_refl_of h.shaped, decide_eq_true rfl]; rfl
  · refine sj_ret (ej_and (ej_eq G.hu (ej_dat 0) (ej_dat 1) h.shaped h.shaped) fun _ => (ej_one (ej_eqS (ej_reprN m_repr (ej_dat 0)) (ej_reprN m_repr (ej_dat 1))))) ⟨?_, rfl⟩
    rw [eqv_refl_of h.shaped, decide_eq_true rfl]; rfl
  · refine sj_ret (ej_and (ej_eq G.hu (ej_dat 0) (ej_dat 1) h.shaped h.shaped) fun _ => (ej_one (ej_eqS (ej_reprL m_repr (ej_dat 0)) (ej_reprL m_repr (ej_dat 1))))) ⟨?_, rfl⟩
    rw [eqv_refl_of h.shaped, decide_eq_true rfl]; rfl
  · have hi : i.natAbs.log2 < 1920 := of_decide_eq_true h.nice
    refine sj_ret (ej_and (ej_eq G.hu (ej_dat 0) (ej_dat 1) h.shaped h.shaped) fun _ => (ej_one (ej_eqS (ej_reprI hi m_repr (ej_dat 0)) (ej_reprI hi m_repr (ej_dat 1))))) ⟨?_, rfl⟩
    rw [eqv_refl_of h.shaped, decide_eq_true rfl]; rfl

abbrev s_l_to : Stmt := topS 45
theorem sc_l_to : FnScope ["_law_base", "_law_n", "_law_found"] ["_law_base", "_law_n"] (defScope s_l_to) := ⟨rfl, rfl, rfl, by decide +kernel, rfl, by decide +kernel, by decide +kernel⟩

theorem c_of_l_to (m_int : mg "int" = none) (T : At K mg "_law_to" s_l_to ["_law_base", "_law_n"]) : Cal P w K mg base "_law_to" 4 R_pow :=
  cal_at T sc_l_to (by rintro _ _ _ _ ⟨⟩; rfl) fun f cd0 A out s H E G Γ B r B' hR => by
  obtain ⟨b, e, B, hb, he⟩ := hR
  refine sj_set 2 (d := .da (.int 1)) (B1 := B) G.nd ej_int ?_
  refine sj_while G.nd (fun Γ' B' => ∃ k m j : Nat, Γ' = [.da (.int ((b ^ k : Nat) : Int)), .da (.int m), .da (.int ((b ^ j : Nat) : Int))] ∧ j + k * m = e ∧ B' = B) (fun Γ' _ => (intAt Γ' 1).toNat)
    ⟨1, e, 0, by rw [Nat.pow_one]; rfl, by omega, rfl⟩ ?_
  rintro Γ' B' ⟨k, m, j, rfl, hk, rfl⟩
  refine ⟨_, tj_gt (ej_dat 1) ej_int, fun h => ?_, fun h => ?_⟩
  · have hm : 0 < m := by have := of_decide_eq_true h; omega
    obtain ⟨k1, j1⟩ := k_le hk hm
    refine sj_ifM (fun Γ' B2 => ∃ j' : Nat, Γ' = [.da (.int ((b ^ k : Nat) : Int)), .da (.int m), .da (.int ((b ^ j' : Nat) : Int))] ∧ j' + (k + k) * (m / 2) = e ∧ B2 = B') (tj_eqI G.hu (ej_mod (ej_int1 m_int (ej_dat 1)) ej_int (by decide)) ej_int) (fun h1 => ?_) (fun h1 => ?_) ?_
    · refine sj_set 2 G.nd (ej_mul (ej_dat 2) (ej_dat 0) (cm (bd_pow j hb) (bd_pow k hb) (by omega))) (sj_nil ?_)
      rw [pow_up]
      exact ⟨j + k, rfl, turn_odd hk (by have := of_decide_eq_true h1; omega), rfl⟩
    · exact sj_nil ⟨j, rfl, turn_even hk (by have := of_decide_eq_false h1; omega), rfl⟩
    · rintro Γ2 B2 ⟨j', rfl, hj', rfl⟩
      refine sj_par 0 1 G.nd G.calm (aj_cons (ej_mul (ej_dat 0) (ej_dat 0) (cm (bd_pow k hb) (bd_pow k hb) (by omega))) (aj_cons (ej_fdiv (ej_int1 m_int (ej_dat 1)) ej_int (cdv (show Bd 2 2 from by unfold Bd; decide) (by decide))) aj_nil)) (sj_nil ?_) (by decide) (by rfl)
      rw [pow_sq, half]
      exact ⟨⟨k + k, m / 2, j', rfl, hj', rfl⟩, show ((m / 2 : Nat) : Int).toNat < (m : Int).toNat by omega⟩
  · have hm : ¬ 0 < m := by have := of_decide_eq_false h; omega
    have := j_end hk hm
    subst this
    exact sj_ret (ej_dat 2) ⟨rfl, rfl⟩

abbrev s_l_power : Stmt := topS 46
theorem sc_l_power : FnScope ["_law_base", "_law_e"] ["_law_base", "_law_e"] (defScope s_l_power) := ⟨rfl, rfl, rfl, by decide +kernel, rfl, by decide +kernel, by decide +kernel⟩

theorem c_of_l_power (c_l_to : Cal P w K mg base "_law_to" 4 R_pow) (T : At K mg "_law_power" s_l_power ["_law_base", "_law_e"]) : Cal P w K mg base "_law_power" 5 R_power_of :=
  cal_at T sc_l_power (by rintro _ _ _ _ ⟨⟩; rfl) fun f cd0 A out s H E G Γ B r B' hR => by
  obtain ⟨b, e, B, h0, hb, h1, h2⟩ := hR
  refine sj_ret (ej_if (d := .da (fq (pw b e))) (tj_ge (ej_dat 1) ej_int) (fun h => ?_) (fun h => ?_)) ⟨rfl, rfl⟩
  · have he : ¬ e < 0 := by have := of_decide_eq_true h; omega
    have hn : e = (e.toNat : Int) := by omega
    unfold pw
    rw [if_neg he, fq_nat]
    exact ej_tupD (ad_cons (ej_call c_l_to (G.le (by decide)) (aj_cons (ej_dat 0) (aj_cons (ej_is (ej_dat 1) (congrArg PyData.int hn)) aj_nil)) (R_pow.mk b e.toNat B hb (by omega))) (ad_cons ej_int ad_nil)) (Nat.le_of_ble_eq_true rfl)
  · have he : e < 0 := by have := of_decide_eq_false h; omega
    have hn : 0 - e = ((-e).toNat : Int) := by omega
    unfold pw
    rw [if_pos he, fq_inv (Nat.pow_pos h0)]
    exact ej_tupD (ad_cons ej_int (ad_cons (ej_call c_l_to (G.le (by decide)) (aj_cons (ej_dat 0) (aj_cons (ej_is (ej_sub ej_int (ej_dat 1)) (congrArg PyData.int hn)) aj_nil)) (R_pow.mk b (-e).toNat B hb (by omega))) ad_nil)) (Nat.le_of_ble_eq_true rfl)

abbrev s_l_size : Stmt := topS 47
theorem sc_l_size : FnScope ["_law_form", "_law_c_here", "_law_e", "_law_n", "_law_d"] ["_law_form", "_law_c_here", "_law_e"] (defScope s_l_size) := ⟨rfl, rfl, rfl, by decide +kernel, rfl, by decide +kernel, by decide +kernel⟩

theorem c_of_l_size /-H-/ (c_l_power : Cal P w K mg base "_law_power" 5 R_power_of) /-E-/ (T : At K mg "_law_size" s_l_size ["_law_form", "_law_c_here", "_law_e"]) : Cal P w K mg base "_law_size" 6 R_lszW :=
  cal_at T sc_l_size (by rintro _ _ _ _ ⟨⟩; rfl) fun f cd0 A out s0 H E0 G Γ B r B' hR => by
  obtain ⟨b, p, low, high, c, e, B, F, h0, h1, h2, h3⟩ := hR
  have b2 := F.b2; have lo := F.lo; have hi := F.hi; have bp := F.bp
  have hc : Bd 401 c := by unfold Bd; omega
  have hn := pn_next F h3
  have RP := R_power_of.mk b e B (by omega) F.b6 (by omega) (by omega)
  rw [fq_pw b2] at RP
  refine sj_unpack [3, 4] (ds := [.int ((b ^ e.toNat : Nat) : Int), .int ((b ^ (-e).toNat : Nat) : Int)]) G.calm (ej_call c_l_power (G.le (by decide)) (aj_cons (ej_at (y := .int b) (ej_dat (d := fmP b p low high) 0)) (aj_cons (ej_dat 2) aj_nil)) (RP)) (pgs_cons (pgN 3 G.nd) (pgs_cons (pgN 4 G.nd) pgs_nil)) rfl ?_
  exact sj_ret (ej_tupD (ad_cons (ej_mul (ej_dat 1) (ej_dat 3) (cm hc hn (by decide))) (ad_cons (ej_dat 4) ad_nil)) (Nat.le_of_ble_eq_true rfl)) ⟨rfl, rfl⟩
theorem c_of_l_size_x (c_l_power : Cal P w K mg base "_law_power" 5 R_power_of) (T_l_size : At K mg "_law_size" s_l_size ["_law_form", "_law_c_here", "_law_e"]) : Cal P w K mg base "_law_size" 6 R_lszX :=
  cal_at T_l_size sc_l_size (by rintro _ _ _ _ ⟨⟩; rfl) fun f cd0 A out s0 H E0 G Γ B r B' hR => by
  obtain ⟨b, p, low, high, c, e, B, F, hc, h2, h3, hb⟩ := hR
  have b2 := F.b2; have lo := F.lo; have hi := F.hi
  have RP := R_power_of.mk b e B (by omega) F.b6 (by omega) (by omega)
  rw [fq_pw b2] at RP
  refine sj_unpack [3, 4] (ds := [.int ((b ^ e.toNat : Nat) : Int), .int ((b ^ (-e).toNat : Nat) : Int)]) G.calm (ej_call c_l_power (G.le (by decide)) (aj_cons (ej_at (y := .int b) (ej_dat (d := fmP b p low high) 0)) (aj_cons (ej_dat 2) aj_nil)) (RP)) (pgs_cons (pgN 3 G.nd) (pgs_cons (pgN 4 G.nd) pgs_nil)) rfl ?_
  exact sj_ret (ej_tupD (ad_cons (ej_mul (ej_dat 1) (ej_dat 3) (cm hc hb (by decide))) (ad_cons (ej_dat 4) ad_nil)) (Nat.le_of_ble_eq_true rfl)) ⟨rfl, rfl⟩

abbrev s_l_c : Stmt := topS 48
theorem sc_l_c : FnScope ["_law_bag_here", "_law_form", "_law_e", "_law_base", "_law_digits", "_law_low", "_law_high", "_law_least", "_law_most", "_law_menu"] ["_law_bag_here", "_law_form", "_law_e"] (defScope s_l_c) := ⟨rfl, rfl, rfl, by decide +kernel, rfl, by decide +kernel, by decide +kernel⟩

theorem c_of_l_c /-H-/ (m_max : mg "max" = none) (m_min : mg "min" = none) (c_l_to : Cal P w K mg base "_law_to" 4 R_pow) (c_l_take : Cal P w K mg base "_law_take" 4 R_take) (c_l_some : Cal P w K mg base "_law_some" 5 R_some) /-E-/ (T : At K mg "_law_c" s_l_c ["_law_bag_here", "_law_form", "_law_e"]) : CalX P w K mg base "_law_c" 6 Pre_tc Post_tc :=
  calx_at T sc_l_c (by rintro _ _ ⟨b, p, low, high, e, rfl, _, _⟩; rfl) fun f cd0 A out s0 H E0 G Γ B hPre => by
  obtain ⟨b, p, low, high, e, rfl, F, ok0⟩ := hPre
  have b2 := F.b2; have p2 := F.p2; have bp := F.bp
  have e1 : (p : Int) - 1 = ((p - 1 : Nat) : Int) := by omega
  have P1 : 2 ≤ b ^ (p - 1) := Nat.le_trans b2 (Nat.le_self_pow (by omega) b)
  have P2 : b ^ (p - 1) + 2 ≤ b ^ p := by
    have : b ^ p = b ^ (p - 1) * b := by rw [← Nat.pow_succ]; congr 1; omega
    have := Nat.mul_le_mul_left (b ^ (p - 1)) b2
    omega
  have hp : p ≤ 20000 := by
    refine Nat.le_of_not_lt fun z => ?_
    have := Nat.pow_le_pow_left b2 p
    have := Nat.pow_le_pow_right (show 0 < 2 by decide) (show 400 ≤ p by omega)
    omega
  refine sj_unpack [3, 4, 5, 6] (ds := [.int b, .int p, .int low, .int high]) G.calm (ej_dat (d := fmP b p low high) 1) (pgs_cons (pgN 3 G.nd) (pgs_cons (pgN 4 G.nd) (pgs_cons (pgN 5 G.nd) (pgs_cons (pgN 6 G.nd) pgs_nil)))) rfl ?_
  refine sj_par 7 8 (d1 := .da (.int ((b ^ (p - 1) : Nat) : Int))) (d2 := .da (.int (((b ^ p : Nat) : Int) - 1))) (B1 := B) G.nd G.calm (aj_cons (ej_call c_l_to (G.le (by decide)) (aj_cons (ej_dat 3) (aj_cons (ej_is (ej_sub (ej_dat 4) ej_int) (congrArg PyData.int e1)) aj_nil)) (R_pow.mk b (p - 1) B F.b6 (by omega))) (aj_cons (ej_sub (ej_call c_l_to (G.le (by decide)) (aj_cons (ej_dat 3) (aj_cons (ej_dat 4) aj_nil)) (R_pow.mk b p B F.b6 (by omega))) ej_int) aj_nil)) ?_ (by decide) (by rfl)
  generalize b ^ (p - 1) = L at *
  generalize hM : b ^ p = M at *
  have big : ∀ {i : Int}, 0 < i → i ≤ M → Bd 8000 i := fun {i} h1 h2 => by unfold Bd; exact Nat.lt_of_lt_of_le (show i.natAbs < 2 ^ 400 by omega) (Nat.pow_le_pow_right (by decide) (by decide))
  have tk : ∀ {B0 : Bag} (i : Int), Bok B0 → 0 < i → i ≤ M → ∃ (v : Int) (B' : Bag), R_take [.bag, .da (.int i)] B0 (.int v) B' ∧ 0 ≤ v ∧ v < i ∧ Bok B' := fun {B0} i ok h1 h2 =>
    ⟨tkV B0 i, tkB B0 i, R_take.mk B0 i h1 (big h1 h2) ok, tkV_ge B0 h1, tkV_lt B0 h1, tkB_ok ok i⟩
  obtain ⟨v1, B1, ra, a0, a1, ok1⟩ := tk ((M : Int) - 1 - L + 1) ok0 (by omega) (by omega)
  obtain ⟨v2, B2, rb, b0, b1, ok2⟩ := tk_ex ok1 9 (by decide) (by decide)
  have m9 : CMulW v2 ((M : Int) - 1 - L) := cm (n := 60) (m := 8000) (by unfold Bd; omega) (by unfold Bd; exact Nat.lt_of_lt_of_le (show ((M : Int) - 1 - L).natAbs < 2 ^ 400 by omega) (Nat.pow_le_pow_right (by decide) (by decide)))
  have d9 : CDivW (v2 * ((M : Int) - 1 - L)) 9 := cdv (show Bd 60 (9 : Int) by unfold Bd; decide) (by decide)
  refine sj_set 9 (d := .da (.list (([(L : Int), (M : Int) - 1, (L : Int) + 1, (M : Int) - 1 - 1, (L : Int) + v1, (L : Int) + v2 * ((M : Int) - 1 - L) / 9] : List Int).map PyData.int))) (B1 := B2) G.nd (ej_is (ej_lstD (ad_cons (ej_dat 7) (ad_cons (ej_dat 8) (ad_cons (ej_add (ej_dat 7) ej_int) (ad_cons (ej_sub (ej_dat 8) ej_int) (ad_cons (ej_add (ej_dat 7) (ej_call c_l_take (G.le (by decide)) (aj_cons (ej_bag 0) (aj_cons (ej_add (ej_sub (ej_dat 8) (ej_dat 7)) ej_int) aj_nil)) (ra))) (ad_cons (ej_add (ej_dat 7) (ej_fdiv (ej_mul (ej_call c_l_take (G.le (by decide)) (aj_cons (ej_bag 0) (aj_cons ej_int aj_nil)) (rb)) (ej_sub (ej_dat 8) (ej_dat 7)) m9) ej_int d9)) ad_nil)))))) (Nat.le_of_ble_eq_true rfl)) rfl) ?_
  generalize hm : ([(L : Int), (M : Int) - 1, (L : Int) + 1, (M : Int) - 1 - 1, (L : Int) + v1, (L : Int) + v2 * ((M : Int) - 1 - L) / 9] : List Int) = menu
  have ml : menu.length = 6 := by rw [← hm]; rfl
  have fin : ∀ (menu2 : List Int) (B3 : Bag), menu2.length ≤ 1000 → 0 < menu2.length → Bok B3 → SJ (cxOf CX0 P w K mg base ["_law_bag_here", "_law_form", "_law_e", "_law_base", "_law_digits", "_law_low", "_law_high", "_law_least", "_law_most", "_law_menu"] "_law_c" (defScope s_l_c) f cd0 A out s0 H E0).nox [.bag, .da (fmP b p low high), .da (.int e), .da (.int b), .da (.int p), .da (.int low), .da (.int high), .da (.int L), .da (.int ((M : Int) - 1)), .da (.list (menu2.map PyData.int))] B3 ((defBody s_l_c).drop 4) { nx := fun _ B2 => Post_tc [.bag, .da (fmP b p low high), .da (.int e)] B .none B2, rt := fun d B2 => Post_tc [.bag, .da (fmP b p low high), .da (.int e)] B d B2 } := fun menu2 B3 h1 h2 ok3 => by
    obtain ⟨x, hx, B4, rc, ok4⟩ := sm_ex menu2 PyData.int h1 ok3 h2
    refine sj_ret (ej_max G.calm m_max ej_int (ej_min G.calm m_min (ej_dat 8) (ej_call c_l_some (G.le (by decide)) (aj_cons (ej_bag 0) (aj_cons (ej_dat (d := .list (menu2.map PyData.int)) 9) aj_nil)) (rc)))) ⟨ok4, fun b' p' low' high' e' hz => ?_⟩
    injection hz with _ hz
    injection hz with hz _
    injection hz with hz
    unfold fmP at hz
    injection hz with hz
    injection hz with h1 hz
    injection hz with h2 _
    injection h1 with h1
    injection h2 with h2
    have h1 : b = b' := by omega
    have h2 : p = p' := by omega
    refine ⟨_, rfl, Int.le_max_left _ _, ?_⟩
    rw [← h1, ← h2, hM]
    omega
  by_cases he : e = low
  · obtain ⟨v3, B3, rc, c0, c1, ok3⟩ := tk (L : Int) ok2 (by omega) (by omega)
    refine sj_when (x := true) (tj_is (tj_eqI G.hu (ej_dat 2) (ej_dat 5)) (decide_eq_true he)) (fun _ => ?_) (fun h => Bool.noConfusion h)
    refine sj_set 9 (d := .da (.list ((menu ++ [1, 2, (L : Int) - 1, 1 + v3]).map PyData.int))) (B1 := B3) G.nd (ej_is (ej_catL (ej_dat (d := .list (menu.map PyData.int)) 9) (ej_lstD (ad_cons ej_int (ad_cons ej_int (ad_cons (ej_sub (ej_dat 7) ej_int) (ad_cons (ej_add ej_int (ej_call c_l_take (G.le (by decide)) (aj_cons (ej_bag 0) (aj_cons (ej_dat 7) aj_nil)) (rc))) ad_nil)))) (Nat.le_of_ble_eq_true rfl)) (by rw [List.length_map, ml]; exact Nat.le_of_ble_eq_true rfl)) (by rw [List.map_append]; rfl)) ?_
    exact sj_nil (fin _ B3 (by rw [List.length_append, ml]; exact Nat.le_of_ble_eq_true rfl) (by rw [List.length_append, ml]; exact Nat.lt_of_lt_of_le (by decide) (Nat.le_add_right 6 _)) ok3)
  · refine sj_when (x := false) (tj_is (tj_eqI G.hu (ej_dat 2) (ej_dat 5)) (decide_eq_false he)) (fun h => Bool.noConfusion h) (fun _ => ?_)
    exact fin menu B2 (by rw [ml]; decide) (by rw [ml]; decide) ok2
theorem c_of_l_c_c (m_max : mg "max" = none) (m_min : mg "min" = none) (c_l_to : Cal P w K mg base "_law_to" 4 R_pow) (c_l_take : Cal P w K mg base "_law_take" 4 R_take) (c_l_some : Cal P w K mg base "_law_some" 5 R_some) (T_l_c : At K mg "_law_c" s_l_c ["_law_bag_here", "_law_form", "_law_e"]) : CalX P w K mg base "_law_c" 6 Pre_tc Post_tcC :=
  calx_at T_l_c sc_l_c (by rintro _ _ ⟨b, p, low, high, e, rfl, _, _⟩; rfl) fun f cd0 A out s0 H E0 G Γ B hPre => by
  obtain ⟨b, p, low, high, e, rfl, F, ok0⟩ := hPre
  have b2 := F.b2; have p2 := F.p2; have bp := F.bp
  have e1 : (p : Int) - 1 = ((p - 1 : Nat) : Int) := by omega
  have P1 : 2 ≤ b ^ (p - 1) := Nat.le_trans b2 (Nat.le_self_pow (by omega) b)
  have P2 : b ^ (p - 1) + 2 ≤ b ^ p := by
    have : b ^ p = b ^ (p - 1) * b := by rw [← Nat.pow_succ]; congr 1; omega
    have := Nat.mul_le_mul_left (b ^ (p - 1)) b2
    omega
  have hp : p ≤ 20000 := by
    refine Nat.le_of_not_lt fun z => ?_
    have := Nat.pow_le_pow_left b2 p
    have := Nat.pow_le_pow_right (show 0 < 2 by decide) (show 400 ≤ p by omega)
    omega
  refine sj_unpack [3, 4, 5, 6] (ds := [.int b, .int p, .int low, .int high]) G.calm (ej_dat (d := fmP b p low high) 1) (pgs_cons (pgN 3 G.nd) (pgs_cons (pgN 4 G.nd) (pgs_cons (pgN 5 G.nd) (pgs_cons (pgN 6 G.nd) pgs_nil)))) rfl ?_
  refine sj_par 7 8 (d1 := .da (.int ((b ^ (p - 1) : Nat) : Int))) (d2 := .da (.int (((b ^ p : Nat) : Int) - 1))) (B1 := B) G.nd G.calm (aj_cons (ej_call c_l_to (G.le (by decide)) (aj_cons (ej_dat 3) (aj_cons (ej_is (ej_sub (ej_dat 4) ej_int) (congrArg PyData.int e1)) aj_nil)) (R_pow.mk b (p - 1) B F.b6 (by omega))) (aj_cons (ej_sub (ej_call c_l_to (G.le (by decide)) (aj_cons (ej_dat 3) (aj_cons (ej_dat 4) aj_nil)) (R_pow.mk b p B F.b6 (by omega))) ej_int) aj_nil)) ?_ (by decide) (by rfl)
  generalize hL : b ^ (p - 1) = L at *
  generalize hM : b ^ p = M at *
  have big : ∀ {i : Int}, 0 < i → i ≤ M → Bd 8000 i := fun {i} h1 h2 => by unfold Bd; exact Nat.lt_of_lt_of_le (show i.natAbs < 2 ^ 400 by omega) (Nat.pow_le_pow_right (by decide) (by decide))
  have tk : ∀ {B0 : Bag} (i : Int), Bok B0 → 0 < i → i ≤ M → ∃ (v : Int) (B' : Bag), R_take [.bag, .da (.int i)] B0 (.int v) B' ∧ 0 ≤ v ∧ v < i ∧ Bok B' := fun {B0} i ok h1 h2 =>
    ⟨tkV B0 i, tkB B0 i, R_take.mk B0 i h1 (big h1 h2) ok, tkV_ge B0 h1, tkV_lt B0 h1, tkB_ok ok i⟩
  obtain ⟨v1, B1, ra, a0, a1, ok1⟩ := tk ((M : Int) - 1 - L + 1) ok0 (by omega) (by omega)
  obtain ⟨v2, B2, rb, b0, b1, ok2⟩ := tk_ex ok1 9 (by decide) (by decide)
  have m9 : CMulW v2 ((M : Int) - 1 - L) := cm (n := 60) (m := 8000) (by unfold Bd; omega) (by unfold Bd; exact Nat.lt_of_lt_of_le (show ((M : Int) - 1 - L).natAbs < 2 ^ 400 by omega) (Nat.pow_le_pow_right (by decide) (by decide)))
  have d9 : CDivW (v2 * ((M : Int) - 1 - L)) 9 := cdv (show Bd 60 (9 : Int) by unfold Bd; decide) (by decide)
  refine sj_set 9 (d := .da (.list (([(L : Int), (M : Int) - 1, (L : Int) + 1, (M : Int) - 1 - 1, (L : Int) + v1, (L : Int) + v2 * ((M : Int) - 1 - L) / 9] : List Int).map PyData.int))) (B1 := B2) G.nd (ej_is (ej_lstD (ad_cons (ej_dat 7) (ad_cons (ej_dat 8) (ad_cons (ej_add (ej_dat 7) ej_int) (ad_cons (ej_sub (ej_dat 8) ej_int) (ad_cons (ej_add (ej_dat 7) (ej_call c_l_take (G.le (by decide)) (aj_cons (ej_bag 0) (aj_cons (ej_add (ej_sub (ej_dat 8) (ej_dat 7)) ej_int) aj_nil)) (ra))) (ad_cons (ej_add (ej_dat 7) (ej_fdiv (ej_mul (ej_call c_l_take (G.le (by decide)) (aj_cons (ej_bag 0) (aj_cons ej_int aj_nil)) (rb)) (ej_sub (ej_dat 8) (ej_dat 7)) m9) ej_int d9)) ad_nil)))))) (Nat.le_of_ble_eq_true rfl)) rfl) ?_
  generalize hm : ([(L : Int), (M : Int) - 1, (L : Int) + 1, (M : Int) - 1 - 1, (L : Int) + v1, (L : Int) + v2 * ((M : Int) - 1 - L) / 9] : List Int) = menu
  have ml : menu.length = 6 := by rw [← hm]; rfl
  have mge : ∀ x ∈ menu, (L : Int) ≤ x := by
    rw [← hm]
    intro x hx
    have q0 : 0 ≤ v2 * ((M : Int) - 1 - L) / 9 := Int.ediv_nonneg (Int.mul_nonneg b0 (by omega)) (by decide)
    simp only [List.mem_cons, List.not_mem_nil, or_false] at hx
    rcases hx with rfl | rfl | rfl | rfl | rfl | rfl <;> omega
  have fin : ∀ (menu2 : List Int) (B3 : Bag), menu2.length ≤ 1000 → 0 < menu2.length → Bok B3 → (∀ x ∈ menu2, e = low ∨ (L : Int) ≤ x) → SJ (cxOf CX0 P w K mg base ["_law_bag_here", "_law_form", "_law_e", "_law_base", "_law_digits", "_law_low", "_law_high", "_law_least", "_law_most", "_law_menu"] "_law_c" (defScope s_l_c) f cd0 A out s0 H E0).nox [.bag, .da (fmP b p low high), .da (.int e), .da (.int b), .da (.int p), .da (.int low), .da (.int high), .da (.int L), .da (.int ((M : Int) - 1)), .da (.list (menu2.map PyData.int))] B3 ((defBody s_l_c).drop 4) { nx := fun _ B2 => Post_tcC [.bag, .da (fmP b p low high), .da (.int e)] B .none B2, rt := fun d B2 => Post_tcC [.bag, .da (fmP b p low high), .da (.int e)] B d B2 } := fun menu2 B3 h1 h2 ok3 hm => by
    obtain ⟨x, hx, B4, rc, ok4⟩ := sm_ex menu2 PyData.int h1 ok3 h2
    refine sj_ret (ej_max G.calm m_max ej_int (ej_min G.calm m_min (ej_dat 8) (ej_call c_l_some (G.le (by decide)) (aj_cons (ej_bag 0) (aj_cons (ej_dat (d := .list (menu2.map PyData.int)) 9) aj_nil)) (rc)))) ⟨ok4, fun b' p' low' high' e' hz => ?_⟩
    injection hz with _ hz
    injection hz with hz hz3
    injection hz3 with hz3 _
    injection hz3 with hz3
    injection hz3 with hz3
    injection hz with hz
    unfold fmP at hz
    injection hz with hz
    injection hz with h1 hz
    injection hz with h2 hz
    injection hz with h3 _
    injection h1 with h1
    injection h2 with h2
    injection h3 with h3
    have h1 : b = b' := by omega
    have h2 : p = p' := by omega
    have hm := hm x hx
    refine ⟨_, rfl, Int.le_max_left _ _, ?_, ?_⟩
    · rw [← h1, ← h2, hM]
      omega
    · rw [← h1, ← h2, ← h3, ← hz3, hL]
      omega
  by_cases he : e = low
  · obtain ⟨v3, B3, rc, c0, c1, ok3⟩ := tk (L : Int) ok2 (by omega) (by omega)
    refine sj_when (x := true) (tj_is (tj_eqI G.hu (ej_dat 2) (ej_dat 5)) (decide_eq_true he)) (fun _ => ?_) (fun h => Bool.noConfusion h)
    refine sj_set 9 (d := .da (.list ((menu ++ [1, 2, (L : Int) - 1, 1 + v3]).map PyData.int))) (B1 := B3) G.nd (ej_is (ej_catL (ej_dat (d := .list (menu.map PyData.int)) 9) (ej_lstD (ad_cons ej_int (ad_cons ej_int (ad_cons (ej_sub (ej_dat 7) ej_int) (ad_cons (ej_add ej_int (ej_call c_l_take (G.le (by decide)) (aj_cons (ej_bag 0) (aj_cons (ej_dat 7) aj_nil)) (rc))) ad_nil)))) (Nat.le_of_ble_eq_true rfl)) (by rw [List.length_map, ml]; exact Nat.le_of_ble_eq_true rfl)) (by rw [List.map_append]; rfl)) ?_
    exact sj_nil (fin _ B3 (by rw [List.length_append, ml]; exact Nat.le_of_ble_eq_true rfl) (by rw [List.length_append, ml]; exact Nat.lt_of_lt_of_le (by decide) (Nat.le_add_right 6 _)) ok3 (fun _ _ => .inl he))
  · refine sj_when (x := false) (tj_is (tj_eqI G.hu (ej_dat 2) (ej_dat 5)) (decide_eq_false he)) (fun h => Bool.noConfusion h) (fun _ => ?_)
    exact fin menu B2 (by rw [ml]; decide) (by rw [ml]; decide) ok2 (fun x hx => .inr (mge x hx))

abbrev s_l_number : Stmt := topS 49
theorem sc_l_number : FnScope ["_law_bag_here", "_law_form", "_law_base", "_law_digits", "_law_low", "_law_high", "_law_near", "_law_e"] ["_law_bag_here", "_law_form"] (defScope s_l_number) := ⟨rfl, rfl, rfl, by decide +kernel, rfl, by decide +kernel, by decide +kernel⟩

theorem c_of_l_number /-H-/ (m_max : mg "max" = none) (m_min : mg "min" = none) (c_l_take : Cal P w K mg base "_law_take" 4 R_take) (c_l_some : Cal P w K mg base "_law_some" 5 R_some) (c_l_c : CalX P w K mg base "_law_c" 6 Pre_tc Post_tc) (c_l_c_c : CalX P w K mg base "_law_c" 6 Pre_tc Post_tcC) /-E-/ (T : At K mg "_law_number" s_l_number ["_law_bag_here", "_law_form"]) : CalX P w K mg base "_law_number" 7 Pre_tn Post_tn :=
  calx_at T sc_l_number (by rintro _ _ ⟨b, p, low, high, rfl, _, _⟩; rfl) fun f cd0 A out s0 H E0 G Γ B hPre => by
  obtain ⟨b, p, low, high, rfl, F, ok0⟩ := hPre
  have lo := F.lo; have hi := F.hi; have lh := F.lh
  obtain ⟨v1, B1, ra, a0, a1, ok1⟩ := tk_ex ok0 5 (by decide) (by decide)
  obtain ⟨v2, B2, rb, b0, b1, ok2⟩ := tk_ex ok1 (high - low + 1) (by omega) (by omega)
  obtain ⟨nr, hn⟩ : ∃ nr : Int, max low (min high (0 - p + v1)) = nr := ⟨_, rfl⟩
  have n1 : low ≤ nr ∧ nr ≤ high := by omega
  refine sj_unpack [2, 3, 4, 5] (ds := [.int b, .int p, .int low, .int high]) G.calm (ej_dat (d := fmP b p low high) 1) (pgs_cons (pgN 2 G.nd) (pgs_cons (pgN 3 G.nd) (pgs_cons (pgN 4 G.nd) (pgs_cons (pgN 5 G.nd) pgs_nil)))) rfl ?_
  refine sj_set 6 (d := .da (.int nr)) (B1 := B1) G.nd (ej_is (ej_max G.calm m_max (ej_dat 4) (ej_min G.calm m_min (ej_dat 5) (ej_add (ej_sub ej_int (ej_dat 3)) (ej_call c_l_take (G.le (by decide)) (aj_cons (ej_bag 0) (aj_cons ej_int aj_nil)) (ra))))) (congrArg PyData.int hn)) ?_
  obtain ⟨e, he, B3, rc, ok3⟩ := sm_ex ([low, high, low + v2, nr, nr] : List Int) PyData.int (Nat.le_of_ble_eq_true rfl) ok2 (Nat.zero_lt_succ _)
  have e12 : low ≤ e ∧ e ≤ high := by
    simp only [List.mem_cons, List.not_mem_nil, or_false] at he
    omega
  refine sj_set 7 (d := .da (.int e)) (B1 := B3) G.nd (ej_call c_l_some (G.le (by decide)) (aj_cons (ej_bag 0) (aj_cons (ej_is (y := .list (([low, high, low + v2, nr, nr] : List Int).map PyData.int)) (ej_lstD (ad_cons (ej_dat 4) (ad_cons (ej_dat 5) (ad_cons (ej_add (ej_dat 4) (ej_call c_l_take (G.le (by decide)) (aj_cons (ej_bag 0) (aj_cons (ej_add (ej_sub (ej_dat 5) (ej_dat 4)) ej_int) aj_nil)) (rb))) (ad_cons (ej_dat 6) (ad_cons (ej_dat 6) ad_nil))))) (Nat.le_of_ble_eq_true rfl)) rfl) aj_nil)) (rc)) ?_
  obtain ⟨s, B4, rd, s0, s1, ok4⟩ := tk_ex ok3 2 (by decide) (by decide)
  refine sj_retX (ex_tup (ax_cons (ex_ej ej_str (ax_cons (ex_ej (ej_call c_l_take (G.le (by decide)) (aj_cons (ej_bag 0) (aj_cons ej_int aj_nil)) (rd)) (ax_cons (ex_call c_l_c (G.le (by decide)) (ax_bag 0 (ax_aj (aj_cons (ej_dat (d := fmP b p low high) 1) (aj_cons (ej_dat 7) aj_nil)) ⟨⟨b, p, low, high, e, rfl, F, ok4⟩, fun r B5 hr => ?_⟩))) rfl)) rfl)) rfl))
  obtain ⟨ok5, hr⟩ := hr
  obtain ⟨c, rfl, c1, c2⟩ := hr b p low high e rfl
  refine ax_one (ex_ej (ej_dat 7) ⟨[.str "num", .int s, .int c, .int e], rfl, Nat.le_of_ble_eq_true rfl, ok5, fun b' p' low' high' hz => ?_⟩)
  injection hz with _ hz
  injection hz with hz _
  injection hz with hz
  unfold fmP at hz
  injection hz with hz
  injection hz with h1 hz
  injection hz with h2 hz
  injection hz with h3 hz
  injection hz with h4 _
  injection h1 with h1
  injection h2 with h2
  injection h3 with h3
  injection h4 with h4
  obtain rfl : b = b' := by omega
  obtain rfl : p = p' := by omega
  subst h3
  subst h4
  exact ⟨s, c, e, rfl, ⟨by omega, by omega, c2, e12.1, e12.2⟩, by omega⟩
theorem c_of_l_number_c (m_max : mg "max" = none) (m_min : mg "min" = none) (c_l_take : Cal P w K mg base "_law_take" 4 R_take) (c_l_some : Cal P w K mg base "_law_some" 5 R_some) (c_l_c_c : CalX P w K mg base "_law_c" 6 Pre_tc Post_tcC) (T_l_number : At K mg "_law_number" s_l_number ["_law_bag_here", "_law_form"]) : CalX P w K mg base "_law_number" 7 Pre_tn Post_tnC :=
  calx_at T_l_number sc_l_number (by rintro _ _ ⟨b, p, low, high, rfl, _, _⟩; rfl) fun f cd0 A out s0 H E0 G Γ B hPre => by
  obtain ⟨b, p, low, high, rfl, F, ok0⟩ := hPre
  have lo := F.lo; have hi := F.hi; have lh := F.lh
  obtain ⟨v1, B1, ra, a0, a1, ok1⟩ := tk_ex ok0 5 (by decide) (by decide)
  obtain ⟨v2, B2, rb, b0, b1, ok2⟩ := tk_ex ok1 (high - low + 1) (by omega) (by omega)
  obtain ⟨nr, hn⟩ : ∃ nr : Int, max low (min high (0 - p + v1)) = nr := ⟨_, rfl⟩
  have n1 : low ≤ nr ∧ nr ≤ high := by omega
  refine sj_unpack [2, 3, 4, 5] (ds := [.int b, .int p, .int low, .int high]) G.calm (ej_dat (d := fmP b p low high) 1) (pgs_cons (pgN 2 G.nd) (pgs_cons (pgN 3 G.nd) (pgs_cons (pgN 4 G.nd) (pgs_cons (pgN 5 G.nd) pgs_nil)))) rfl ?_
  refine sj_set 6 (d := .da (.int nr)) (B1 := B1) G.nd (ej_is (ej_max G.calm m_max (ej_dat 4) (ej_min G.calm m_min (ej_dat 5) (ej_add (ej_sub ej_int (ej_dat 3)) (ej_call c_l_take (G.le (by decide)) (aj_cons (ej_bag 0) (aj_cons ej_int aj_nil)) (ra))))) (congrArg PyData.int hn)) ?_
  obtain ⟨e, he, B3, rc, ok3⟩ := sm_ex ([low, high, low + v2, nr, nr] : List Int) PyData.int (Nat.le_of_ble_eq_true rfl) ok2 (Nat.zero_lt_succ _)
  have e12 : low ≤ e ∧ e ≤ high := by
    simp only [List.mem_cons, List.not_mem_nil, or_false] at he
    omega
  refine sj_set 7 (d := .da (.int e)) (B1 := B3) G.nd (ej_call c_l_some (G.le (by decide)) (aj_cons (ej_bag 0) (aj_cons (ej_is (y := .list (([low, high, low + v2, nr, nr] : List Int).map PyData.int)) (ej_lstD (ad_cons (ej_dat 4) (ad_cons (ej_dat 5) (ad_cons (ej_add (ej_dat 4) (ej_call c_l_take (G.le (by decide)) (aj_cons (ej_bag 0) (aj_cons (ej_add (ej_sub (ej_dat 5) (ej_dat 4)) ej_int) aj_nil)) (rb))) (ad_cons (ej_dat 6) (ad_cons (ej_dat 6) ad_nil))))) (Nat.le_of_ble_eq_true rfl)) rfl) aj_nil)) (rc)) ?_
  obtain ⟨s, B4, rd, s0, s1, ok4⟩ := tk_ex ok3 2 (by decide) (by decide)
  refine sj_retX (ex_tup (ax_cons (ex_ej ej_str (ax_cons (ex_ej (ej_call c_l_take (G.le (by decide)) (aj_cons (ej_bag 0) (aj_cons ej_int aj_nil)) (rd)) (ax_cons (ex_call c_l_c_c (G.le (by decide)) (ax_bag 0 (ax_aj (aj_cons (ej_dat (d := fmP b p low high) 1) (aj_cons (ej_dat 7) aj_nil)) ⟨⟨b, p, low, high, e, rfl, F, ok4⟩, fun r B5 hr => ?_⟩))) rfl)) rfl)) rfl))
  obtain ⟨ok5, hr⟩ := hr
  obtain ⟨c, rfl, c1, c2, c3⟩ := hr b p low high e rfl
  refine ax_one (ex_ej (ej_dat 7) ⟨[.str "num", .int s, .int c, .int e], rfl, Nat.le_of_ble_eq_true rfl, ok5, fun b' p' low' high' hz => ?_⟩)
  injection hz with _ hz
  injection hz with hz _
  injection hz with hz
  unfold fmP at hz
  injection hz with hz
  injection hz with h1 hz
  injection hz with h2 hz
  injection hz with h3 hz
  injection hz with h4 _
  injection h1 with h1
  injection h2 with h2
  injection h3 with h3
  injection h4 with h4
  obtain rfl : b = b' := by omega
  obtain rfl : p = p' := by omega
  subst h3
  subst h4
  exact ⟨s, c, e, rfl, ⟨by omega, by omega, c2, e12.1, e12.2⟩, by omega, c3⟩

abbrev s_l_floor : Stmt := topS 50
theorem sc_l_floor : FnScope ["_law_form", "_law_n", "_law_d", "_law_base", "_law_digits", "_law_low", "_law_high", "_law_e", "_law_most", "_law_up", "_law_down", "_law_c_here", "_law_jump"] ["_law_form", "_law_n", "_law_d"] (defScope s_l_floor) := ⟨rfl, rfl, rfl, by decide +kernel, rfl, by decide +kernel, by decide +kernel⟩

theorem c_of_l_floor /-H-/ (c_l_to : Cal P w K mg base "_law_to" 4 R_pow) (c_l_power : Cal P w K mg base "_law_power" 5 R_power_of) /-E-/ (T : At K mg "_law_floor" s_l_floor ["_law_form", "_law_n", "_law_d"]) : Cal P w K mg base "_law_floor" 6 R_lfloor :=
  cal_at T sc_l_floor (by rintro _ _ _ _ ⟨⟩; rfl) fun f cd0 A out s0 H E0 G Γ B r B' hR => by
  obtain ⟨b, p, low, high, n, d, q, B, F, N, h⟩ := hR
  have b2 := F.D.b2; have b6 := F.D.b6; have p2 := F.D.p2; have hp := F.D.p400; have lo := F.D.lo; have hi := F.D.hi; have lh := F.D.lh
  have b0 : 0 < b := by omega
  refine sj_unpack [3, 4, 5, 6] (ds := [.int b, .int p, .int low, .int high]) G.calm (ej_dat (d := fmP b p low high) 0) (pgs_cons (pgN 3 G.nd) (pgs_cons (pgN 4 G.nd) (pgs_cons (pgN 5 G.nd) (pgs_cons (pgN 6 G.nd) pgs_nil)))) rfl ?_
  refine sj_par 7 8 (d1 := .da (.int low)) (d2 := .da (.int ((b ^ p : Nat) : Int))) (B1 := B) G.nd G.calm (aj_cons (ej_dat 5) (aj_cons (ej_call c_l_to (G.le (by decide)) (aj_cons (ej_dat 3) (aj_cons (ej_dat 4) aj_nil)) (R_pow.mk b p B b6 (by omega))) aj_nil)) ?_ (by decide) (by rfl)
  have RP := R_power_of.mk b low B b0 b6 (by omega) (by omega)
  rw [fq_pw b2] at RP
  refine sj_unpack [9, 10] (ds := [.int ((b ^ low.toNat : Nat) : Int), .int ((b ^ (-low).toNat : Nat) : Int)]) G.calm (ej_call c_l_power (G.le (by decide)) (aj_cons (ej_dat 3) (aj_cons (ej_dat 7) aj_nil)) (RP)) (pgs_cons (pgN 9 G.nd) (pgs_cons (pgN 10 G.nd) pgs_nil)) rfl ?_
  have dv := nr_div F N
  have qd : n * ((b ^ (-low).toNat : Nat) : Int) / (d * ((b ^ low.toNat : Nat) : Int)) = cQ b low q := by
    refine fl_gen b2 (Int.mul_pos N.d0 (Int.natCast_pos.mpr (Nat.pow_pos b0))) ?_
    rw [Rat.intCast_mul, Rat.intCast_mul, h, Rat.intCast_natCast, Rat.intCast_natCast]
    have e1 : pw b (-low) * ((b ^ low.toNat : Nat) : Rat) = ((b ^ (-low).toNat : Nat) : Rat) := by
      rw [← pw_nat, ← pw_nat, ← pw_add b2]; congr 1; omega
    rw [← e1]; grind
  have q0 := nr_q0 N h
  have tb : Bd 20000 ((b ^ (-low).toNat : Nat) : Int) := Bd.nat (Nat.lt_of_le_of_lt F.bl2 (by decide +kernel))
  have ub : Bd 20000 ((b ^ low.toNat : Nat) : Int) := (pn_next F.D (show low ≤ high + 1 by omega)).le (by decide)
  refine sj_par 11 12 (d1 := .da (.int (cQ b low q))) (d2 := .da (.int ((b ^ 32 : Nat) : Int))) (B1 := B) G.nd G.calm (aj_cons (ej_is (ej_fdivP (ej_mul (ej_dat 1) (ej_dat 10) (cm N.bn tb (by decide))) (ej_mul (ej_dat 2) (ej_dat 9) (cm N.bd ub (by decide))) dv) (congrArg PyData.int qd)) (aj_cons (ej_call c_l_to (G.le (by decide)) (aj_cons (ej_dat 3) (aj_cons ej_int aj_nil)) (R_pow.mk b 32 B b6 (by omega))) aj_nil)) ?_ (by decide) (by rfl)
  have jb : Bd 193 ((b ^ 32 : Nat) : Int) := Bd.nat (Nat.lt_of_lt_of_le (Nat.pow_lt_pow_left b6 (by decide)) (by decide))
  have j0 : (0 : Int) < ((b ^ 32 : Nat) : Int) := Int.natCast_pos.mpr (Nat.pow_pos b0)
  have j2 : (2 : Int) ≤ ((b ^ 32 : Nat) : Int) := by
    have : 2 ^ 1 ≤ b ^ 32 := Nat.le_trans (Nat.pow_le_pow_right (by decide) (by decide)) (Nat.pow_le_pow_left b2 32)
    omega
  have m0 : (1 : Int) ≤ ((b ^ p : Nat) : Int) := by have : 0 < b ^ p := Nat.pow_pos b0; omega
  have mb : Bd 400 ((b ^ p : Nat) : Int) := Bd.nat F.D.bp
  refine sj_while G.nd (fun Γ' B' => ∃ j : Nat, Γ' = [.da (fmP b p low high), .da (.int n), .da (.int d), .da (.int b), .da (.int p), .da (.int low), .da (.int high), .da (.int (low + j)), .da (.int ((b ^ p : Nat) : Int)), .da (.int ((b ^ low.toNat : Nat) : Int)), .da (.int ((b ^ (-low).toNat : Nat) : Int)), .da (.int (cQ b (low + j) q)), .da (.int ((b ^ 32 : Nat) : Int))] ∧ (low + j = low ∨ pw b (p + (low + j) - 1) ≤ q) ∧ B' = B) (fun Γ' _ => (intAt Γ' 11).toNat) ⟨0, by rw [show low + ((0 : Nat) : Int) = low by omega]; rfl, .inl (by omega), rfl⟩ ?_
  rintro Γ' B' ⟨j, rfl, hj, rfl⟩
  refine ⟨decide (((b ^ p : Nat) : Int) * ((b ^ 32 : Nat) : Int) ≤ cQ b (low + j) q), tj_ge (ej_dat 11) (ej_mul (ej_dat 8) (ej_dat 12) (cm mb jb (by decide))), fun hc => ?_, fun hc => ?_⟩
  · have hc := of_decide_eq_true hc
    have big := fl_big b2 hc
    have st := fl_step b2 (low + j) q 32
    have e32 : low + (j : Int) + ((32 : Nat) : Int) = low + ((j + 32 : Nat) : Int) := by omega
    rw [e32] at st
    refine sj_par 11 7 (d1 := .da (.int (cQ b (low + ((j + 32 : Nat) : Int)) q))) (d2 := .da (.int (low + ((j + 32 : Nat) : Int)))) (B1 := B') G.nd G.calm (aj_cons (ej_is (ej_fdiv (ej_dat 11) (ej_dat 12) (cdv jb j0 (by decide))) (congrArg PyData.int st)) (aj_cons (ej_is (ej_add (ej_dat 7) ej_int) (congrArg PyData.int (by omega))) aj_nil)) (sj_nil ⟨⟨j + 32, rfl, .inr ?_, rfl⟩, ?_⟩) (by decide) (by rfl)
    · refine Rat.le_trans (pw_mono b2 ?_) big
      omega
    · show (cQ b (low + ((j + 32 : Nat) : Int)) q).toNat < (cQ b (low + j) q).toNat
      rw [← st]
      have c1 : 1 * 1 ≤ ((b ^ p : Nat) : Int) * ((b ^ 32 : Nat) : Int) := Int.mul_le_mul m0 (by omega) (by decide) (by omega)
      have := Int.ediv_lt_self_of_pos_of_ne_one (show 0 < cQ b (low + j) q by omega) (show ((b ^ 32 : Nat) : Int) ≠ 1 by omega)
      have := Int.ediv_nonneg (show 0 ≤ cQ b (low + j) q by omega) (Int.le_of_lt j0)
      omega
  clear hc
  refine sj_while G.nd (fun Γ' B2 => ∃ j : Nat, Γ' = [.da (fmP b p low high), .da (.int n), .da (.int d), .da (.int b), .da (.int p), .da (.int low), .da (.int high), .da (.int (low + j)), .da (.int ((b ^ p : Nat) : Int)), .da (.int ((b ^ low.toNat : Nat) : Int)), .da (.int ((b ^ (-low).toNat : Nat) : Int)), .da (.int (cQ b (low + j) q)), .da (.int ((b ^ 32 : Nat) : Int))] ∧ (low + j = low ∨ pw b (p + (low + j) - 1) ≤ q) ∧ B2 = B') (fun Γ' _ => (intAt Γ' 11).toNat) ⟨j, rfl, hj, rfl⟩ ?_
  rintro Γ' B2 ⟨j, rfl, hj, rfl⟩
  refine ⟨decide (((b ^ p : Nat) : Int) ≤ cQ b (low + j) q), tj_ge (ej_dat 11) (ej_dat 8), fun hc => ?_, fun hc => ?_⟩
  · have hc := of_decide_eq_true hc
    have big := fl_big (p := p) (e := low + j) (q := q) (j := 0) b2 (by rw [Nat.pow_zero, show ((1 : Nat) : Int) = 1 from rfl, Int.mul_one]; exact hc)
    have st := fl_step b2 (low + j) q 1
    rw [Nat.pow_one, show low + (j : Int) + ((1 : Nat) : Int) = low + ((j + 1 : Nat) : Int) by omega] at st
    refine sj_par 11 7 (d1 := .da (.int (cQ b (low + ((j + 1 : Nat) : Int)) q))) (d2 := .da (.int (low + ((j + 1 : Nat) : Int)))) (B1 := B2) G.nd G.calm (aj_cons (ej_is (ej_fdiv (ej_dat 11) (ej_dat 3) (cdv (n := 7) (by unfold Bd; omega) (by omega) (by decide))) (congrArg PyData.int st)) (aj_cons (ej_is (ej_add (ej_dat 7) ej_int) (congrArg PyData.int (by omega))) aj_nil)) (sj_nil ⟨⟨j + 1, rfl, .inr ?_, rfl⟩, ?_⟩) (by decide) (by rfl)
    · refine Rat.le_trans (pw_mono b2 ?_) big
      omega
    · show (cQ b (low + ((j + 1 : Nat) : Int)) q).toNat < (cQ b (low + j) q).toNat
      rw [← st]
      have := Int.ediv_lt_self_of_pos_of_ne_one (show 0 < cQ b (low + j) q by omega) (show (b : Int) ≠ 1 by omega)
      have := Int.ediv_nonneg (show 0 ≤ cQ b (low + j) q by omega) (show (0 : Int) ≤ b by omega)
      omega
  have he := fl_end b2 (by omega) (Int.not_le.mp (of_decide_eq_false hc)) hj
  rw [he]
  exact sj_ret (ej_tupD (ad_cons (ej_dat 11) (ad_cons (ej_dat 7) ad_nil)) (Nat.le_of_ble_eq_true rfl)) ⟨rfl, rfl⟩

abbrev s_l_next : Stmt := topS 51
theorem sc_l_next : FnScope ["_law_form", "_law_c_here", "_law_e", "_law_base", "_law_digits"] ["_law_form", "_law_c_here", "_law_e"] (defScope s_l_next) := ⟨rfl, rfl, rfl, by decide +kernel, rfl, by decide +kernel, by decide +kernel⟩

theorem c_of_l_next /-H-/ (c_l_to : Cal P w K mg base "_law_to" 4 R_pow) /-E-/ (T : At K mg "_law_next" s_l_next ["_law_form", "_law_c_here", "_law_e"]) : Cal P w K mg base "_law_next" 5 R_lnext :=
  cal_at T sc_l_next (by rintro _ _ _ _ ⟨⟩; rfl) fun f cd0 A out s0 H E0 G Γ B r B' hR => by
  obtain ⟨b, p, low, high, c, e, B, F, h1⟩ := hR
  have b2 := F.b2; have p2 := F.p2; have hp := F.p400
  have e1 : (p : Int) - 1 = ((p - 1 : Nat) : Int) := by omega
  refine sj_unpack [3, 4] (ds := [.int b, .int p]) G.calm (ej_is (y := .tuple [.int b, .int p]) (ej_sliceT (ej_dat (d := fmP b p low high) 0) oj_none (oj_some ej_int)) rfl) (pgs_cons (pgN 3 G.nd) (pgs_cons (pgN 4 G.nd) pgs_nil)) rfl ?_
  refine sj_ret (ej_if (d := .da (ndD (upN b p c e))) (tj_lt (ej_add (ej_dat 1) ej_int) (ej_call c_l_to (G.le (by decide)) (aj_cons (ej_dat 3) (aj_cons (ej_dat 4) aj_nil)) (R_pow.mk b p B F.b6 (by omega)))) (fun h => ?_) (fun h => ?_)) ⟨rfl, rfl⟩
  · have h := of_decide_eq_true h
    unfold upN ndD
    rw [if_neg (show ¬ c + 1 = ((b ^ p : Nat) : Int) by omega)]
    exact (ej_tupD (ad_cons (ej_add (ej_dat 1) ej_int) (ad_cons (ej_dat 2) ad_nil)) (Nat.le_of_ble_eq_true rfl))
  · have h := of_decide_eq_false h
    unfold upN ndD
    rw [if_pos (show c + 1 = ((b ^ p : Nat) : Int) by omega)]
    exact (ej_tupD (ad_cons (ej_call c_l_to (G.le (by decide)) (aj_cons (ej_dat 3) (aj_cons (ej_is (ej_sub (ej_dat 4) ej_int) (congrArg PyData.int e1)) aj_nil)) (R_pow.mk b (p - 1) B F.b6 (by omega))) (ad_cons (ej_add (ej_dat 2) ej_int) ad_nil)) (Nat.le_of_ble_eq_true rfl))

abbrev s_l_compared : Stmt := topS 52
theorem sc_l_compared : FnScope ["_law_one", "_law_other"] ["_law_one", "_law_other"] (defScope s_l_compared) := ⟨rfl, rfl, rfl, by decide +kernel, rfl, by decide +kernel, by decide +kernel⟩

theorem c_of_l_compared /-H-/  /-E-/ (T : At K mg "_law_compared" s_l_compared ["_law_one", "_law_other"]) : Cal P w K mg base "_law_compared" 4 R_cross :=
  cal_at T sc_l_compared (by rintro _ _ _ _ ⟨⟩; rfl) fun f cd0 A out s0 H E0 G Γ B r B' hR => by
  obtain ⟨a, b, c, d, B, h1, h2, h3, h4⟩ := hR
  exact sj_ret (ej_sub (ej_mul (ej_at (y := .int a) (ej_dat (d := .tuple [.int a, .int b]) 0)) (ej_at (y := .int d) (ej_dat (d := .tuple [.int c, .int d]) 1)) (cm h1 h4 (by decide))) (ej_mul (ej_at (y := .int c) (ej_dat (d := .tuple [.int c, .int d]) 1)) (ej_at (y := .int b) (ej_dat (d := .tuple [.int a, .int b]) 0)) (cm h3 h2 (by decide)))) ⟨rfl, rfl⟩
theorem c_of_l_compared_x (T_l_compared : At K mg "_law_compared" s_l_compared ["_law_one", "_law_other"]) : Cal P w K mg base "_law_compared" 4 R_crossW :=
  cal_at T_l_compared sc_l_compared (by rintro _ _ _ _ ⟨⟩; rfl) fun f cd0 A out s0 H E0 G Γ B r B' hR => by
  obtain ⟨a, b, c, d, B, h1, h2, h3, h4⟩ := hR
  exact sj_ret (ej_sub (ej_mul (ej_at (y := .int a) (ej_dat (d := .tuple [.int a, .int b]) 0)) (ej_at (y := .int d) (ej_dat (d := .tuple [.int c, .int d]) 1)) (cm h1 h4 (by decide))) (ej_mul (ej_at (y := .int c) (ej_dat (d := .tuple [.int c, .int d]) 1)) (ej_at (y := .int b) (ej_dat (d := .tuple [.int a, .int b]) 0)) (cm h3 h2 (by decide)))) ⟨rfl, rfl⟩

abbrev s_l_is_up : Stmt := topS 53
theorem sc_l_is_up : FnScope ["_law_form", "_law_way_here", "_law_s", "_law_n", "_law_d", "_law_lower", "_law_upper", "_law_low", "_law_high", "_law_both", "_law_more"] ["_law_form", "_law_way_here", "_law_s", "_law_n", "_law_d", "_law_lower", "_law_upper"] (defScope s_l_is_up) := ⟨rfl, rfl, rfl, by decide +kernel, rfl, by decide +kernel, by decide +kernel⟩

theorem c_of_l_is_up (m_int : mg "int" = none) /-H-/ (m_int : mg "int" = none) (c_l_size_x : Cal P w K mg base "_law_size" 6 R_lszX) (c_l_compared_x : Cal P w K mg base "_law_compared" 4 R_crossW) /-E-/ (T : At K mg "_law_is_up" s_l_is_up ["_law_form", "_law_way_here", "_law_s", "_law_n", "_law_d", "_law_lower", "_law_upper"]) : Cal P w K mg base "_law_is_up" 7 R_lisup :=
  cal_at T sc_l_is_up (by rintro _ _ _ _ ⟨⟩; rfl) fun f cd0 A out s0 H E0 G Γ B r B' hR => by
  obtain ⟨b, p, low, high, way, s, n, d, q, B, F, hw, hs, N, h, hr⟩ := hR
  have b2 := F.D.b2; have p2 := F.D.p2; have lo := F.D.lo
  by_cases hud : way = "up" ∨ way = "down"
  · refine sj_when (x := true) (tj_is (tj_inT (ss := ["up", "down"]) (ej_dat 1) (ej_tupD (ad_cons ej_str (ad_cons ej_str ad_nil)) (Nat.le_of_ble_eq_true rfl))) ((in2' "up" "down" way).trans (decide_eq_true hud))) (fun _ => ?_) (fun h => Bool.noConfusion h)
    refine sj_ret (ej_eqB G.hu (ej_eqS (ej_dat 1) ej_str) (ej_eqI G.hu (ej_dat 2) ej_int)) ⟨?_, rfl⟩
    rw [outw_ud hud hs hr]
  refine sj_when (x := false) (tj_is (tj_inT (ss := ["up", "down"]) (ej_dat 1) (ej_tupD (ad_cons ej_str (ad_cons ej_str ad_nil)) (Nat.le_of_ble_eq_true rfl))) ((in2' "up" "down" way).trans (decide_eq_false hud))) (fun h => Bool.noConfusion h) (fun _ => ?_)
  by_cases hz : way = "zero"
  · refine sj_when (x := true) (tj_is (tj_eqS (ej_dat 1) ej_str) (decide_eq_true hz)) (fun _ => ?_) (fun h => Bool.noConfusion h)
    subst hz
    refine sj_ret ej_bl ⟨?_, rfl⟩
    rw [outw_zero]
  refine sj_when (x := false) (tj_is (tj_eqS (ej_dat 1) ej_str) (decide_eq_false hz)) (fun h => Bool.noConfusion h) (fun _ => ?_)
  have hea : way = "even" ∨ way = "away" := by
    rcases ways hw with z | z | z | z | z
    · exact .inl z
    · exact .inr z
    · exact absurd (.inl z) hud
    · exact absurd (.inr z) hud
    · exact absurd z hz
  obtain ⟨e1, e2, e3, e4⟩ := nr_e F N h
  have q0 := nr_q0 N h
  have hE := eQ_is (p := p) b2 low q
  have um := up_more (p := p) b2 p2 N.d0 h (eQ b p low q)
  have ou := outw_ea hea (s := s) (upn_par (b := b) p2 (c := cQ b (eQ b p low q) q) (e := eQ b p low q)) um.1 um.2 (by rw [← pt_byT b2]; exact hr)
  rw [← pt_byT b2] at ou
  have cb0 := c_ge b2 q0 (eQ b p low q)
  have cb1 := c_lt b2 hE
  have el := hE.1
  rw [ou]
  clear ou um hr
  generalize eQ b p low q = e at *
  generalize cQ b e q = c at *
  have c4 : Bd 401 c := by unfold Bd; have := F.D.bp; omega
  have ub : Bd 401 (upN b p c e).1 ∧ low ≤ (upN b p c e).2 ∧ (upN b p c e).2 ≤ 19999 ∧ Bd 20000 ((b ^ (upN b p c e).2.toNat : Nat) : Int) := by
    unfold upN
    split
    · refine ⟨?_, by show low ≤ e + 1; omega, e3, e2⟩
      refine Bd.nat (Nat.lt_of_le_of_lt (Nat.pow_le_pow_right (by omega) (show p - 1 ≤ p by omega)) (Nat.lt_trans F.D.bp (Nat.pow_lt_pow_right (by decide) (by decide))))
    · exact ⟨by show Bd 401 (c + 1); unfold Bd; have := F.D.bp; omega, el, e1, e4⟩
  obtain ⟨u1, u2, u3, u4⟩ := ub
  refine sj_par 7 8 (d1 := .da (ndD (szP b c e))) (d2 := .da (ndD (szP b (upN b p c e).1 (upN b p c e).2))) (B1 := B) G.nd G.calm (aj_cons (ej_call c_l_size_x (G.le (by decide)) (aj_cons (ej_dat (d := fmP b p low high) 0) (aj_cons (ej_at (y := .int c) (ej_dat (d := ndD (c, e)) 5)) (aj_cons (ej_at (y := .int e) (ej_dat (d := ndD (c, e)) 5)) aj_nil))) (R_lszX.mk b p low high c e B F.D c4 el e1 e4)) (aj_cons (ej_call c_l_size_x (G.le (by decide)) (aj_cons (ej_dat (d := fmP b p low high) 0) (aj_cons (ej_at (y := .int (upN b p c e).1) (ej_dat (d := ndD (upN b p c e)) 6)) (aj_cons (ej_at (y := .int (upN b p c e).2) (ej_dat (d := ndD (upN b p c e)) 6)) aj_nil))) (R_lszX.mk b p low high _ _ B F.D u1 u2 u3 u4)) aj_nil)) ?_ (by decide) (by rfl)
  have x1 : Bd 20500 (szP b c e).1 := (c4.mul e4).le (by decide)
  have dn : ∀ z : Int, low ≤ z → Bd 4320 ((b ^ (-z).toNat : Nat) : Int) := fun z hz => Bd.nat (Nat.lt_of_le_of_lt (Nat.le_trans (Nat.pow_le_pow_right (by omega) (show (-z).toNat ≤ (-low).toNat by omega)) F.bl2) (by decide +kernel))
  have x2 : Bd 4320 (szP b c e).2 := dn e el
  have y1 : Bd 20500 (szP b (upN b p c e).1 (upN b p c e).2).1 := (u1.mul u4).le (by decide)
  have y2 : Bd 4320 (szP b (upN b p c e).1 (upN b p c e).2).2 := dn _ u2
  generalize szP b c e = x at *
  generalize szP b (upN b p c e).1 (upN b p c e).2 = y at *
  have bo1 : Bd 30000 (x.1 * y.2 + y.1 * x.2) := (bd_sum (x1.mul y2) (y1.mul x2) 30000 (by decide) (by decide))
  have bo2 : Bd 30000 (x.2 * y.2) := (x2.mul y2).le (by decide)
  refine sj_set 9 (d := .da (.tuple [.int (x.1 * y.2 + y.1 * x.2), .int (x.2 * y.2)])) (B1 := B) G.nd (ej_tupD (ad_cons (ej_add (ej_mul (ej_at (y := .int x.1) (ej_dat (d := ndD x) 7)) (ej_at (y := .int y.2) (ej_dat (d := ndD y) 8)) (cm x1 y2 (by decide))) (ej_mul (ej_at (y := .int y.1) (ej_dat (d := ndD y) 8)) (ej_at (y := .int x.2) (ej_dat (d := ndD x) 7)) (cm y1 x2 (by decide)))) (ad_cons (ej_mul (ej_at (y := .int x.2) (ej_dat (d := ndD x) 7)) (ej_at (y := .int y.2) (ej_dat (d := ndD y) 8)) (cm x2 y2 (by decide))) ad_nil)) (Nat.le_of_ble_eq_true rfl)) ?_
  have b2n : Bd 2 (2 : Int) := by unfold Bd; decide
  refine sj_set 10 (d := .da (.int (2 * n * (x.2 * y.2) - (x.1 * y.2 + y.1 * x.2) * d))) (B1 := B) G.nd (ej_call c_l_compared_x (G.le (by decide)) (aj_cons (ej_tupD (ad_cons (ej_mul ej_int (ej_dat 3) (cm b2n N.bn (by decide))) (ad_cons (ej_dat 4) ad_nil)) (Nat.le_of_ble_eq_true rfl)) (aj_cons (ej_dat 9) aj_nil)) (R_crossW.mk (2 * n) d (x.1 * y.2 + y.1 * x.2) (x.2 * y.2) B ((b2n.mul N.bn).le (by decide)) (N.bd.le (by decide)) (bo1.le (by decide)) (bo2.le (by decide)))) ?_
  generalize 2 * n * (x.2 * y.2) - (x.1 * y.2 + y.1 * x.2) * d = m at *
  by_cases hm : m = 0
  · refine sj_when (x := false) (tj_is (tj_neI G.hu (ej_dat 10) ej_int) (by rw [decide_eq_true hm]; rfl)) (fun h => Bool.noConfusion h) (fun _ => ?_)
    rw [if_pos hm]
    exact sj_ret (ej_or (ej_eqS (ej_dat 1) ej_str) fun _ => ej_one (ej_eqI G.hu (ej_mod (ej_int1 m_int (ej_at (y := .int (upN b p c e).1) (ej_dat (d := ndD (upN b p c e)) 6))) ej_int (by decide)) ej_int)) ⟨rfl, rfl⟩
  · refine sj_when (x := true) (tj_is (tj_neI G.hu (ej_dat 10) ej_int) (by rw [decide_eq_false hm]; rfl)) (fun _ => ?_) (fun h => Bool.noConfusion h)
    rw [if_neg hm]
    exact sj_ret (ej_gt (ej_dat 10) ej_int) ⟨rfl, rfl⟩

abbrev s_l_rounded : Stmt := topS 54
theorem sc_l_rounded : FnScope ["_law_form", "_law_way_here", "_law_s", "_law_n", "_law_d", "_law_base", "_law_digits", "_law_low", "_law_high", "_law_lower", "_law_is_exact", "_law_found", "_law_to_inf", "_law_is_tiny"] ["_law_form", "_law_way_here", "_law_s", "_law_n", "_law_d"] (defScope s_l_rounded) := ⟨rfl, rfl, rfl, by decide +kernel, rfl, by decide +kernel, by decide +kernel⟩

theorem c_of_l_rounded /-H-/ (c_l_floor : Cal P w K mg base "_law_floor" 6 R_lfloor) (c_l_compared_x : Cal P w K mg base "_law_compared" 4 R_crossW) (c_l_size_x : Cal P w K mg base "_law_size" 6 R_lszX) (c_l_to : Cal P w K mg base "_law_to" 4 R_pow) (c_l_is_up : Cal P w K mg base "_law_is_up" 7 R_lisup) (c_l_next : Cal P w K mg base "_law_next" 5 R_lnext) /-E-/ (T : At K mg "_law_rounded" s_l_rounded ["_law_form", "_law_way_here", "_law_s", "_law_n", "_law_d"]) : Cal P w K mg base "_law_rounded" 8 R_lrdd :=
  cal_at T sc_l_rounded (by rintro _ _ _ _ ⟨⟩; rfl) fun f cd0 A out s0 H E0 G Γ B r B' hR => by
  obtain ⟨b, p, low, high, way, s, n, d, q, B, F, hw, hs, N, h⟩ := hR
  have b2 := F.D.b2; have p2 := F.D.p2; have lo := F.D.lo; have lh := F.D.lh; have hp := F.D.p400
  refine sj_unpack [5, 6, 7, 8] (ds := [.int b, .int p, .int low, .int high]) G.calm (ej_dat (d := fmP b p low high) 0) (pgs_cons (pgN 5 G.nd) (pgs_cons (pgN 6 G.nd) (pgs_cons (pgN 7 G.nd) (pgs_cons (pgN 8 G.nd) pgs_nil)))) rfl ?_
  by_cases hn : n = 0
  · have hq : q = 0 := by
      have d0 : (0 : Rat) < (d : Rat) := by exact_mod_cast N.d0
      rw [hn, show ((0 : Int) : Rat) = 0 from rfl] at h
      exact (Rat.mul_eq_zero.mp h.symm).resolve_right (fun k => by rw [k] at d0; exact absurd d0 (by decide))
    rw [hq, rdX_zero b2 lh]
    refine sj_when (x := true) (tj_is (tj_eqI G.hu (ej_dat 3) ej_int) (decide_eq_true hn)) (fun _ => ?_) (fun h => Bool.noConfusion h)
    exact sj_ret (ej_tupD (ad_cons (ej_tupD (ad_cons ej_str (ad_cons (ej_dat 2) (ad_cons ej_int (ad_cons (ej_dat 7) ad_nil)))) (Nat.le_of_ble_eq_true rfl)) (ad_cons (ej_tupD ad_nil (Nat.le_of_ble_eq_true rfl)) ad_nil)) (Nat.le_of_ble_eq_true rfl)) ⟨rfl, rfl⟩
  refine sj_when (x := false) (tj_is (tj_eqI G.hu (ej_dat 3) ej_int) (decide_eq_false hn)) (fun h => Bool.noConfusion h) (fun _ => ?_)
  have RF := R_lfloor.mk b p low high n d q B F N h
  have RU := fun hr => R_lisup.mk b p low high way s n d q B F hw hs N h hr
  obtain ⟨e1, e2, e3, e4⟩ := nr_e F N h
  have q0 := nr_q0 N h
  have hE := eQ_is (p := p) b2 low q
  have exi := ex_iff b2 N.d0 h (eQ b p low q)
  have tni := tiny_iffN b2 p2 N.d0 h low
  have cb0 := c_ge b2 q0 (eQ b p low q)
  have cb1 := c_lt b2 hE
  have el := hE.1
  unfold rdX
  generalize pt (rQ b (eQ b p low q) q) (Dq b (eQ b p low q) q) = k at *
  generalize eQ b p low q = e at *
  generalize cQ b e q = c at *
  have c4 : Bd 401 c := by unfold Bd; have := F.D.bp; omega
  refine sj_set 9 (d := .da (ndD (c, e))) (B1 := B) G.nd (ej_call c_l_floor (G.le (by decide)) (aj_cons (ej_dat (d := fmP b p low high) 0) (aj_cons (ej_dat 3) (aj_cons (ej_dat 4) aj_nil))) (RF)) ?_
  have x1 : Bd 20500 (szP b c e).1 := (c4.mul e4).le (by decide)
  have x2 : Bd 4320 (szP b c e).2 := Bd.nat (Nat.lt_of_le_of_lt (Nat.le_trans (Nat.pow_le_pow_right (by omega) (show (-e).toNat ≤ (-low).toNat by omega)) F.bl2) (by decide +kernel))
  refine sj_set 10 (d := .da (.bool (decide (k = 0)))) (B1 := B) G.nd (ej_is (ej_eqI G.hu (ej_call c_l_compared_x (G.le (by decide)) (aj_cons (ej_call c_l_size_x (G.le (by decide)) (aj_cons (ej_dat (d := fmP b p low high) 0) (aj_cons (ej_at (y := .int c) (ej_dat (d := ndD (c, e)) 9)) (aj_cons (ej_at (y := .int e) (ej_dat (d := ndD (c, e)) 9)) aj_nil))) (R_lszX.mk b p low high c e B F.D c4 el e1 e4)) (aj_cons (ej_tupD (ad_cons (ej_dat 3) (ad_cons (ej_dat 4) ad_nil)) (Nat.le_of_ble_eq_true rfl)) aj_nil)) (R_crossW.mk _ _ n d B (x1.le (by decide)) (x2.le (by decide)) (N.bn.le (by decide)) (N.bd.le (by decide)))) ej_int) (congrArg PyData.bool (decide_eq_decide.mpr exi))) ?_
  clear exi RF
  refine sj_set 11 (d := .da (ndD (c, e))) (B1 := B) G.nd (ej_dat (d := ndD (c, e)) 9) ?_
  have RN := R_lnext.mk b p low high c e B F.D cb1
  have fin : ∀ (c' e' : Int), (outP b p high way s e c k = if high < e' then .tuple [tooG b p high way s, words ["inexact", "over"]] else .tuple [nm s c' e', if k = 0 then words [] else if c < ((b ^ (p - 1) : Nat) : Int) then words ["inexact", "tiny"] else words ["inexact"]]) →
      SJ (cxOf CX0 P w K mg base ["_law_form", "_law_way_here", "_law_s", "_law_n", "_law_d", "_law_base", "_law_digits", "_law_low", "_law_high", "_law_lower", "_law_is_exact", "_law_found", "_law_to_inf", "_law_is_tiny"] "_law_rounded" (defScope s_l_rounded) f cd0 A out s0 H E0).nox
        [.da (fmP b p low high), .da (.str way), .da (.int s), .da (.int n), .da (.int d), .da (.int b), .da (.int p), .da (.int low), .da (.int high), .da (ndD (c, e)), .da (.bool (decide (k = 0))), .da (ndD (c', e')), .no, .no] B ((defBody s_l_rounded).drop 6) { nx := fun _ B2 => outP b p high way s e c k = .none ∧ B2 = B, rt := fun d' B2 => d' = outP b p high way s e c k ∧ B2 = B } := fun c' e' hv => by
    rw [hv]
    by_cases hh : high < e'
    · rw [if_pos hh]
      refine sj_when (x := true) (tj_is (tj_gt (ej_at (y := .int e') (ej_dat (d := ndD (c', e')) 11)) (ej_dat 8)) (decide_eq_true hh)) (fun _ => ?_) (fun h => Bool.noConfusion h)
      refine sj_set 12 (d := .da (.bool (isInf way s))) (B1 := B) G.nd (ej_is (ej_or (ej_is (ej_inT (ss := ["even", "away"]) (ej_dat 1) (ej_tupD (ad_cons ej_str (ad_cons ej_str ad_nil)) (Nat.le_of_ble_eq_true rfl))) (congrArg PyData.bool (in2' "even" "away" way))) fun _ => ej_one (ej_eqS (j := if s = 0 then ("up" : Str) else ("down" : Str)) (ej_dat 1) (ej_if (d := .da (.str (if s = 0 then ("up" : Str) else ("down" : Str)))) (tj_eqI G.hu (ej_dat 2) ej_int) (fun h => by rw [if_pos (of_decide_eq_true h)]; exact ej_str) (fun h => by rw [if_neg (of_decide_eq_false h)]; exact ej_str)))) (congrArg PyData.bool (to_inf hs))) ?_
      refine sj_ret (ej_tupD (ad_cons (ej_if (B2 := B) (d := .da (tooG b p high way s)) (tj_val (ej_dat (d := .bool (isInf way s)) 12)) (fun h => ?_) (fun h => ?_)) (ad_cons (ej_tupD (ad_cons ej_str (ad_cons ej_str ad_nil)) (Nat.le_of_ble_eq_true rfl)) ad_nil)) (Nat.le_of_ble_eq_true rfl)) ⟨rfl, rfl⟩
      · unfold tooG; rw [if_pos h]; exact (ej_tupD (ad_cons ej_str (ad_cons (ej_dat 2) ad_nil)) (Nat.le_of_ble_eq_true rfl))
      · unfold tooG; rw [if_neg (by rw [h]; decide)]; exact (ej_tupD (ad_cons ej_str (ad_cons (ej_dat 2) (ad_cons (ej_sub (ej_call c_l_to (G.le (by decide)) (aj_cons (ej_dat 5) (aj_cons (ej_dat 6) aj_nil)) (R_pow.mk b p B F.D.b6 (by omega))) ej_int) (ad_cons (ej_dat 8) ad_nil)))) (Nat.le_of_ble_eq_true rfl))
    · rw [if_neg hh]
      refine sj_when (x := false) (tj_is (tj_gt (ej_at (y := .int e') (ej_dat (d := ndD (c', e')) 11)) (ej_dat 8)) (decide_eq_false hh)) (fun h => Bool.noConfusion h) (fun _ => ?_)
      have e1' : (p : Int) - 1 = ((p - 1 : Nat) : Int) := by omega
      have lb : Bd 401 ((b ^ (p - 1) : Nat) : Int) := Bd.nat (Nat.lt_of_le_of_lt (Nat.pow_le_pow_right (by omega) (show p - 1 ≤ p by omega)) (Nat.lt_trans F.D.bp (Nat.pow_lt_pow_right (by decide) (by decide))))
      have pw4 : Bd 20000 ((b ^ low.toNat : Nat) : Int) := (pn_next F.D (show low ≤ high + 1 by omega)).le (by decide)
      have RZ := R_lszX.mk b p low high ((b ^ (p - 1) : Nat) : Int) low B F.D lb (Int.le_refl _) (by have := F.D.hi; omega) pw4
      have z1 : Bd 20500 (szP b ((b ^ (p - 1) : Nat) : Int) low).1 := (lb.mul pw4).le (by decide)
      have z2 : Bd 4320 (szP b ((b ^ (p - 1) : Nat) : Int) low).2 := Bd.nat (Nat.lt_of_le_of_lt F.bl2 (by decide +kernel))
      refine sj_set 13 (d := .da (.bool (decide (c < ((b ^ (p - 1) : Nat) : Int))))) (B1 := B) G.nd (ej_is (ej_lt (ej_call c_l_compared_x (G.le (by decide)) (aj_cons (ej_tupD (ad_cons (ej_dat 3) (ad_cons (ej_dat 4) ad_nil)) (Nat.le_of_ble_eq_true rfl)) (aj_cons (ej_call c_l_size_x (G.le (by decide)) (aj_cons (ej_dat (d := fmP b p low high) 0) (aj_cons (ej_call c_l_to (G.le (by decide)) (aj_cons (ej_dat 5) (aj_cons (ej_is (ej_sub (ej_dat 6) ej_int) (congrArg PyData.int e1')) aj_nil)) (R_pow.mk b (p - 1) B F.D.b6 (by omega))) (aj_cons (ej_dat 7) aj_nil))) (RZ)) aj_nil)) (R_crossW.mk n d _ _ B (N.bn.le (by decide)) (N.bd.le (by decide)) (z1.le (by decide)) (z2.le (by decide)))) ej_int) (congrArg PyData.bool (decide_eq_decide.mpr tni))) ?_
      refine sj_ret (ej_tupD (ad_cons (ej_tupD (ad_cons ej_str (ad_cons (ej_dat 2) (ad_cons (ej_at (y := .int c') (ej_dat (d := ndD (c', e')) 11)) (ad_cons (ej_at (y := .int e') (ej_dat (d := ndD (c', e')) 11)) ad_nil)))) (Nat.le_of_ble_eq_true rfl)) (ad_cons (ej_if (B2 := B) (d := .da (if k = 0 then words [] else if c < ((b ^ (p - 1) : Nat) : Int) then words ["inexact", "tiny"] else words ["inexact"])) (tj_val (ej_dat (d := .bool (decide (k = 0))) 10)) (fun h => ?_) (fun h => ?_)) ad_nil)) (Nat.le_of_ble_eq_true rfl)) ⟨rfl, rfl⟩
      · rw [if_pos (of_decide_eq_true h)]; exact (ej_tupD ad_nil (Nat.le_of_ble_eq_true rfl))
      · rw [if_neg (of_decide_eq_false h)]
        refine ej_if (tj_val (ej_dat (d := .bool (decide (c < ((b ^ (p - 1) : Nat) : Int)))) 13)) (fun h => ?_) (fun h => ?_)
        · rw [if_pos (of_decide_eq_true h)]; exact (ej_tupD (ad_cons ej_str (ad_cons ej_str ad_nil)) (Nat.le_of_ble_eq_true rfl))
        · rw [if_neg (of_decide_eq_false h)]; exact (ej_tupD (ad_cons ej_str ad_nil) (Nat.le_of_ble_eq_true rfl))
  by_cases hk : k = 0
  · refine sj_when (x := false) (tj_w (wj_is2 (wj_andF (tj_is (tj_not (tj_val (ej_dat (d := .bool (decide (k = 0))) 10))) (by rw [decide_eq_true hk]; rfl))) rfl)) (fun h => Bool.noConfusion h) (fun _ => ?_)
    refine fin c e ?_
    unfold outP
    rw [hk, show outw way s c 0 = false by unfold outw; rw [if_pos (.inl rfl)]]
    rfl
  · have RU := RU hk
    generalize ho : outw way s c k = o at *
    cases o with
    | false =>
      refine sj_when (x := false) (tj_w (wj_andT (tj_is (tj_not (tj_val (ej_dat (d := .bool (decide (k = 0))) 10))) (by rw [decide_eq_false hk]; rfl)) (wj_and1 (tj_val (ej_call c_l_is_up (G.le (by decide)) (aj_cons (ej_dat (d := fmP b p low high) 0) (aj_cons (ej_dat 1) (aj_cons (ej_dat 2) (aj_cons (ej_dat 3) (aj_cons (ej_dat 4) (aj_cons (ej_dat (d := ndD (c, e)) 9) (aj_cons (ej_call c_l_next (G.le (by decide)) (aj_cons (ej_dat (d := fmP b p low high) 0) (aj_cons (ej_at (y := .int c) (ej_dat (d := ndD (c, e)) 9)) (aj_cons (ej_at (y := .int e) (ej_dat (d := ndD (c, e)) 9)) aj_nil))) (RN)) aj_nil))))))) (RU)))))) (fun h => Bool.noConfusion h) (fun _ => ?_)
      refine fin c e ?_
      unfold outP
      rw [ho]; rfl
    | true =>
      refine sj_when (x := true) (tj_w (wj_andT (tj_is (tj_not (tj_val (ej_dat (d := .bool (decide (k = 0))) 10))) (by rw [decide_eq_false hk]; rfl)) (wj_and1 (tj_val (ej_call c_l_is_up (G.le (by decide)) (aj_cons (ej_dat (d := fmP b p low high) 0) (aj_cons (ej_dat 1) (aj_cons (ej_dat 2) (aj_cons (ej_dat 3) (aj_cons (ej_dat 4) (aj_cons (ej_dat (d := ndD (c, e)) 9) (aj_cons (ej_call c_l_next (G.le (by decide)) (aj_cons (ej_dat (d := fmP b p low high) 0) (aj_cons (ej_at (y := .int c) (ej_dat (d := ndD (c, e)) 9)) (aj_cons (ej_at (y := .int e) (ej_dat (d := ndD (c, e)) 9)) aj_nil))) (RN)) aj_nil))))))) (RU)))))) (fun _ => ?_) (fun h => Bool.noConfusion h)
      refine sj_set 11 (d := .da (ndD ((upN b p c e).1, (upN b p c e).2))) (B1 := B) G.nd (ej_call c_l_next (G.le (by decide)) (aj_cons (ej_dat (d := fmP b p low high) 0) (aj_cons (ej_at (y := .int c) (ej_dat (d := ndD (c, e)) 9)) (aj_cons (ej_at (y := .int e) (ej_dat (d := ndD (c, e)) 9)) aj_nil))) (RN)) (sj_nil ?_)
      refine fin _ _ ?_
      unfold outP
      rw [ho]; rfl

abbrev s_l_decimal_size : Stmt := topS 55
theorem sc_l_decimal_size : FnScope ["_law_c_here", "_law_e", "_law_n", "_law_d"] ["_law_c_here", "_law_e"] (defScope s_l_decimal_size) := ⟨rfl, rfl, rfl, by decide +kernel, rfl, by decide +kernel, by decide +kernel⟩

theorem c_of_l_decimal_size (nd : base.NoDigits) /-H-/ (m_min : mg "min" = none) (m_max : mg "max" = none) (m_len : mg "len" = none) (m_str : mg "str" = none) (c_l_power : Cal P w K mg base "_law_power" 5 R_power_of) /-E-/ (T : At K mg "_law_decimal_size" s_l_decimal_size ["_law_c_here", "_law_e"]) : Cal P w K mg base "_law_decimal_size" 6 R_dsize :=
  cal_at T sc_l_decimal_size (by rintro _ _ _ _ ⟨⟩; rfl) fun f cd0 A out s0 H E0 G Γ B r B' hR => by
  obtain ⟨c, e, B, h0, cb, he⟩ := hR
  obtain ⟨N, hN⟩ : ∃ N : Nat, c = (N : Int) := ⟨c.toNat, by omega⟩
  have hcl : clE c e = if 0 < e then min e 4000 else max e (0 - 4000 - (dl N : Int)) := by unfold clE; rw [hN, Int.toNat_natCast]
  have r := cl_rng (e := e) h0 cb
  have nr := (cl_ndr (e := e) h0 cb)
  have nb : N < 10 ^ 4300 := by
    unfold Bd at cb
    rw [hN, Int.natAbs_natCast] at cb
    exact Nat.lt_trans cb (by decide +kernel)
  have sn : (toString (N : Int) : Str).length ≤ 4300 := by rw [dl_str]; exact (Nat.length_repr_le_iff (by decide)).mpr nb
  have lin : (4300 : Nat) ≤ sizeLine := by decide
  refine sj_set 1 (d := .da (.int (clE c e))) (B1 := B) G.nd (ej_if (tj_gt (ej_dat 1) ej_int) (fun h => ?_) (fun h => ?_)) ?_
  · rw [hcl, if_pos (of_decide_eq_true h)]
    exact ej_min G.calm m_min (ej_dat 1) ej_int
  · rw [hcl, if_neg (of_decide_eq_false h)]
    exact ej_max G.calm m_max (ej_dat 1) (ej_is (ej_sub (ej_sub ej_int ej_int) (ej_lenS (y := toString (N : Int)) (Nat.le_trans sn lin) m_len (ej_strD G nd (by rw [Int.natAbs_natCast]; exact nb) m_str (ej_is (ej_dat 0) (congrArg PyData.int hN))))) (by rw [dl_str]))
  generalize clE c e = k at *
  have RP := R_power_of.mk 10 k B (by decide) (by decide) (by omega) (by omega)
  rw [fq_pw (by decide)] at RP
  refine sj_unpack [2, 3] (ds := [.int ((10 ^ k.toNat : Nat) : Int), .int ((10 ^ (-k).toNat : Nat) : Int)]) G.calm (ej_call c_l_power (G.le (by decide)) (aj_cons ej_int (aj_cons (ej_dat 1) aj_nil)) (RP)) (pgs_cons (pgN 2 G.nd) (pgs_cons (pgN 3 G.nd) pgs_nil)) rfl ?_
  have tb : Bd 20000 ((10 ^ k.toNat : Nat) : Int) := Bd.nat (Nat.lt_of_le_of_lt (Nat.pow_le_pow_right (by decide) (show k.toNat ≤ 4000 by omega)) (by decide +kernel))
  exact sj_ret (ej_tupD (ad_cons (ej_mul (ej_dat 0) (ej_dat 2) (cm cb tb (by decide))) (ad_cons (ej_dat 3) ad_nil)) (Nat.le_of_ble_eq_true rfl)) ⟨rfl, rfl⟩

abbrev s_l_read : Stmt := topS 56
theorem sc_l_read : FnScope ["_law_form", "_law_way_here", "_law_decimal", "_law_n", "_law_d"] ["_law_form", "_law_way_here", "_law_decimal"] (defScope s_l_read) := ⟨rfl, rfl, rfl, by decide +kernel, rfl, by decide +kernel, by decide +kernel⟩

theorem c_of_l_read /-H-/ (c_l_decimal_size : Cal P w K mg base "_law_decimal_size" 6 R_dsize) (c_l_rounded : Cal P w K mg base "_law_rounded" 8 R_lrdd) /-E-/ (T : At K mg "_law_read" s_l_read ["_law_form", "_law_way_here", "_law_decimal"]) : Cal P w K mg base "_law_read" 9 R_lread :=
  cal_at T sc_l_read (by rintro _ _ _ _ ⟨⟩; rfl) fun f cd0 A out s0 H E0 G Γ B r B' hR => by
  obtain ⟨b, p, low, high, way, s, c, e, B, F, hw, hs, h0, hc, h1⟩ := hR
  have N := cl_ndr (e := e) h0 hc
  have hr := sz_rat (c := c) (e := clE c e)
  have rc := read_cl F (way := way) (e := e) hs h0 hc
  refine sj_unpack [3, 4] (ds := [.int (szP 10 c (clE c e)).1, .int (szP 10 c (clE c e)).2]) G.calm (ej_call c_l_decimal_size (G.le (by decide)) (aj_cons (ej_at (y := .int c) (ej_dat (d := dcD s c e) 2)) (aj_cons (ej_at (y := .int e) (ej_dat (d := dcD s c e) 2)) aj_nil)) (R_dsize.mk c e B h0 hc h1)) (pgs_cons (pgN 3 G.nd) (pgs_cons (pgN 4 G.nd) pgs_nil)) rfl ?_
  have RL := R_lrdd.mk b p low high way s _ _ _ B F hw hs N hr
  rw [rc] at RL
  exact sj_ret (ej_call c_l_rounded (G.le (by decide)) (aj_cons (ej_dat (d := fmP b p low high) 0) (aj_cons (ej_dat 1) (aj_cons (ej_at (y := .int s) (ej_dat (d := dcD s c e) 2)) (aj_cons (ej_dat 3) (aj_cons (ej_dat 4) aj_nil))))) (RL)) ⟨rfl, rfl⟩

abbrev s_l_ends : Stmt := topS 57
theorem sc_l_ends : FnScope ["_law_form", "_law_c_here", "_law_e", "_law_base", "_law_digits", "_law_low", "_law_high", "_law_below", "_law_ends_here", "_law_other", "_law_one", "_law_two"] ["_law_form", "_law_c_here", "_law_e"] (defScope s_l_ends) := ⟨rfl, rfl, rfl, by decide +kernel, rfl, by decide +kernel, by decide +kernel⟩

theorem c_of_l_ends (m_int : mg "int" = none) /-H-/ (m_int : mg "int" = none) (c_l_to : Cal P w K mg base "_law_to" 4 R_pow) (c_l_size : Cal P w K mg base "_law_size" 6 R_lszW) (c_l_next : Cal P w K mg base "_law_next" 5 R_lnext) /-E-/ (T : At K mg "_law_ends" s_l_ends ["_law_form", "_law_c_here", "_law_e"]) : Cal P w K mg base "_law_ends" 7 R_lends :=
  cal_at T sc_l_ends (by rintro _ _ _ _ ⟨⟩; rfl) fun f cd0 A out s0 H E0 G Γ B r B' hR => by
  obtain ⟨b, p, low, high, c, e, B, F, h0, h1, h2, h3⟩ := hR
  have b2 := F.D.b2; have p2 := F.D.p2; have hp := F.D.p400
  have e1 : (p : Int) - 1 = ((p - 1 : Nat) : Int) := by omega
  refine sj_unpack [3, 4, 5, 6] (ds := [.int b, .int p, .int low, .int high]) G.calm (ej_dat (d := fmP b p low high) 0) (pgs_cons (pgN 3 G.nd) (pgs_cons (pgN 4 G.nd) (pgs_cons (pgN 5 G.nd) (pgs_cons (pgN 6 G.nd) pgs_nil)))) rfl ?_
  have RL1 := R_pow.mk b (p - 1) B F.D.b6 (by omega)
  have RL2 := R_pow.mk b p B F.D.b6 (by omega)
  refine sj_set 7 (d := .da (ndD (prvP b p low c e))) (B1 := B) G.nd (ej_if (x := decide (((b ^ (p - 1) : Nat) : Int) < c ∨ e = low)) (tj_is (tj_w (wj_or (tj_gt (ej_dat 1) (ej_call c_l_to (G.le (by decide)) (aj_cons (ej_dat 3) (aj_cons (ej_is (ej_sub (ej_dat 4) ej_int) (congrArg PyData.int e1)) aj_nil)) (RL1))) fun _ => wj_or1 (tj_eqI G.hu (ej_dat 2) (ej_dat 5)))) (by by_cases q1 : ((b ^ (p - 1) : Nat) : Int) < c <;> by_cases q2 : e = low <;> simp [q1, q2])) (fun h => ?_) (fun h => ?_)) ?_
  · unfold ndD prvP
    rw [if_pos (of_decide_eq_true h)]
    exact (ej_tupD (ad_cons (ej_sub (ej_dat 1) ej_int) (ad_cons (ej_dat 2) ad_nil)) (Nat.le_of_ble_eq_true rfl))
  · unfold ndD prvP
    rw [if_neg (of_decide_eq_false h)]
    exact (ej_tupD (ad_cons (ej_sub (ej_call c_l_to (G.le (by decide)) (aj_cons (ej_dat 3) (aj_cons (ej_dat 4) aj_nil)) (RL2)) ej_int) (ad_cons (ej_sub (ej_dat 2) ej_int) ad_nil)) (Nat.le_of_ble_eq_true rfl))
  obtain ⟨k1, k2, k3, k4⟩ := prv_le F h0 h1 h2 h3
  have so := sz_ok F (Int.le_of_lt h0) h2 (.inl ⟨Int.le_of_lt h1, h3⟩)
  have sp := sz_ok F k1 k3 (.inl ⟨k2, k4⟩)
  have su := up_ok F (Int.le_of_lt h0) h1 h2 h3
  obtain ⟨u1, u2, u3, u4⟩ := up_rng F (Int.le_of_lt h0) h1 h2 h3
  generalize hpv : prvP b p low c e = pv at *
  generalize hup : upN b p c e = uv at *
  have RO := R_lszW.mk b p low high c e B F.D (Int.le_of_lt h0) (Int.le_of_lt h1) h2 (by omega)
  have body : ∀ (t : Int × Int) (z zz zzz : VD) (acc : List PyData) (fx : List VD → Bag → Prop) (rt : PyData → Bag → Prop) (bk ct : List VD → Bag → List PyData → Prop), acc.length < 1000 → 0 ≤ t.1 → t.1 ≤ ((b ^ p : Nat) : Int) → low ≤ t.2 → t.2 ≤ high + 1 → SzOk A4 C13 (szP b t.1 t.2) →
      OwJ (cxOf CX0 P w K mg base ["_law_form", "_law_c_here", "_law_e", "_law_base", "_law_digits", "_law_low", "_law_high", "_law_below", "_law_ends_here", "_law_other", "_law_one", "_law_two"] "_law_ends" (defScope s_l_ends) f cd0 A out s0 H E0).nox 8 [.da (fmP b p low high), .da (.int c), .da (.int e), .da (.int b), .da (.int p), .da (.int low), .da (.int high), .da (ndD pv), .no, .da (ndD t), zz, zzz] B acc
        (match (defBody s_l_ends).getD 3 (.Pass ⟨0, 0, 0, 0⟩) with | .For _ _ b _ _ => b | _ => [])
        { nx := fun Γ' B' acc' => (∃ z1 z2 z3, Γ' = [.da (fmP b p low high), .da (.int c), .da (.int e), .da (.int b), .da (.int p), .da (.int low), .da (.int high), .da (ndD pv), .no, z1, z2, z3]) ∧ B' = B ∧ acc' = acc ++ [ndD (midP (szP b c e) (szP b t.1 t.2))], fx := fx, rt := rt, bk := bk, ct := ct } := by
    intro t z zz zzz acc fx rt bk ct hl t0 t1 t2 t3 st
    have RT := R_lszW.mk b p low high t.1 t.2 B F.D t0 t1 t2 t3
    obtain ⟨b1, b2'⟩ := so.bd
    obtain ⟨b3, b4⟩ := st.bd
    refine ow_par 10 11 (d1 := .da (ndD (szP b c e))) (d2 := .da (ndD (szP b t.1 t.2))) (B1 := B) G.nd G.calm (aj_cons (ej_call c_l_size (G.le (by decide)) (aj_cons (ej_dat (d := fmP b p low high) 0) (aj_cons (ej_dat 1) (aj_cons (ej_dat 2) aj_nil))) (RO)) (aj_cons (ej_call c_l_size (G.le (by decide)) (aj_cons (ej_dat (d := fmP b p low high) 0) (aj_cons (ej_at (y := .int t.1) (ej_dat (d := ndD t) 9)) (aj_cons (ej_at (y := .int t.2) (ej_dat (d := ndD t) 9)) aj_nil))) (RT)) aj_nil)) ?_ (by decide) (by decide) (by decide) (by rfl)
    generalize szP b c e = x at *
    generalize szP b t.1 t.2 = y at *
    exact ow_app G.nd (ej_is (ej_tupD (ad_cons (ej_add (ej_mul (ej_at (y := .int x.1) (ej_dat (d := ndD x) 10)) (ej_at (y := .int y.2) (ej_dat (d := ndD y) 11)) (cm b1 b4 (by decide))) (ej_mul (ej_at (y := .int y.1) (ej_dat (d := ndD y) 11)) (ej_at (y := .int x.2) (ej_dat (d := ndD x) 10)) (cm b3 b2' (by decide)))) (ad_cons (ej_mul (ej_mul ej_int (ej_at (y := .int x.2) (ej_dat (d := ndD x) 10)) (cm (n := 2) (by unfold Bd; decide) b2' (by decide))) (ej_at (y := .int y.2) (ej_dat (d := ndD y) 11)) (cm ((show Bd 2 (2 : Int) by unfold Bd; decide).mul b2') b4 (by decide))) ad_nil)) (Nat.le_of_ble_eq_true rfl)) rfl) hl (ow_nil ⟨⟨_, _, _, rfl⟩, rfl, rfl⟩)
  refine sj_own 8 G.nd (fj_lst (ds := []) aj_nil (by decide)) (Nat.le_of_ble_eq_true rfl) ?_
  refine ow_forT (ds := [ndD pv, ndD uv]) (B1 := B) 9 G.nd G.calm (by decide) (fun k Γ' B' acc => (∃ z1 z2 z3, Γ' = [.da (fmP b p low high), .da (.int c), .da (.int e), .da (.int b), .da (.int p), .da (.int low), .da (.int high), .da (ndD pv), .no, z1, z2, z3]) ∧ B' = B ∧ acc = ([ndD (midP (szP b c e) (szP b pv.1 pv.2)), ndD (midP (szP b c e) (szP b uv.1 uv.2))] : List PyData).take k) (ej_tupD (ad_cons (ej_dat (d := ndD pv) 7) (ad_cons (ej_call c_l_next (G.le (by decide)) (aj_cons (ej_dat (d := fmP b p low high) 0) (aj_cons (ej_dat 1) (aj_cons (ej_dat 2) aj_nil))) ((by have := R_lnext.mk b p low high c e B F.D h1; rw [hup] at this; exact this))) ad_nil)) (Nat.le_of_ble_eq_true rfl)) ⟨⟨_, _, _, rfl⟩, rfl, rfl⟩ (fun k y Γ' B' acc hy hI => ?_) (fun Γ' B' acc hI => ?_)
  · obtain ⟨⟨z1, z2, z3, rfl⟩, rfl, rfl⟩ := hI
    match k, hy with
    | 0, hy =>
      injection hy with hy; subst hy
      exact body pv .no z2 z3 _ _ _ _ _ (Nat.lt_of_le_of_lt (List.length_take_le _ _) (by decide)) k1 k2 k3 (by omega) sp
    | 1, hy =>
      injection hy with hy; subst hy
      exact body uv .no z2 z3 _ _ _ _ _ (Nat.lt_of_le_of_lt (List.length_take_le _ _) (by decide)) u1 u2 u3 u4 su
    | k + 2, hy => cases hy
  · obtain ⟨⟨z1, z2, z3, rfl⟩, rfl, rfl⟩ := hI
    refine ow_end (sj_ret (ej_tupD (ad_cons (ej_atL (y := ndD (loP b p low c e)) (ej_dat (d := .list [ndD (midP (szP b c e) (szP b pv.1 pv.2)), ndD (midP (szP b c e) (szP b uv.1 uv.2))]) 8) (by unfold loP; rw [hpv]; rfl)) (ad_cons (ej_atL (y := ndD (upP b p c e)) (ej_dat (d := .list [ndD (midP (szP b c e) (szP b pv.1 pv.2)), ndD (midP (szP b c e) (szP b uv.1 uv.2))]) 8) (by unfold upP; rw [hup]; rfl)) (ad_cons (ej_eqI G.hu (ej_mod (ej_int1 m_int (ej_dat 1)) ej_int (by decide)) ej_int) ad_nil))) (Nat.le_of_ble_eq_true rfl)) ⟨rfl, rfl⟩)

abbrev s_l_divisor_by_ten : Stmt := topS 58
theorem sc_l_divisor_by_ten : FnScope ["_law_d", "_law_twos", "_law_fives"] ["_law_d"] (defScope s_l_divisor_by_ten) := ⟨rfl, rfl, rfl, by decide +kernel, rfl, by decide +kernel, by decide +kernel⟩

theorem c_of_l_divisor_by_ten (m_int : mg "int" = none) (m_max : mg "max" = none) /-H-/ (m_int : mg "int" = none) (m_max : mg "max" = none) /-E-/ (T : At K mg "_law_divisor_by_ten" s_l_divisor_by_ten ["_law_d"]) : Cal P w K mg base "_law_divisor_by_ten" 4 R_dten :=
  cal_at T sc_l_divisor_by_ten (by rintro _ _ _ _ ⟨⟩; rfl) fun f cd0 A out s0 H E0 G Γ B r B' hR => by
  obtain ⟨d, B, d0, hb⟩ := hR
  have eq0 : ∀ (m q : Nat), ((m : Int) % (q : Int) = 0) ↔ m % q = 0 := fun m q => by rw [← Int.natCast_emod]; omega
  refine sj_unpack [1, 2] (ds := [.int ((0 : Nat) : Int), .int ((0 : Nat) : Int)]) (B1 := B) G.calm (ej_tupD (ad_cons ej_int (ad_cons ej_int ad_nil)) (Nat.le_of_ble_eq_true rfl)) (pgs_cons (pgN 1 G.nd) (pgs_cons (pgN 2 G.nd) pgs_nil)) rfl ?_
  refine sj_while G.nd (fun Γ' B' => ∃ m k f : Nat, Γ' = [.da (.int (m : Int)), .da (.int (k : Int)), .da (.int ((0 : Nat) : Int))] ∧ 0 < m ∧ m ≤ f ∧ stripN 2 d d = ((stripN 2 f m).1, (stripN 2 f m).2 + k) ∧ B' = B) (fun Γ' _ => (intAt Γ' 0).toNat) ⟨d, 0, d, rfl, d0, Nat.le_refl _, rfl, rfl⟩ ?_
  rintro Γ' B' ⟨m, k, f, rfl, m0, mf, hs, rfl⟩
  refine ⟨decide ((m : Int) % 2 = 0), tj_eqI G.hu (ej_mod (ej_int1 m_int (ej_dat 0)) ej_int (by decide)) ej_int, fun hc => ?_, fun hc => ?_⟩
  · have h := (eq0 m 2).mp (of_decide_eq_true hc)
    obtain ⟨f, rfl⟩ : ∃ g, f = g + 1 := ⟨f - 1, by omega⟩
    have e : stripN 2 (f + 1) m = ((stripN 2 f (m / 2)).1, (stripN 2 f (m / 2)).2 + 1) := by rw [stripN, if_pos h]
    refine sj_par 0 1 (d1 := .da (.int ((m / 2 : Nat) : Int))) (d2 := .da (.int ((k + 1 : Nat) : Int))) (B1 := B') G.nd G.calm (aj_cons (ej_is (ej_fdiv (ej_int1 m_int (ej_dat 0)) ej_int (cdv (n := 3) (by unfold Bd; decide) (by decide))) (congrArg PyData.int (Int.natCast_ediv m 2).symm)) (aj_cons (ej_is (ej_add (ej_dat 1) ej_int) (congrArg PyData.int (by omega))) aj_nil)) (sj_nil ⟨⟨m / 2, k + 1, f, rfl, by omega, by omega, by rw [hs, e]; exact Prod.ext rfl (by show _ + 1 + k = _ + (k + 1); omega), rfl⟩, ?_⟩) (by decide) (by rfl)
    show (((m / 2 : Nat) : Int)).toNat < ((m : Nat) : Int).toNat
    rw [Int.toNat_natCast, Int.toNat_natCast]; omega
  have h : ¬ m % 2 = 0 := fun z => of_decide_eq_false hc ((eq0 m 2).mpr z)
  rw [strip_stop h, Nat.zero_add] at hs
  generalize hd : m = d5 at *
  refine sj_while G.nd (fun Γ' B2 => ∃ m k' f : Nat, Γ' = [.da (.int (m : Int)), .da (.int (k : Int)), .da (.int (k' : Int))] ∧ 0 < m ∧ m ≤ f ∧ stripN 5 d5 d5 = ((stripN 5 f m).1, (stripN 5 f m).2 + k') ∧ B2 = B') (fun Γ' _ => (intAt Γ' 0).toNat) ⟨d5, 0, d5, rfl, m0, Nat.le_refl _, rfl, rfl⟩ ?_
  rintro Γ' B2 ⟨m, k', f, rfl, m0, mf, hs5, rfl⟩
  refine ⟨decide ((m : Int) % 5 = 0), tj_eqI G.hu (ej_mod (ej_int1 m_int (ej_dat 0)) ej_int (by decide)) ej_int, fun hc => ?_, fun hc => ?_⟩
  · have h := (eq0 m 5).mp (of_decide_eq_true hc)
    obtain ⟨f, rfl⟩ : ∃ g, f = g + 1 := ⟨f - 1, by omega⟩
    have e : stripN 5 (f + 1) m = ((stripN 5 f (m / 5)).1, (stripN 5 f (m / 5)).2 + 1) := by rw [stripN, if_pos h]
    refine sj_par 0 2 (d1 := .da (.int ((m / 5 : Nat) : Int))) (d2 := .da (.int ((k' + 1 : Nat) : Int))) (B1 := B2) G.nd G.calm (aj_cons (ej_is (ej_fdiv (ej_int1 m_int (ej_dat 0)) ej_int (cdv (n := 3) (by unfold Bd; decide) (by decide))) (congrArg PyData.int (Int.natCast_ediv m 5).symm)) (aj_cons (ej_is (ej_add (ej_dat 2) ej_int) (congrArg PyData.int (by omega))) aj_nil)) (sj_nil ⟨⟨m / 5, k' + 1, f, rfl, by omega, by omega, by rw [hs5, e]; exact Prod.ext rfl (by show _ + 1 + k' = _ + (k' + 1); omega), rfl⟩, ?_⟩) (by decide) (by rfl)
    show (((m / 5 : Nat) : Int)).toNat < ((m : Nat) : Int).toNat
    rw [Int.toNat_natCast, Int.toNat_natCast]; omega
  have h5 : ¬ m % 5 = 0 := fun z => of_decide_eq_false hc ((eq0 m 5).mpr z)
  rw [strip_stop h5, Nat.zero_add] at hs5
  have ek : tenK d = if m = 1 ∧ max k k' ≤ 1200 then some (max k k') else none := by
    unfold tenK; rw [hs]; dsimp only; rw [hs5]
  have mx : max (k : Int) (k' : Int) = ((max k k' : Nat) : Int) := by omega
  refine sj_ret (ej_if (d := .da (optK (tenK d))) (x := decide (m = 1 ∧ max k k' ≤ 1200)) (tj_is (tj_w (wj_and (tj_eqI G.hu (ej_dat 0) ej_int) fun _ => (wj_and1 (tj_le (ej_is (ej_max G.calm m_max (ej_dat 1) (ej_dat 2)) (congrArg PyData.int mx)) ej_int)))) (by by_cases q1 : m = 1 <;> by_cases q2 : max k k' ≤ 1200 <;> simp [q1, q2] <;> omega)) (fun h => ?_) (fun h => ?_)) ⟨rfl, rfl⟩
  · rw [ek, if_pos (of_decide_eq_true h)]
    exact ej_is (ej_max G.calm m_max (ej_dat 1) (ej_dat 2)) (congrArg PyData.int mx)
  · rw [ek, if_neg (of_decide_eq_false h)]
    exact ej_non

abbrev s_l_way : Stmt := topS 59
theorem sc_l_way : FnScope ["_law_bag_here"] ["_law_bag_here"] (defScope s_l_way) := ⟨rfl, rfl, rfl, by decide +kernel, rfl, by decide +kernel, by decide +kernel⟩

theorem c_of_l_way /-H-/ (c_l_some : Cal P w K mg base "_law_some" 5 R_some) /-E-/ (T : At K mg "_law_way" s_l_way ["_law_bag_here"]) : CalX P w K mg base "_law_way" 6 Pre_cpl Post_tw :=
  calx_at T sc_l_way (by rintro _ _ ⟨rfl, _⟩; rfl) fun f cd0 A out s0 H E0 G Γ B hPre => by
  obtain ⟨rfl, ok0⟩ := hPre
  obtain ⟨t, ht, B2, rb, ok2⟩ := sm_ex (["even", "even", "away", "up", "down", "zero"] : List Str) PyData.str (by decide) ok0 (by decide)
  exact sj_ret (ej_call c_l_some (G.le (by decide)) (aj_cons (ej_bag 0) (aj_cons (ej_is (y := .list ((["even", "even", "away", "up", "down", "zero"] : List Str).map PyData.str)) (ej_lstD (ad_cons ej_str (ad_cons ej_str (ad_cons ej_str (ad_cons ej_str (ad_cons ej_str (ad_cons ej_str ad_nil)))))) (Nat.le_of_ble_eq_true rfl)) rfl) aj_nil)) (rb)) ⟨ok2, t, (by simp only [List.mem_cons, List.not_mem_nil, or_false] at ht; rcases ht with rfl | rfl | rfl | rfl | rfl | rfl <;> decide +kernel), rfl⟩

abbrev s_l_moved : Stmt := topS 60
theorem sc_l_moved : FnScope ["_law_bag_here", "_law_s", "_law_c_here", "_law_e", "_law_digits", "_law_at", "_law_body"] ["_law_bag_here", "_law_s", "_law_c_here", "_law_e"] (defScope s_l_moved) := ⟨rfl, rfl, rfl, by decide +kernel, rfl, by decide +kernel, by decide +kernel⟩

theorem c_of_l_moved (nd : base.NoDigits) /-H-/ (m_str : mg "str" = none) (m_len : mg "len" = none) (c_l_take : Cal P w K mg base "_law_take" 4 R_take) (c_l_some : Cal P w K mg base "_law_some" 5 R_some) /-E-/ (T : At K mg "_law_moved" s_l_moved ["_law_bag_here", "_law_s", "_law_c_here", "_law_e"]) : CalX P w K mg base "_law_moved" 7 Pre_mv Post_mv :=
  calx_at T sc_l_moved (by rintro _ _ ⟨s, c, e, rfl, _⟩; rfl) fun f cd0 A out s0 H E0 G Γ B hPre => by
  obtain ⟨s, c, e, rfl, s01, hc, he, ok0⟩ := hPre
  have sl : (4000 : Nat) ≤ sizeLine := by decide
  have cb : c < 10 ^ 4300 := Nat.lt_of_lt_of_le ((dl_iff (by decide)).mp hc) (Nat.pow_le_pow_right (by decide) (by decide))
  have t0 : ("0" : Str) = ⟨#[48]⟩ := by decide +kernel
  have tm := s_minus
  have nl : (numT c).cps.toList.length = dl c := numT_len c
  have nl2 : (numT c).length = dl c := by rw [len_tl, nl]
  have nd1 := numT_ds c
  have nv := numT_val c
  have nn := numT_ne c
  refine sj_set 4 (d := .da (.str (numT c))) (B1 := B) G.nd (ej_strD G nd (by rw [Int.natAbs_natCast]; exact cb) m_str (ej_dat (d := .int (c : Int)) 2)) ?_
  generalize numT c = N at *
  have big : (N.length : Int) + 1 < 2 ^ 60 := by
    have : (4000 : Int) < 2 ^ 60 := by decide
    omega
  obtain ⟨v, B1, ra, v0, v1, ok1⟩ := tk_ex ok0 ((N.length : Int) + 1) (by omega) big
  obtain ⟨a, rfl⟩ : ∃ a : Nat, v = (a : Int) := ⟨v.toNat, by omega⟩
  have al : a ≤ N.cps.toList.length := by omega
  have ls : N.length ≤ sizeLine := by omega
  refine sj_set 5 (d := .da (.int (a : Int))) (B1 := B1) G.nd (ej_call c_l_take (G.le (by decide)) (aj_cons (ej_bag 0) (aj_cons (ej_add (ej_lenS (y := N) ls m_len (ej_dat (d := .str N) 4)) ej_int) aj_nil)) (ra)) ?_
  obtain ⟨z, B2, rz, z0, z1, ok2⟩ := tk_ex ok1 3 (by decide) (by decide)
  obtain ⟨c1, c2⟩ := cutTo N a al
  have mz : MulOk ("0" : Str) z := by
    have : z = 0 ∨ z = 1 ∨ z = 2 := by omega
    rcases this with rfl | rfl | rfl <;> (unfold MulOk; decide +kernel)
  have mtl : (Txt.mul ("0" : Str) z).cps.toList = List.replicate z.toNat 48 := by rw [t0]; exact mul_one_list 48 z
  have ms : MulOk ("-" : Str) s := by rcases s01 with rfl | rfl <;> (unfold MulOk; decide +kernel)
  have stl : (Txt.mul ("-" : Str) s).cps.toList = List.replicate s.toNat 45 := by rw [tm]; exact mul_one_list 45 s
  have cl1 : (cutS N none (some (a : Int))).length = a := by rw [len_tl, c1, List.length_take]; omega
  have cl2 : (cutS N (some (a : Int)) none).length = N.cps.toList.length - a := by rw [len_tl, c2, List.length_drop]
  have ml : (Txt.mul ("0" : Str) z).length ≤ 2 := by rw [len_tl, mtl, List.length_replicate]; omega
  have dl1 : ("." : Str).length = 1 := by decide +kernel
  have app : ∀ x y : Str, (x ++ y).length = x.length + y.length := fun x y => by rw [len_tl, len_tl, len_tl, tl_app, List.length_append]
  refine sj_set 6 (d := .da (.str (Txt.mul ("0" : Str) z ++ cutS N none (some (a : Int)) ++ "." ++ cutS N (some (a : Int)) none))) (B1 := B2) G.nd (ej_catS (ej_catS (ej_catS (ej_mulS ej_str (ej_call c_l_take (G.le (by decide)) (aj_cons (ej_bag 0) (aj_cons ej_int aj_nil)) (rz)) mz) (ej_sliceS (ej_dat (d := .str N) 4) oj_none (oj_some (ej_dat (d := .int (a : Int)) 5)) ls) (by omega)) ej_str (by rw [app]; omega)) (ej_sliceS (ej_dat (d := .str N) 4) (oj_some (ej_dat (d := .int (a : Int)) 5)) oj_none ls) (by rw [app, app]; omega)) ?_
  have hMT : MT (Txt.mul ("0" : Str) z ++ cutS N none (some (a : Int)) ++ "." ++ cutS N (some (a : Int)) none) (Txt.mul ("0" : Str) z ++ cutS N none (some (a : Int))) (cutS N (some (a : Int)) none) := MT.dot _ _
  have hA : isDs (Txt.mul ("0" : Str) z ++ cutS N none (some (a : Int))).cps.toList := by
    rw [tl_app, mtl, c1]; exact isDs_app (isDs_zeros _) (isDs_sub nd1 fun c hc => List.mem_of_mem_take hc)
  have hD : isDs (cutS N (some (a : Int)) none).cps.toList := by rw [c2]; exact isDs_sub nd1 fun c hc => List.mem_of_mem_drop hc
  have hAD : (Txt.mul ("0" : Str) z ++ cutS N none (some (a : Int))).cps.toList ++ (cutS N (some (a : Int)) none).cps.toList = List.replicate z.toNat 48 ++ N.cps.toList := by
    rw [tl_app, mtl, c1, c2, List.append_assoc, List.take_append_drop]
  have hV : digV ((Txt.mul ("0" : Str) z ++ cutS N none (some (a : Int))).cps.toList ++ (cutS N (some (a : Int)) none).cps.toList) = c := by rw [hAD, digV_zeros, nv]
  have hne : (Txt.mul ("0" : Str) z ++ cutS N none (some (a : Int))).cps.toList ++ (cutS N (some (a : Int)) none).cps.toList ≠ [] := by
    rw [hAD]; intro h; exact nn (List.append_eq_nil_iff.mp h).2
  have hDl : ((cutS N (some (a : Int)) none).cps.toList.length : Int) = (N.length : Int) - a := by rw [c2, List.length_drop, len_tl]; omega
  have hAl : (Txt.mul ("0" : Str) z ++ cutS N none (some (a : Int))).cps.toList.length + (cutS N (some (a : Int)) none).cps.toList.length ≤ 3000 := by
    rw [tl_app, List.length_append, mtl, List.length_replicate, c1, c2, List.length_take, List.length_drop]; omega
  have bodyl : (Txt.mul ("0" : Str) z ++ cutS N none (some (a : Int)) ++ "." ++ cutS N (some (a : Int)) none).length ≤ 3000 := by rw [app, app, app]; omega
  generalize Txt.mul ("0" : Str) z ++ cutS N none (some (a : Int)) ++ "." ++ cutS N (some (a : Int)) none = body at *
  generalize Txt.mul ("0" : Str) z ++ cutS N none (some (a : Int)) = A1 at *
  generalize cutS N (some (a : Int)) none = D1 at *
  have fin : ∀ (sg : Str) (B3 : Bag) (E : Int), E = e + (N.length : Int) - (a : Int) → ((0 ≤ E ∧ (sg = ("" : Str) ∨ sg = ("+" : Str))) ∨ sg = ("" : Str)) → Bok B3 → Post_mv [.bag, .da (.int s), .da (.int (c : Int)), .da (.int e)] B (.str ((((Txt.mul ("-" : Str) s ++ body) ++ "e") ++ sg) ++ (toString E : Str))) B3 := fun sg B3 E hE hs ok3 => by
    refine ⟨ok3, fun s' c' e' hz => ?_⟩
    injection hz with _ hz
    injection hz with h1 hz
    injection hz with h2 hz
    injection hz with h3 _
    injection h1 with h1
    injection h1 with h1
    injection h2 with h2
    injection h2 with h2
    injection h3 with h3
    injection h3 with h3
    subst h1
    subst h3
    have h2 : c = c' := by omega
    subst h2
    refine ⟨_, rfl, ?_⟩
    have Eb : dl E.natAbs ≤ 500 := by
      rw [dl_iff (by decide)]
      refine Nat.lt_of_lt_of_le (m := 2 ^ 61) ?_ (by decide +kernel)
      unfold Bd at he
      have : (2 ^ 61 : Nat) = 2 * 2 ^ 60 := by decide
      have : 4000 < 2 ^ 60 := by decide
      omega
    have h := mv_dec (s := s) s01 stl hMT hA hD hne hs hAl Eb
    rw [hV, hDl, show E - ((N.length : Int) - (a : Int)) = e by omega] at h
    exact h
  obtain ⟨E, hE⟩ : ∃ E : Int, e + (N.length : Int) - (a : Int) = E := ⟨_, rfl⟩
  have El : E.natAbs.log2 < 1920 := by
    refine PySem.Flt.log2_lt_of (by decide) (Nat.lt_of_lt_of_le (m := 2 ^ 61) ?_ (by decide +kernel))
    unfold Bd at he
    have : (2 ^ 61 : Nat) = 2 * 2 ^ 60 := by decide
    have : 4000 < 2 ^ 60 := by decide
    omega
  have sml : (Txt.mul ("-" : Str) s).length ≤ 1 := by rw [len_tl, stl, List.length_replicate]; omega
  have el1 : ("e" : Str).length = 1 := by decide +kernel
  have Es : (toString E : Str).length ≤ 640 := by
    have Eb : dl E.natAbs ≤ 500 := by
      rw [dl_iff (by decide)]
      refine Nat.lt_of_lt_of_le (m := 2 ^ 61) ?_ (by decide +kernel)
      unfold Bd at he
      have : (2 ^ 61 : Nat) = 2 * 2 ^ 60 := by decide
      have : 4000 < 2 ^ 60 := by decide
      omega
    by_cases h0 : 0 ≤ E
    · rw [intT_pos h0, len_tl, numT_len, show E.toNat = E.natAbs by omega]; omega
    · rw [len_tl, intT_neg (by omega), List.length_cons, numT_len, show (-E).toNat = E.natAbs by omega]; omega
  by_cases h0 : 0 ≤ E
  · obtain ⟨sg, hsg, B3, rs, ok3⟩ := sm_ex ([("" : Str), ("+" : Str)] : List Str) PyData.str (Nat.le_of_ble_eq_true rfl) ok2 (Nat.zero_lt_succ _)
    have sgl : sg.length ≤ 1 := by
      simp only [List.mem_cons, List.not_mem_nil, or_false] at hsg
      rcases hsg with rfl | rfl <;> decide +kernel
    refine sj_ret (ej_catS (ej_catS (ej_catS (ej_catS (ej_mulS ej_str (ej_dat (d := .int s) 1) ms) (ej_dat (d := .str body) 6) (by omega)) ej_str (by rw [app]; omega)) (ej_call c_l_some (G.le (by decide)) (aj_cons (ej_bag 0) (aj_cons (ej_ifT (tj_is (tj_ge (ej_is (ej_sub (ej_add (ej_dat (d := .int e) 3) (ej_lenS (y := N) ls m_len (ej_dat (d := .str N) 4))) (ej_dat (d := .int (a : Int)) 5)) (congrArg PyData.int hE)) ej_int) (decide_eq_true h0)) (ej_is (y := .list (([("" : Str), ("+" : Str)] : List Str).map PyData.str)) (ej_lstD (ad_cons ej_str (ad_cons ej_str ad_nil)) (Nat.le_of_ble_eq_true rfl)) rfl)) aj_nil)) (rs)) (by rw [app, app]; omega)) (ej_strI El m_str (ej_is (ej_sub (ej_add (ej_dat (d := .int e) 3) (ej_lenS (y := N) ls m_len (ej_dat (d := .str N) 4))) (ej_dat (d := .int (a : Int)) 5)) (congrArg PyData.int hE))) (by rw [app, app, app]; omega)) (fin sg B3 E hE.symm (.inl ⟨h0, by simpa using hsg⟩) ok3)
  · obtain ⟨sg, hsg, B3, rs, ok3⟩ := sm_ex ([("" : Str)] : List Str) PyData.str (Nat.le_of_ble_eq_true rfl) ok2 (Nat.zero_lt_succ _)
    have sgl : sg.length ≤ 1 := by
      simp only [List.mem_cons, List.not_mem_nil, or_false] at hsg
      subst hsg; decide +kernel
    refine sj_ret (ej_catS (ej_catS (ej_catS (ej_catS (ej_mulS ej_str (ej_dat (d := .int s) 1) ms) (ej_dat (d := .str body) 6) (by omega)) ej_str (by rw [app]; omega)) (ej_call c_l_some (G.le (by decide)) (aj_cons (ej_bag 0) (aj_cons (ej_ifF (tj_is (tj_ge (ej_is (ej_sub (ej_add (ej_dat (d := .int e) 3) (ej_lenS (y := N) ls m_len (ej_dat (d := .str N) 4))) (ej_dat (d := .int (a : Int)) 5)) (congrArg PyData.int hE)) ej_int) (decide_eq_false h0)) (ej_is (y := .list (([("" : Str)] : List Str).map PyData.str)) (ej_lstD (ad_cons ej_str ad_nil) (Nat.le_of_ble_eq_true rfl)) rfl)) aj_nil)) (rs)) (by rw [app, app]; omega)) (ej_strI El m_str (ej_is (ej_sub (ej_add (ej_dat (d := .int e) 3) (ej_lenS (y := N) ls m_len (ej_dat (d := .str N) 4))) (ej_dat (d := .int (a : Int)) 5)) (congrArg PyData.int hE))) (by rw [app, app, app]; omega)) (fin sg B3 E hE.symm (.inr (by simpa using hsg)) ok3)

abbrev s_law : Stmt := topS 61
theorem sc_law : FnScope ["_law_script", "_law_bag_here", "_law_turn", "_law_form", "_law_s", "_law_c_here", "_law_e", "_law_n", "_law_d", "_law_more", "_law_half", "_law_zeros", "_law_texts", "_law_digits", "_law_at", "_law_text", "_law_way_here"] ["_law_script"] (defScope s_law) := ⟨rfl, rfl, rfl, by decide +kernel, rfl, by decide +kernel, by decide +kernel⟩

theorem ok_law {f : Addr} {fd : FuncData} /-H-/ (m_range : mg "range" = none) (c_l_some : Cal P w K mg base "_law_some" 5 R_some) (c_l_some_t : Cal P w K mg base "_law_some" 5 R_someT) (c_l_ends : Cal P w K mg base "_law_ends" 7 R_lends) (c_l_divisor_by_ten : Cal P w K mg base "_law_divisor_by_ten" 4 R_dten) (c_l_to : Cal P w K mg base "_law_to" 4 R_pow) (c_l_alike : Cal P w K mg base "_law_alike" 4 R_alikeA) (c_read : Cal P w K mg base "read" 10 R_readT) (c_l_read : Cal P w K mg base "_law_read" 9 R_lread) (c_l_bag : Cal P w K mg base "_law_bag" 4 R_bag) (c_l_number_c : CalX P w K mg base "_law_number" 7 Pre_tn Post_tnC) (c_l_moved : CalX P w K mg base "_law_moved" 7 Pre_mv Post_mv) (c_l_way : CalX P w K mg base "_law_way" 6 Pre_cpl Post_tw) /-E-/
    (F : Fun K "law" "law" s_law f fd) : FnG P w K mg base 13 f fd ["_law_script"] (spLaw K) := by
  refine fnG_of F sc_law (by rintro vs H Q E ⟨a, ns, rfl, _⟩; rfl) fun cd0 A out s H vs Q E G hsp => ?_
  obtain ⟨a, ns, rfl, hS, hlen, q⟩ := hsp
  have Ev : EnvD K none H (L2.start ["_law_script", "_law_bag_here", "_law_turn", "_law_form", "_law_s", "_law_c_here", "_law_e", "_law_n", "_law_d", "_law_more", "_law_half", "_law_zeros", "_law_texts", "_law_digits", "_law_at", "_law_text", "_law_way_here"] [.ref a]) ([.scr ns] ++ List.replicate (17 - 1) .no) := start_env (Γ := [.scr ns]) ⟨⟨a, rfl, hS⟩, trivial⟩ (Nat.le_of_ble_eq_true rfl)
  have O : On K none ⟨0, 0, 0, []⟩ H H := ⟨Same.refl _, fun _ _ z => nomatch z⟩
  refine sj_law 1 G.nd (y := 1234567891) (ns := (ns.take 63).map absI) (ej_call c_l_bag (G.le (by decide)) (aj_cons (ej_var 0 (d := .scr ns) rfl (fun z => nomatch z)) aj_nil) (R_bag.mk ns _ hlen)) ?_ (Ev := Ev) (O := O) (q := q)
  generalize hB0 : (⟨0, 1234567891, 0, (ns.take 63).map absI⟩ : Bag) = B0
  have okB : Bok B0 := by rw [← hB0]; show ((ns.take 63).map absI).length ≤ 63; rw [List.length_map, List.length_take]; omega
  clear hB0
  refine sj_forR 2 (n := 4) (B1 := B0) G.nd G.calm m_range (fun _ Γ' B' => Bok B' ∧ ∃ g2 g3 g4 g5 g6 g7 g8 g9 g10 g11 g12 g13 g14 g15 g16, Γ' = [.no, .bag, g2, g3, g4, g5, g6, g7, g8, g9, g10, g11, g12, g13, g14, g15, g16]) ej_int (by decide) ⟨okB, _, _, _, _, _, _, _, _, _, _, _, _, _, _, _, rfl⟩ (fun tn Γ' B' htn hP => ?_) (fun Γ' B' hP => ?_)
  rotate_left
  · obtain ⟨_, g2, g3, g4, g5, g6, g7, g8, g9, g10, g11, g12, g13, g14, g15, g16, rfl⟩ := hP
    exact sj_ret ej_bl rfl
  obtain ⟨ok1, g2, g3, g4, g5, g6, g7, g8, g9, g10, g11, g12, g13, g14, g15, g16, rfl⟩ := hP
  obtain ⟨t, ht, B1, rs, ok2⟩ := sm_ex f45 F4.d (by decide) ok1 (by decide)
  have fo := List.all_eq_true.mp f45_ok t ht
  rw [Bool.and_eq_true, Bool.and_eq_true, decide_eq_true_iff, decide_eq_true_iff] at fo
  obtain ⟨f1, hb, hK⟩ := fo
  have Fm := fmr_of f1
  refine sj_set 3 (d := .da t.d) (B1 := B1) G.nd (ej_call c_l_some (G.le (by decide)) (aj_cons (ej_bag 1) (aj_cons (ej_is (y := .list (f45.map F4.d)) (ej_lstD (ad_cons (ej_tupD (ad_cons ej_int (ad_cons ej_int (ad_cons (ej_neg ej_int) (ad_cons ej_int ad_nil)))) (Nat.le_of_ble_eq_true rfl)) (ad_cons (ej_tupD (ad_cons ej_int (ad_cons ej_int (ad_cons (ej_neg ej_int) (ad_cons ej_int ad_nil)))) (Nat.le_of_ble_eq_true rfl)) (ad_cons (ej_tupD (ad_cons ej_int (ad_cons ej_int (ad_cons (ej_neg ej_int) (ad_cons ej_int ad_nil)))) (Nat.le_of_ble_eq_true rfl)) (ad_cons (ej_tupD (ad_cons ej_int (ad_cons ej_int (ad_cons (ej_neg ej_int) (ad_cons ej_int ad_nil)))) (Nat.le_of_ble_eq_true rfl)) (ad_cons (ej_tupD (ad_cons ej_int (ad_cons ej_int (ad_cons (ej_neg ej_int) (ad_cons ej_int ad_nil)))) (Nat.le_of_ble_eq_true rfl)) (ad_cons (ej_tupD (ad_cons ej_int (ad_cons ej_int (ad_cons (ej_neg ej_int) (ad_cons ej_int ad_nil)))) (Nat.le_of_ble_eq_true rfl)) ad_nil)))))) (Nat.le_of_ble_eq_true rfl)) rfl) aj_nil)) (rs)) ?_
  clear rs ht f1
  obtain ⟨b, p, low, high⟩ := t
  dsimp only at hb hK Fm
  show SJ _ [.no, .bag, .da (.int (tn : Nat)), .da (fmP b p low high), g4, g5, g6, g7, g8, g9, g10, g11, g12, g13, g14, g15, g16] _ _ _
  refine sj_unpackX [4, 5, 6] (n := 3) G.calm (ex_sliceT (ex_call c_l_number_c (G.le (by decide)) (ax_bag 1 (ax_aj (aj_cons (ej_dat (d := fmP b p low high) 3) aj_nil) ⟨⟨b, p, low, high, rfl, Fm.D, ok2⟩, fun r B2 hr => ?_⟩)))) (pgs_cons (pgN 4 G.nd) (pgs_cons (pgN 5 G.nd) (pgs_cons (pgN 6 G.nd) pgs_nil))) rfl
  obtain ⟨ok3, hr⟩ := hr
  obtain ⟨s, c, e, rfl, N⟩ := hr b p low high rfl
  refine ⟨[.str "num", .int s, .int c, .int e], some 1, none, rfl, oj_some ej_int, oj_none, [.int s, .int c, .int e], rfl, rfl, ?_⟩
  have s01 := N.D.1
  have el := N.D.2.2.2.1; have eh := N.D.2.2.2.2
  obtain ⟨_, n2, n3⟩ := ends_ok Fm N.c0 N.D.2.2.1 el eh
  obtain ⟨d1, d2⟩ := dn45_le Fm N.c0 N.D.2.2.1 el eh hK
  have RL := R_lends.mk b p low high c e B2 Fm N.c0 N.D.2.2.1 el eh
  generalize loP b p low c e = x at *
  generalize upP b p c e = y at *
  obtain ⟨u, hu, un, ud⟩ : ∃ u : Int × Int, pick [ndD x, ndD y] B2 = ndD u ∧ NdOk A4 C13 u ∧ u.2.toNat < 2 ^ 681 := by
    have hp := pick_in [ndD x, ndD y] B2 (show 0 < 2 by decide)
    simp only [List.mem_cons, List.not_mem_nil, or_false] at hp
    rcases hp with h | h
    · exact ⟨x, h, n2, d1⟩
    · exact ⟨y, h, n3, d2⟩
  have RS := R_someT.mk B2 [ndD x, ndD y] (show 0 < 2 by decide) (show 2 ≤ 1000 by decide) ok3
  have ok4 := tkB_ok ok3 (([ndD x, ndD y] : List PyData).length : Int)
  rw [hu] at RS
  generalize tkB B2 (([ndD x, ndD y] : List PyData).length : Int) = B3 at *
  obtain ⟨n, dI⟩ := u
  obtain ⟨d, rfl⟩ : ∃ d : Nat, dI = (d : Int) := ⟨dI.toNat, by have := un.d0; dsimp only at this; omega⟩
  have n0 := un.n0; have d0 := un.d0; have q2 := un.q2
  dsimp only at n0 d0 q2 ud
  rw [Int.toNat_natCast] at ud
  have nb := un.bd.1
  dsimp only at nb
  have db : Bd 681 (d : Int) := Bd.nat ud
  refine sj_unpack [7, 8] (ds := [.int n, .int (d : Int)]) (B1 := B3) G.calm (ej_call c_l_some_t (G.le (by decide)) (aj_cons (ej_bag 1) (aj_cons (ej_is (y := .tuple [ndD x, ndD y]) (ej_sliceT (ej_call c_l_ends (G.le (by decide)) (aj_cons (ej_dat (d := fmP b p low high) 3) (aj_cons (ej_dat (d := .int c) 5) (aj_cons (ej_dat (d := .int e) 6) aj_nil))) (RL)) oj_none (oj_some ej_int)) rfl) aj_nil)) (RS)) (pgs_cons (pgN 7 G.nd) (pgs_cons (pgN 8 G.nd) pgs_nil)) rfl ?_
  refine sj_set 9 (d := .da (optK (tenK d))) (B1 := B3) G.nd (ej_call c_l_divisor_by_ten (G.le (by decide)) (aj_cons (ej_dat (d := .int (d : Int)) 8) aj_nil) (R_dten.mk d B3 (by omega) (db.le (by decide)))) ?_
  clear RL RS hu un n2 n3 d1 d2
  cases hk : tenK d with
  | none =>
    refine sj_when (x := false) (tj_is (tj_notN (ej_dat (d := .none) 9)) rfl) (fun h => Bool.noConfusion h) (fun _ => ?_)
    exact sj_nil ⟨ok4, _, _, _, _, _, _, _, _, _, _, _, _, _, _, _, rfl⟩
  | some k =>
  refine sj_when (x := true) (tj_is (tj_notN (ej_dat (d := .int (k : Nat)) 9)) rfl) (fun _ => ?_) (fun h => Bool.noConfusion h)
  obtain ⟨k1, k2⟩ := tenK_pow (by omega) hk
  have kl : k < 681 := (Nat.pow_lt_pow_iff_right (by decide : 1 < 2)).mp (Nat.lt_of_le_of_lt k1 ud)
  obtain ⟨h0, h1⟩ := half_bd (k := k) n0 d0 q2 (Nat.le_of_lt kl) (by rw [Int.toNat_natCast]; exact k2)
  obtain ⟨Hn, hH⟩ : ∃ Hn : Nat, n * ((10 ^ k : Nat) : Int) / (d : Int) = (Hn : Int) := ⟨(n * ((10 ^ k : Nat) : Int) / (d : Int)).toNat, by omega⟩
  rw [hH] at h0 h1
  have h1 : Hn ≤ 10 ^ 1081 := Int.ofNat_le.mp h1
  have h0 : 0 < Hn := by omega
  obtain ⟨zr, hzr, B4, rz, ok5⟩ := sm_ex ([0, 3, 60, 300] : List Nat) natI (Nat.le_of_ble_eq_true rfl) ok4 (Nat.zero_lt_succ _)
  have zl : zr ≤ 300 := by
    simp only [List.mem_cons, List.not_mem_nil, or_false] at hzr
    omega
  have tb : Bd 2300 ((10 ^ k : Nat) : Int) := Bd.nat (Nat.lt_of_le_of_lt (Nat.pow_le_pow_right (by decide) (show k ≤ 681 by omega)) (by decide +kernel))
  refine sj_par 10 11 (d1 := .da (.int (Hn : Nat))) (d2 := .da (.int (zr : Nat))) (B1 := B4) G.nd G.calm (aj_cons (ej_is (ej_fdiv (ej_mul (ej_dat (d := .int n) 7) (ej_call c_l_to (G.le (by decide)) (aj_cons ej_int (aj_cons (ej_dat (d := .int (k : Nat)) 9) aj_nil)) (R_pow.mk 10 k B3 (by decide) (by omega))) (cm nb tb (by decide))) (ej_dat (d := .int (d : Int)) 8) ⟨d0, PySem.Flt.log2_lt_of (by decide) (Nat.lt_of_lt_of_le db (Nat.pow_le_pow_right (by decide) (by decide)))⟩) (congrArg PyData.int hH)) (aj_cons (ej_call c_l_some (G.le (by decide)) (aj_cons (ej_bag 1) (aj_cons (ej_is (y := .list (([0, 3, 60, 300] : List Nat).map natI)) (ej_lstD (ad_cons ej_int (ad_cons ej_int (ad_cons ej_int (ad_cons ej_int ad_nil)))) (Nat.le_of_ble_eq_true rfl)) rfl) aj_nil)) (rz)) aj_nil)) ?_ (by decide) (by rfl)
  show SJ _ [.no, .bag, .da (.int (tn : Nat)), .da (fmP b p low high), .da (.int s), .da (.int c), .da (.int e), .da (.int n), .da (.int (d : Nat)), .da (.int (k : Nat)), .da (.int (Hn : Nat)), .da (.int (zr : Nat)), g12, g13, g14, g15, g16] _ _ _
  clear rz hzr hH tb nb q2 n0 k2 hk
  have hb1 : Bd 3600 (Hn : Int) := Bd.nat (Nat.lt_of_le_of_lt h1 (by decide +kernel))
  have tz : ∀ m : Nat, m ≤ 301 → Bd 1010 ((10 ^ m : Nat) : Int) := fun m hm => Bd.nat (Nat.lt_of_le_of_lt (Nat.pow_le_pow_right (by decide) hm) (by decide +kernel))
  refine sj_set 12 (d := .da (.list [ndD (Hn, 0 - (k : Int)), ndD ((Hn : Int) * ((10 ^ (zr + 1) : Nat) : Int) + 1, -1 - (k : Int) - (zr : Int)), ndD ((Hn : Int) * ((10 ^ (zr + 1) : Nat) : Int) - 1, -1 - (k : Int) - (zr : Int))])) (B1 := B4) G.nd (ej_lstD (ad_cons (ej_tupD (ad_cons (ej_dat (d := .int (Hn : Nat)) 10) (ad_cons (ej_sub ej_int (ej_dat (d := .int (k : Nat)) 9)) ad_nil)) (Nat.le_of_ble_eq_true rfl)) (ad_cons (ej_tupD (ad_cons (ej_add (ej_mul (ej_dat (d := .int (Hn : Nat)) 10) (ej_call c_l_to (G.le (by decide)) (aj_cons ej_int (aj_cons (ej_is (y := .int ((zr + 1 : Nat) : Int)) (ej_add (ej_dat (d := .int (zr : Nat)) 11) ej_int) (congrArg PyData.int (by omega))) aj_nil)) (R_pow.mk 10 (zr + 1) B4 (by decide) (by omega))) (cm hb1 (tz _ (by omega)) (by decide))) ej_int) (ad_cons (ej_sub (ej_sub (ej_neg ej_int) (ej_dat (d := .int (k : Nat)) 9)) (ej_dat (d := .int (zr : Nat)) 11)) ad_nil)) (Nat.le_of_ble_eq_true rfl)) (ad_cons (ej_tupD (ad_cons (ej_sub (ej_mul (ej_dat (d := .int (Hn : Nat)) 10) (ej_call c_l_to (G.le (by decide)) (aj_cons ej_int (aj_cons (ej_is (y := .int ((zr + 1 : Nat) : Int)) (ej_add (ej_dat (d := .int (zr : Nat)) 11) ej_int) (congrArg PyData.int (by omega))) aj_nil)) (R_pow.mk 10 (zr + 1) B4 (by decide) (by omega))) (cm hb1 (tz _ (by omega)) (by decide))) ej_int) (ad_cons (ej_sub (ej_sub (ej_neg ej_int) (ej_dat (d := .int (k : Nat)) 9)) (ej_dat (d := .int (zr : Nat)) 11)) ad_nil)) (Nat.le_of_ble_eq_true rfl)) ad_nil))) (Nat.le_of_ble_eq_true rfl)) ?_
  refine sj_forLU [13, 14] 2 (ds := [ndD (Hn, 0 - (k : Int)), ndD ((Hn : Int) * ((10 ^ (zr + 1) : Nat) : Int) + 1, -1 - (k : Int) - (zr : Int)), ndD ((Hn : Int) * ((10 ^ (zr + 1) : Nat) : Int) - 1, -1 - (k : Int) - (zr : Int))] ++ [ndD ((Hn : Int) * ((10 ^ zr : Nat) : Int), 0 - (k : Int) - (zr : Int))]) (B1 := B4) G.calm (fun _ Γ' B' => Bok B' ∧ ∃ g13 g14 g15 g16, Γ' = [.no, .bag, .da (.int (tn : Nat)), .da (fmP b p low high), .da (.int s), .da (.int c), .da (.int e), .da (.int n), .da (.int (d : Nat)), .da (.int (k : Nat)), .da (.int (Hn : Nat)), .da (.int (zr : Nat)), .da (.list [ndD (Hn, 0 - (k : Int)), ndD ((Hn : Int) * ((10 ^ (zr + 1) : Nat) : Int) + 1, -1 - (k : Int) - (zr : Int)), ndD ((Hn : Int) * ((10 ^ (zr + 1) : Nat) : Int) - 1, -1 - (k : Int) - (zr : Int))]), g13, g14, g15, g16]) (ej_catL (ej_dat (d := .list [ndD (Hn, 0 - (k : Int)), ndD ((Hn : Int) * ((10 ^ (zr + 1) : Nat) : Int) + 1, -1 - (k : Int) - (zr : Int)), ndD ((Hn : Int) * ((10 ^ (zr + 1) : Nat) : Int) - 1, -1 - (k : Int) - (zr : Int))]) 12) (ej_lstD (ad_cons (ej_tupD (ad_cons (ej_mul (ej_dat (d := .int (Hn : Nat)) 10) (ej_call c_l_to (G.le (by decide)) (aj_cons ej_int (aj_cons (ej_dat (d := .int (zr : Nat)) 11) aj_nil)) (R_pow.mk 10 zr B4 (by decide) (by omega))) (cm hb1 (tz _ (by omega)) (by decide))) (ad_cons (ej_sub (ej_sub ej_int (ej_dat (d := .int (k : Nat)) 9)) (ej_dat (d := .int (zr : Nat)) 11)) ad_nil)) (Nat.le_of_ble_eq_true rfl)) ad_nil) (Nat.le_of_ble_eq_true rfl)) (Nat.le_of_ble_eq_true rfl)) ⟨ok5, _, _, _, _, rfl⟩ (pgs_cons (pgN 13 G.nd) (pgs_cons (pgN 14 G.nd) pgs_nil)) rfl (fun i z Γ' B' hz hP => ?_) (fun Γ' B' hP => ?_)
  rotate_left
  · obtain ⟨ok6, g13, g14, g15, g16, rfl⟩ := hP
    exact sj_nil (sj_nil ⟨ok6, _, _, _, _, _, _, _, _, _, _, _, _, _, _, _, rfl⟩)
  obtain ⟨ok6, g13, g14, g15, g16, rfl⟩ := hP
  obtain ⟨Q, a, rfl, hQ, ha⟩ : ∃ (Q : Nat) (a : Int), z = ndD ((Q : Int), a) ∧ Q ≤ 10 ^ 1383 ∧ -2000 ≤ a ∧ a ≤ 0 := by
    have hm := List.mem_of_getElem? hz
    have big : ∀ m : Nat, m ≤ 301 → Hn * 10 ^ m + 1 ≤ 10 ^ 1383 := fun m hm => by
      have a1 : Hn * 10 ^ m ≤ 10 ^ 1081 * 10 ^ 301 := Nat.mul_le_mul h1 (Nat.pow_le_pow_right (by decide) hm)
      rw [← Nat.pow_add] at a1
      have a2 : 10 ^ (1081 + 301) + 1 ≤ 10 ^ 1383 := by decide +kernel
      exact Nat.le_trans (Nat.add_le_add_right a1 1) a2
    have p1 : 1 ≤ Hn * 10 ^ (zr + 1) := Nat.mul_pos h0 (Nat.pow_pos (by decide))
    have c1 : (Hn : Int) * ((10 ^ (zr + 1) : Nat) : Int) = ((Hn * 10 ^ (zr + 1) : Nat) : Int) := (Int.natCast_mul _ _).symm
    have c2 : (Hn : Int) * ((10 ^ zr : Nat) : Int) = ((Hn * 10 ^ zr : Nat) : Int) := (Int.natCast_mul _ _).symm
    have b1 := big (zr + 1) (by omega)
    have b2 := big zr (by omega)
    have b3 := big 0 (by decide)
    rw [Nat.pow_zero, Nat.mul_one] at b3
    simp only [List.cons_append, List.nil_append, List.mem_cons, List.not_mem_nil, or_false] at hm
    rw [c1, c2] at hm
    generalize Hn * 10 ^ (zr + 1) = W1 at *
    generalize Hn * 10 ^ zr = W2 at *
    rcases hm with rfl | rfl | rfl | rfl
    · exact ⟨Hn, _, rfl, by omega, by omega, by omega⟩
    · exact ⟨W1 + 1, _, rfl, b1, by omega, by omega⟩
    · exact ⟨W1 - 1, -1 - (k : Int) - (zr : Int), by rw [show ((W1 - 1 : Nat) : Int) = (W1 : Int) - 1 by omega], by omega, by omega, by omega⟩
    · exact ⟨W2, _, rfl, by omega, by omega, by omega⟩
  clear hz
  refine ⟨[.int (Q : Int), .int a], rfl, rfl, ?_⟩
  have Qb : Bd 5900 (Q : Int) := Bd.nat (Nat.lt_of_le_of_lt hQ (by decide +kernel))
  have Qd : dl Q ≤ 2900 := (dl_iff (by decide)).mpr (Nat.lt_of_le_of_lt hQ (Nat.pow_lt_pow_right (by decide) (by decide)))
  have ab : Bd 60 a := Bd.le (n := 20) (by unfold Bd; omega) (by decide)
  show SJ _ [.no, .bag, .da (.int (tn : Nat)), .da (fmP b p low high), .da (.int s), .da (.int c), .da (.int e), .da (.int n), .da (.int (d : Nat)), .da (.int (k : Nat)), .da (.int (Hn : Nat)), .da (.int (zr : Nat)), .da (.list [ndD (Hn, 0 - (k : Int)), ndD ((Hn : Int) * ((10 ^ (zr + 1) : Nat) : Int) + 1, -1 - (k : Int) - (zr : Int)), ndD ((Hn : Int) * ((10 ^ (zr + 1) : Nat) : Int) - 1, -1 - (k : Int) - (zr : Int))]), .da (.int (Q : Nat)), .da (.int a), g15, g16] _ _ _
  refine sj_setX 15 G.nd (ex_call c_l_moved (G.le (by decide)) (ax_bag 1 (ax_aj (aj_cons (ej_dat (d := .int s) 4) (aj_cons (ej_dat (d := .int (Q : Nat)) 13) (aj_cons (ej_dat (d := .int a) 14) aj_nil))) ⟨⟨s, Q, a, rfl, s01, Qd, ab, ok6⟩, fun r B5 hr => ?_⟩)))
  obtain ⟨ok7, hr⟩ := hr
  obtain ⟨x, rfl, hx⟩ := hr s Q a rfl
  refine sj_forTX 16 G.nd G.calm (ex_tup (ax_cons (ex_ej ej_str (ax_cons (ex_ej ej_str (ax_cons (ex_ej ej_str (ax_one (ex_call c_l_way (G.le (by decide)) (ax_bag 1 (ax_nil ⟨⟨rfl, ok7⟩, fun r B6 hw => ?_⟩)))))))))))
  obtain ⟨ok8, way0, hw0, rfl⟩ := hw
  refine ⟨[.str "even", .str "away", .str "zero", .str way0], rfl, Nat.le_of_ble_eq_true rfl, _, rfl, fun _ Γ' B' => B' = B6 ∧ ∃ g16, Γ' = [.no, .bag, .da (.int (tn : Nat)), .da (fmP b p low high), .da (.int s), .da (.int c), .da (.int e), .da (.int n), .da (.int (d : Nat)), .da (.int (k : Nat)), .da (.int (Hn : Nat)), .da (.int (zr : Nat)), .da (.list [ndD (Hn, 0 - (k : Int)), ndD ((Hn : Int) * ((10 ^ (zr + 1) : Nat) : Int) + 1, -1 - (k : Int) - (zr : Int)), ndD ((Hn : Int) * ((10 ^ (zr + 1) : Nat) : Int) - 1, -1 - (k : Int) - (zr : Int))]), .da (.int (Q : Nat)), .da (.int a), .da (.str x), g16], ⟨rfl, _, rfl⟩, fun i z Γ' B' hz hP => ?_, fun Γ' B' hP => ?_⟩
  rotate_left
  · obtain ⟨rfl, g16, rfl⟩ := hP
    exact sj_nil ⟨ok8, _, _, _, _, rfl⟩
  obtain ⟨rfl, g16, rfl⟩ := hP
  obtain ⟨way, rfl, hw⟩ : ∃ way : Str, z = .str way ∧ way ∈ wayList := by
    have hm := List.mem_of_getElem? hz
    simp only [List.mem_cons, List.not_mem_nil, or_false] at hm
    rcases hm with rfl | rfl | rfl | rfl
    · exact ⟨_, rfl, by decide⟩
    · exact ⟨_, rfl, by decide⟩
    · exact ⟨_, rfl, by decide⟩
    · exact ⟨_, rfl, hw0⟩
  have RR := R_readT.mk b p low high way x s Q a B' Fm hb hw hx (Qb.le (by decide)) ab
  have RD := R_lread.mk b p low high way s Q a B' Fm hw s01 (Int.natCast_nonneg _) Qb ab
  have nd := rdr_nd Fm (way := way) (x := dqQ s Q a) s01
  have bx : boxed (rdP b p low high way (dqQ s Q a) s) = true := by rw [rdP_eq]; rfl
  generalize rdP b p low high way (dqQ s Q a) s = rr at *
  refine sj_when (x := false) (tj_is (tj_not (tj_val (ej_call c_l_alike (G.le (by decide)) (aj_cons (ej_call c_read (G.le (by decide)) (aj_cons (ej_dat (d := fmP b p low high) 3) (aj_cons (ej_dat (d := .str way) 16) (aj_cons (ej_dat (d := .str x) 15) aj_nil))) (RR)) (aj_cons (ej_call c_l_read (G.le (by decide)) (aj_cons (ej_dat (d := fmP b p low high) 3) (aj_cons (ej_dat (d := .str way) 16) (aj_cons (ej_tupD (ad_cons (ej_dat (d := .int s) 4) (ad_cons (ej_dat (d := .int (Q : Nat)) 13) (ad_cons (ej_dat (d := .int a) 14) ad_nil))) (Nat.le_of_ble_eq_true rfl)) aj_nil))) (RD)) aj_nil)) (R_alikeA.mk _ B' nd.okd (.inl bx))))) rfl) (fun h => Bool.noConfusion h) (fun _ => ?_)
  exact sj_nil ⟨rfl, _, rfl⟩

end K45
namespace Gd
open PySem PySem.Spec PyProof.Rows L2
theorem repAll_ok {K : PySem.W.Frag} {f : Value → PyData → Bool} (hf : ∀ v d, f v d = true → ∃ u : V, RelV u v ∧ ∀ H, Rp K H u d) :
    ∀ (vs : List Value) (ds : List PyData), repAll f vs ds = true → ∃ us : List V, Vals us vs ∧ ∀ H, RpAll K H us ds
  | [], [], _ => ⟨[], .nil, fun _ => .nil⟩
  | v :: vs, d :: ds, h => by
    have h' : (f v d && repAll f vs ds) = true := h
    rw [Bool.and_eq_true] at h'
    obtain ⟨u, a, b⟩ := hf _ _ h'.1
    obtain ⟨us, c, e⟩ := repAll_ok hf vs ds h'.2
    exact ⟨u :: us, .cons a c, fun H => .cons (b H) (e H)⟩
  | [], _ :: _, h => by cases h
  | _ :: _, [], h => by cases h
theorem repB_ok {K : PySem.W.Frag} : ∀ (n : Nat) (v : Value) (d : PyData), repB K n v d = true → ∃ u : V, RelV u v ∧ ∀ H, Rp K H u d
  | 0, _, _, h => by simp [repB] at h
  | n + 1, v, d, h => by
    unfold repB at h
    split at h
    · cases h
    · have e := of_decide_eq_true h
      subst e
      exact ⟨.str _, ⟨_, rfl⟩, fun _ => .str _⟩
    · have e := of_decide_eq_true h
      subst e
      exact ⟨.int _, ⟨_, rfl⟩, fun _ => .int _⟩
    · split at h
      · rename_i a ds c od its k sl hl
        rw [Bool.and_eq_true, Bool.and_eq_true] at h
        obtain ⟨h1, h2, h3⟩ := h
        have e := of_decide_eq_true h1
        subst e
        injection ‹n + 1 = _› with e1
        subst e1
        obtain ⟨us, r, q⟩ := repAll_ok (repB_ok n) _ _ h3
        exact ⟨.ref _, rfl, fun H => Rp.tup (sq_keep hl (Nat.le_of_ble_eq_true h2) r) (q H)⟩
      · cases h
    · cases h
theorem globB_ok {K : PySem.W.Frag} {h : Heap} {mg : Str → Option Value} {x : Str} {d : PyData} (X : K.In h) (G : h.Ns mainGlobals mg) (c : globB K x d = true) : Glob K mg x d := by
  unfold globB at c
  split at c
  · obtain ⟨u, a, b⟩ := repB_ok _ _ _ c
    exact ⟨u, _, PySem.W.mg_of X G ‹_›, a, b⟩
  · cases c
theorem bltB_ok {K : PySem.W.Frag} {h : Heap} {mg : Str → Option Value} {x : Str} {b : String} (X : K.In h) (G : h.Ns mainGlobals mg) (c : bltB K x b = true) : mg x = some (.builtin b) :=
  PySem.W.mg_of X G (He.eqO_ok c)
theorem ckM_glob {gl : List (Str × PyData)} {bl : List (Str × String)} {K : PySem.W.Frag} {h : Heap} {mg : Str → Option Value} {x : Str} {d : PyData} (X : K.In h) (G : h.Ns mainGlobals mg) (c : ckM gl bl K = true) (i : Nat) (e : gl[i]? = some (x, d)) : Glob K mg x d := by
  have c' : (gl.all (fun p => globB K p.1 p.2) && bl.all (fun p => bltB K p.1 p.2)) = true := c
  rw [Bool.and_eq_true] at c'
  exact globB_ok X G (List.all_eq_true.1 c'.1 _ (List.mem_of_getElem? e))
theorem ckM_blt {gl : List (Str × PyData)} {bl : List (Str × String)} {K : PySem.W.Frag} {h : Heap} {mg : Str → Option Value} {x : Str} {b : String} (X : K.In h) (G : h.Ns mainGlobals mg) (c : ckM gl bl K = true) (i : Nat) (e : bl[i]? = some (x, b)) : mg x = some (.builtin b) := by
  have c' : (gl.all (fun p => globB K p.1 p.2) && bl.all (fun p => bltB K p.1 p.2)) = true := c
  rw [Bool.and_eq_true] at c'
  exact bltB_ok X G (List.all_eq_true.1 c'.2 _ (List.mem_of_getElem? e))
theorem obM_eq {fa : List He.Fa} {fn : List He.DefD} {ck : PySem.W.Frag → Bool} (s : PySem.W.SharedT) : obM fa fn ck s = (hkM fa fn ck).obs s.abs := by
  have e : HandSHeadRun.getT s = s.abs.heap.get? := funext (HandSHeadRun.getT_eq s)
  unfold obM hkM
  rw [e]
theorem defD_at {K : PySem.W.Frag} {h : Heap} {mg : Str → Option Value} {fa : List He.Fa} {fn : List He.DefD} (X : K.In h) (G : h.Ns mainGlobals mg) (c : He.SaysD fa fn K) {y x : Str} {st : Stmt} (i : Nat) (e : fn[i]? = some (dfD y x st)) (ef : fa[i]? = some (.glo y)) :
    ∃ (f : Addr) (oc : Value) (od an : Option Addr) (osl : Array (Option Value)) (kV doc pm cdv ct : Value), PySem.W.nsIn K mainGlobals y = some (some (.ref f)) ∧
      K.lookup f = some ⟨oc, od, .func (PySem.W.fnOf x x (defArgs st) (defBody st) (defScope st) .none kV doc pm an cdv ct), osl⟩ ∧ PySem.W.codeIn K cdv x = true ∧ PySem.W.keepIn K (.ref f) = true := by
  have g := He.eqO_ok (c.fact i (f := .glo y) ef)
  obtain ⟨fd, ⟨oc, od, dV, kV, doc, pm, an, cdv, ct, osl, e1, e2, e3, e4, e5⟩, kp⟩ := c.def_ i (d := dfD y x st) e
  have d0 : dV = .none := by
    rcases e4 with ⟨_, z⟩ | ⟨z, _⟩
    · exact z
    · exact absurd rfl z
  subst d0 e1
  exact ⟨_, oc, od, an, osl, kV, doc, pm, cdv, ct, g, e2, e3, kp⟩
theorem at_mkH {K : PySem.W.Frag} {h : Heap} {mg : Str → Option Value} {fa : List He.Fa} {fn : List He.DefD} {x : Str} {st : Stmt} (ps : List Str) (X : K.In h) (G : h.Ns mainGlobals mg) (c : He.SaysD fa fn K) (i : Nat) (e : fn[i]? = some (dfD x x st)) (ef : fa[i]? = some (.glo x))
    (b : ∀ (kV doc pm : Value) (an : Option Addr) (cdv ct : Value) (us : List Value), us.length = ps.length → bindArgs (PySem.W.fnOf x x (defArgs st) (defBody st) (defScope st) .none kV doc pm an cdv ct) ⟨us, []⟩ = pure (ps.zip us)) :
    At K mg x st ps :=
  let ⟨_, _, _, _, _, _, _, _, _, _, a, l, d, k⟩ := defD_at X G c i e ef
  at_mk ps X G a l d k b
theorem law_mkHD {P : Program} {w : World} {K : PySem.W.Frag} {h : Heap} {mg : Str → Option Value} {fas : List He.Fa} {fn : List He.DefD} {st : Stmt} {fa : Addr} {n : Nat}
    (X : K.In h) (G : h.Ns mainGlobals mg) (hfa : mg "law" = some (.ref fa)) (c : He.SaysD fas fn K) (i : Nat) (e : fn[i]? = some (dfD "law" "law" st)) (ef : fas[i]? = some (.glo "law"))
    (b : ∀ (kV doc pm : Value) (an : Option Addr) (cdv ct : Value) (s : Shared) (v : Value), BindsTo s (PySem.W.fnOf "law" "law" (defArgs st) (defBody st) (defScope st) .none kV doc pm an cdv ct) ⟨[v], []⟩ [("_law_script", v)])
    (H : ∀ (base : Heap) (f : Addr) (fd : FuncData), base.NoDigits → Fun K "law" "law" st f fd → FnG P w K mg base n f fd ["_law_script"] (spLaw K)) :
    ∃ fd : FuncData, (∀ (s : Shared) (v : Value), BindsTo s fd ⟨[v], []⟩ [("_law_script", v)]) ∧ ∀ base : Heap, K.In base → base.Ns mainGlobals mg → base.NoDigits → FnG P w K mg base n fa fd ["_law_script"] (spLaw K) :=
  let ⟨_, _, _, _, _, _, _, _, _, _, a, l, d, k⟩ := defD_at X G c i e ef
  law_mkD X G hfa a l d k (fun s v => b _ _ _ _ _ _ s v) H
theorem walk_ofDH {l : PySem.W.OpenLaw} {k : Nat} {q : Program} {loose : List Str} {XP : (Str → Option Value) → Heap → Prop} {d : DefRec} {fas : List He.Fa} {fn : List He.DefD} {ck : PySem.W.Frag → Bool} {x : Str}
    (hn : l.most = some 63) (hdf : d.params.defaults = []) (hr : Room k callerA)
    (F : ∀ (w : World) (K : PySem.W.Frag) (mg : Str → Option Value) (fa : Addr) (h : Heap), K.In h → h.Ns mainGlobals mg → mg d.name = some (.ref fa) → He.SaysD fas fn K → ck K = true →
      ∃ fd : FuncData, (∀ (s : Shared) (u : Value), BindsTo s fd ⟨[u], []⟩ [(x, u)]) ∧ ∀ base : Heap, K.In base → base.Ns mainGlobals mg → base.NoDigits → FnG l.prog w K mg base k fa fd [x] (spLaw K)) :
    PySem.W.WalkO q loose XP (hkM fas fn ck).says l.row.toRowW d [] fun f vs => PySem.call f vs := by
  refine Att.attach_call hn hdf fun w sw sx mg mb fa o pm cd doc a vs ns G Y ho hd hcd hmg hobj hints hlen hg => ?_
  obtain ⟨K, KI, c1, c2⟩ := Y
  have ⟨fd, hb, hF⟩ := F w K mg fa _ KI G.T.g hmg c1 c2
  exact law_callD KI G.T.g G.T.b G.T.builtins G.T.nolimit G.T.nodigits hg hobj hints (Nat.le_trans hlen (by decide)) hr hF hb fun H hS => ⟨a, ns, rfl, hS, hlen, fun _ => rfl⟩
end Gd
namespace Gd
open PySem PySem.Spec PyProof.Rows
theorem endG_ok {M : Nat} {p : Program} {w : World} {s0 : Shared} {s : PySem.W.SharedT} (h : endG (PySem.W.stepT (denote treeTable) p w) M p s0 = some s) :
    PySem.W.topRun treeTable p w s0.heap.objs.size (s0.heap.nsMap mainGlobals (Str.ofString "__annotations__")) M s0 (PySem.W.topStub p) = some s.abs := by
  unfold endG at h
  split at h
  · rename_i t n e
    rw [HandSHeadRun.frNat_eq] at h
    have q := HandSHeadRun.goF_ok h
    have eh := HandSHeadRun.putAll_heap e
    have en : s0.heap.objs.size = n := by rw [← eh]; exact PySem.W.absHeap_size _ _ _
    rw [en]
    have eb : (PySem.W.SharedT.mk t n s0.heap.life s0.gens s0.drawn s0.toks s0.os).abs = s0 := by
      unfold PySem.W.SharedT.abs
      rw [eh]
    rw [eb] at q
    exact q
  · cases h
theorem endG_eq (M : Nat) (p : Program) (w : World) (s0 : Shared) : endG (PySem.W.stepT (denote treeTable) p w) M p s0 = endG (HandSHeadRun.stepQ (HandSHeadRun.denQ HandSHeadRun.tabQ) p w) M p s0 := by
  rw [HandSHeadRun.stepQ_eq, HandSHeadRun.denQ_eq, HandSHeadRun.tabQ_eq]
theorem goI_ok {tb : String → Option Builtin} {p : Program} {w : World} : ∀ (m : Nat) (s s' : PySem.W.SharedT) (t : Thread), goI (PySem.W.stepT (denote tb) p w) m s t = some s' → importEnds tb p w m s.abs t = some s'.abs
  | 0, _, _, _, h => by cases h
  | m + 1, s, s', t, h => by
    unfold goI at h
    unfold importEnds
    split at h
    · rename_i e
      rw [e]
      cases h
      rfl
    · cases h
    · rename_i e
      rw [e]
      split at h
      · rename_i s2 t2 e2
        rw [HandSHeadRun.frS_eq] at h
        have q := PySem.W.stepT_spec e2
        show (match step (denote tb) p w s.abs t with | .go s' t' => importEnds tb p w m s' t' | .halt _ _ => none) = _
        rw [q]
        exact goI_ok m _ _ _ h
      · cases h
theorem openI_ok {N : Nat} {p : Program} {w : World} {s0 : Shared} (h : openI (PySem.W.stepT (denote treeTable) (PySem.W.opening p) w) N p = some s0) : PySem.W.fencedOpening treeTable p w N = some s0 := by
  obtain ⟨s, a, b⟩ := Option.bind_eq_some_iff.mp h
  have q := goI_ok _ _ _ _ a
  unfold PySem.W.fencedOpening
  have e : (PySem.W.SharedT.mk PySem.W.BT.nil 0 {} #[] {} 1 (start (PySem.W.opening p)).1.os).abs = (start (PySem.W.opening p)).1 := by
    unfold PySem.W.SharedT.abs PySem.start
    simp only [HandSHeadRun.abs_nil]
  rw [e] at q
  rw [q]
  exact b
theorem left_two {r : PySem.W.OpenRow} {q : Program} {H : PySem.W.Hook} {ob : PySem.W.SharedT → H.α} {N M : Nat} {loose : List Str} (ho : ∀ s, ob s = H.obs s.abs) (le : M ≤ N) (runA : ∀ w, RunA r q N M loose w) (runB : ∀ w, RunB r H ob N M w) :
    PySem.W.LeftO r.prog q loose (fun s => PySem.W.xlAt q [] s && PySem.W.recOk r.records s) (fun s => H.obs s) H.val N := fun w => by
  obtain ⟨⟨s0, s⟩, hr, hv⟩ := Option.map_eq_some_iff.mp (runA w)
  have l3 : ob s = H.val w := by
    have z := runB w
    unfold RunB at z
    rw [hr] at z
    injection z
  obtain ⟨l1, l2⟩ : ((s0.heap.isNs mainGlobals && s0.gens.size == 0) && HandSHeadRun.looksF r.prog s0.heap s.abs) = true ∧ HandSHeadRun.seenQ q loose (importedModules r.prog.main.body) (fun s => PySem.W.xlAt q [] s && PySem.W.recOk r.records s) s.abs = PySem.W.openGood q loose := by
    injection hv with h1 h2
    exact ⟨h1, h2⟩
  unfold runI at hr
  obtain ⟨s0', a, b⟩ := Option.bind_eq_some_iff.mp hr
  obtain ⟨s', hs, hz⟩ := Option.map_eq_some_iff.mp b
  cases hz
  rw [← endG_eq] at hs
  have a' : openI (PySem.W.stepT (denote treeTable) (PySem.W.opening r.prog) w) N r.prog = some s0 := by
    rw [HandSHeadRun.stepQ_eq, HandSHeadRun.denQ_eq, HandSHeadRun.tabQ_eq]
    exact a
  have a := openI_ok a'
  have t0 := endG_ok hs
  have t1 := PySem.W.topRun_mono (N - M) M _ _ _ t0
  rw [show M + (N - M) = N by omega] at t1
  rw [Bool.and_eq_true] at l1
  have l1' : (PySem.W.staticsOk (importedModules r.prog.main.body) s0.heap s.abs.heap && PySem.W.namesBound r.prog s.abs.heap && PySem.W.gensDone s.abs && PySem.W.laidKept s0.heap s.abs.heap) = true := l1.2
  have tt : PySem.W.topFrom treeTable r.prog w N s0 = some s.abs := by
    unfold PySem.W.topFrom
    rw [l1.1]
    show (PySem.W.topRun _ _ _ _ _ _ _ _).bind _ = _
    rw [t1]
    show (match _ with | true => _ | false => _) = _
    rw [l1']
  show Option.map _ (PySem.W.openEnds treeTable r.prog w N) = _
  unfold PySem.W.openEnds
  rw [a]
  show Option.map _ (PySem.W.topFrom treeTable r.prog w N s0) = _
  rw [tt]
  show some (PySem.W.openSeen q loose _ _ true s.abs, H.obs s.abs) = _
  rw [HandSHeadRun.seenQ_eq, l2, ← ho s, l3]
theorem head_two {r : PySem.W.OpenRow} {q : Program} {H : PySem.W.Hook} {ob : PySem.W.SharedT → H.α} {N M : Nat} {loose : List Str} {d : DefRec} {kwd : List (Str × Expr)} (ho : ∀ s, ob s = H.obs s.abs) (le : M ≤ N) (runA : ∀ w, RunA r q N M loose w) (runB : ∀ w, RunB r H ob N M w)
    (hdef : PySem.W.defOf q r.name = some (d, kwd)) (hp : r.prog.theDef r.name = some (d.params, d.body, d.scope)) (hk : PySem.W.kwWritten? d.params.kwonlyargs d.params.kw_defaults = some kwd)
    (hwr : (!r.writes || List.isEmpty r.records) = true) (k1 : r.wellSaid = true) (ok : (PySem.W.chainsOk q && PySem.W.opensWell r.prog && (PySem.W.frees r.toRowW && r.within.isEmpty)) = true) (hb : r.prog.bare) (hw : r.promised)
    (call : PySem.W.WalkO q loose (PySem.W.XL q []) H.says r.toRowW d kwd fun f vs => PySem.call f vs) : r.Holds :=
  PySem.W.holds_open (left_two ho le runA runB) H.of H.keeps (fun s z => PySem.W.xl_of s (Bool.and_eq_true_iff.mp z).left) PySem.W.XL.keeps hdef hp hk
    (fun s z => PySem.W.recFacts_of (Bool.and_eq_true_iff.mp z).right) hwr k1 ok hb hw call
end Gd
namespace Gd
open PySem PySem.Spec PyProof.Rows L2
end Gd
namespace K45
open PySem PySem.Spec PyProof.Rows L2 Gd Lw K45H
theorem all_mk {w : World} {K : PySem.W.Frag} {h : Heap} {mg : Str → Option Value} {fa : Addr} (X : K.In h) (G : h.Ns mainGlobals mg) (hfa : mg "law" = some (.ref fa)) (c : He.SaysD fas fn K) (kk : ck K = true) :
    ∃ fd : FuncData, (∀ (s : Shared) (v : Value), BindsTo s fd ⟨[v], []⟩ [("_law_script", v)]) ∧ ∀ base : Heap, K.In base → base.Ns mainGlobals mg → base.NoDigits → FnG PySem.Challenge.pw_nearestheld_k45_whole_long_texts_that_ti w K mg base 13 fa fd ["_law_script"] (spLaw K) := by
  have T_integer_power : At K mg "integer_power" s_integer_power ["base", "e"] := at_mkH ["base", "e"] X G c 0 rfl rfl (fun _ _ _ _ _ _ us hl => match us, hl with | [_, _], _ => rfl)
  have T_is_integer : At K mg "is_integer" s_is_integer ["thing"] := at_mkH ["thing"] X G c 1 rfl rfl (fun _ _ _ _ _ _ us hl => match us, hl with | [_], _ => rfl)
  have T_is_format : At K mg "is_format" s_is_format ["thing"] := at_mkH ["thing"] X G c 2 rfl rfl (fun _ _ _ _ _ _ us hl => match us, hl with | [_], _ => rfl)
  have T_is_way : At K mg "is_way" s_is_way ["thing"] := at_mkH ["thing"] X G c 3 rfl rfl (fun _ _ _ _ _ _ us hl => match us, hl with | [_], _ => rfl)
  have T_reduced : At K mg "reduced" s_reduced ["n", "d"] := at_mkH ["n", "d"] X G c 4 rfl rfl (fun _ _ _ _ _ _ us hl => match us, hl with | [_, _], _ => rfl)
  have T_times : At K mg "times" s_times ["one", "other"] := at_mkH ["one", "other"] X G c 5 rfl rfl (fun _ _ _ _ _ _ us hl => match us, hl with | [_, _], _ => rfl)
  have T_size_of : At K mg "size_of" s_size_of ["one"] := at_mkH ["one"] X G c 6 rfl rfl (fun _ _ _ _ _ _ us hl => match us, hl with | [_], _ => rfl)
  have T_power_of : At K mg "power_of" s_power_of ["base", "e"] := at_mkH ["base", "e"] X G c 7 rfl rfl (fun _ _ _ _ _ _ us hl => match us, hl with | [_, _], _ => rfl)
  have T_sign_of_fraction : At K mg "sign_of_fraction" s_sign_of_fraction ["one"] := at_mkH ["one"] X G c 8 rfl rfl (fun _ _ _ _ _ _ us hl => match us, hl with | [_], _ => rfl)
  have T_part_of : At K mg "part_of" s_part_of ["left", "whole"] := at_mkH ["left", "whole"] X G c 9 rfl rfl (fun _ _ _ _ _ _ us hl => match us, hl with | [_, _], _ => rfl)
  have T_is_taken_outward : At K mg "is_taken_outward" s_is_taken_outward ["way", "s", "c", "part"] := at_mkH ["way", "s", "c", "part"] X G c 10 rfl rfl (fun _ _ _ _ _ _ us hl => match us, hl with | [_, _, _, _], _ => rfl)
  have T_power_below : At K mg "power_below" s_power_below ["base", "one"] := at_mkH ["base", "one"] X G c 11 rfl rfl (fun _ _ _ _ _ _ us hl => match us, hl with | [_, _], _ => rfl)
  have T_u_power_within : At K mg "_power_within" s_u_power_within ["base", "whole"] := at_mkH ["base", "whole"] X G c 12 rfl rfl (fun _ _ _ _ _ _ us hl => match us, hl with | [_, _], _ => rfl)
  have T_u_twos_in : At K mg "_twos_in" s_u_twos_in ["n"] := at_mkH ["n"] X G c 13 rfl rfl (fun _ _ _ _ _ _ us hl => match us, hl with | [_], _ => rfl)
  have T_zero : At K mg "zero" s_zero ["form", "s"] := at_mkH ["form", "s"] X G c 14 rfl rfl (fun _ _ _ _ _ _ us hl => match us, hl with | [_, _], _ => rfl)
  have T_rounded : At K mg "rounded" s_rounded ["form", "way", "x", "s"] := at_mkH ["form", "way", "x", "s"] X G c 15 rfl rfl (fun _ _ _ _ _ _ us hl => match us, hl with | [_, _, _, _], _ => rfl)
  have T_u_spot : At K mg "_spot" s_u_spot ["form", "unsigned"] := at_mkH ["form", "unsigned"] X G c 16 rfl rfl (fun _ _ _ _ _ _ us hl => match us, hl with | [_, _], _ => rfl)
  have T_u_nearest : At K mg "_nearest" s_u_nearest ["form", "way", "s", "spot"] := at_mkH ["form", "way", "s", "spot"] X G c 17 rfl rfl (fun _ _ _ _ _ _ us hl => match us, hl with | [_, _, _, _], _ => rfl)
  have T_u_outcome : At K mg "_outcome" s_u_outcome ["form", "way", "s", "spot"] := at_mkH ["form", "way", "s", "spot"] X G c 18 rfl rfl (fun _ _ _ _ _ _ us hl => match us, hl with | [_, _, _, _], _ => rfl)
  have T_u_too_great : At K mg "_too_great" s_u_too_great ["form", "way", "s"] := at_mkH ["form", "way", "s"] X G c 19 rfl rfl (fun _ _ _ _ _ _ us hl => match us, hl with | [_, _, _], _ => rfl)
  have T_digits_in : At K mg "digits_in" s_digits_in ["base", "text"] := at_mkH ["base", "text"] X G c 20 rfl rfl (fun _ _ _ _ _ _ us hl => match us, hl with | [_, _], _ => rfl)
  have T_decimal_worth : At K mg "decimal_worth" s_decimal_worth ["decimal"] := at_mkH ["decimal"] X G c 21 rfl rfl (fun _ _ _ _ _ _ us hl => match us, hl with | [_], _ => rfl)
  have T_decimal_of : At K mg "decimal_of" s_decimal_of ["text"] := at_mkH ["text"] X G c 22 rfl rfl (fun _ _ _ _ _ _ us hl => match us, hl with | [_], _ => rfl)
  have T_parted_sign : At K mg "parted_sign" s_parted_sign ["text"] := at_mkH ["text"] X G c 23 rfl rfl (fun _ _ _ _ _ _ us hl => match us, hl with | [_], _ => rfl)
  have T_u_signed_integer : At K mg "_signed_integer" s_u_signed_integer ["text"] := at_mkH ["text"] X G c 24 rfl rfl (fun _ _ _ _ _ _ us hl => match us, hl with | [_], _ => rfl)
  have T_read_decimal : At K mg "read_decimal" s_read_decimal ["form", "way", "decimal"] := at_mkH ["form", "way", "decimal"] X G c 25 rfl rfl (fun _ _ _ _ _ _ us hl => match us, hl with | [_, _, _], _ => rfl)
  have T_read : At K mg "read" s_read ["form", "way", "text"] := at_mkH ["form", "way", "text"] X G c 26 rfl rfl (fun _ _ _ _ _ _ us hl => match us, hl with | [_, _, _], _ => rfl)
  have T_l_bag : At K mg "_law_bag" s_l_bag ["_law_script"] := at_mkH ["_law_script"] X G c 27 rfl rfl (fun _ _ _ _ _ _ us hl => match us, hl with | [_], _ => rfl)
  have T_l_take : At K mg "_law_take" s_l_take ["_law_bag_here", "_law_many"] := at_mkH ["_law_bag_here", "_law_many"] X G c 28 rfl rfl (fun _ _ _ _ _ _ us hl => match us, hl with | [_, _], _ => rfl)
  have T_l_some : At K mg "_law_some" s_l_some ["_law_bag_here", "_law_things"] := at_mkH ["_law_bag_here", "_law_things"] X G c 29 rfl rfl (fun _ _ _ _ _ _ us hl => match us, hl with | [_, _], _ => rfl)
  have T_l_alike : At K mg "_law_alike" s_l_alike ["_law_found", "_law_due"] := at_mkH ["_law_found", "_law_due"] X G c 30 rfl rfl (fun _ _ _ _ _ _ us hl => match us, hl with | [_, _], _ => rfl)
  have T_l_to : At K mg "_law_to" s_l_to ["_law_base", "_law_n"] := at_mkH ["_law_base", "_law_n"] X G c 31 rfl rfl (fun _ _ _ _ _ _ us hl => match us, hl with | [_, _], _ => rfl)
  have T_l_power : At K mg "_law_power" s_l_power ["_law_base", "_law_e"] := at_mkH ["_law_base", "_law_e"] X G c 32 rfl rfl (fun _ _ _ _ _ _ us hl => match us, hl with | [_, _], _ => rfl)
  have T_l_size : At K mg "_law_size" s_l_size ["_law_form", "_law_c_here", "_law_e"] := at_mkH ["_law_form", "_law_c_here", "_law_e"] X G c 33 rfl rfl (fun _ _ _ _ _ _ us hl => match us, hl with | [_, _, _], _ => rfl)
  have T_l_c : At K mg "_law_c" s_l_c ["_law_bag_here", "_law_form", "_law_e"] := at_mkH ["_law_bag_here", "_law_form", "_law_e"] X G c 34 rfl rfl (fun _ _ _ _ _ _ us hl => match us, hl with | [_, _, _], _ => rfl)
  have T_l_number : At K mg "_law_number" s_l_number ["_law_bag_here", "_law_form"] := at_mkH ["_law_bag_here", "_law_form"] X G c 35 rfl rfl (fun _ _ _ _ _ _ us hl => match us, hl with | [_, _], _ => rfl)
  have T_l_floor : At K mg "_law_floor" s_l_floor ["_law_form", "_law_n", "_law_d"] := at_mkH ["_law_form", "_law_n", "_law_d"] X G c 36 rfl rfl (fun _ _ _ _ _ _ us hl => match us, hl with | [_, _, _], _ => rfl)
  have T_l_next : At K mg "_law_next" s_l_next ["_law_form", "_law_c_here", "_law_e"] := at_mkH ["_law_form", "_law_c_here", "_law_e"] X G c 37 rfl rfl (fun _ _ _ _ _ _ us hl => match us, hl with | [_, _, _], _ => rfl)
  have T_l_compared : At K mg "_law_compared" s_l_compared ["_law_one", "_law_other"] := at_mkH ["_law_one", "_law_other"] X G c 38 rfl rfl (fun _ _ _ _ _ _ us hl => match us, hl with | [_, _], _ => rfl)
  have T_l_is_up : At K mg "_law_is_up" s_l_is_up ["_law_form", "_law_way_here", "_law_s", "_law_n", "_law_d", "_law_lower", "_law_upper"] := at_mkH ["_law_form", "_law_way_here", "_law_s", "_law_n", "_law_d", "_law_lower", "_law_upper"] X G c 39 rfl rfl (fun _ _ _ _ _ _ us hl => match us, hl with | [_, _, _, _, _, _, _], _ => rfl)
  have T_l_rounded : At K mg "_law_rounded" s_l_rounded ["_law_form", "_law_way_here", "_law_s", "_law_n", "_law_d"] := at_mkH ["_law_form", "_law_way_here", "_law_s", "_law_n", "_law_d"] X G c 40 rfl rfl (fun _ _ _ _ _ _ us hl => match us, hl with | [_, _, _, _, _], _ => rfl)
  have T_l_decimal_size : At K mg "_law_decimal_size" s_l_decimal_size ["_law_c_here", "_law_e"] := at_mkH ["_law_c_here", "_law_e"] X G c 41 rfl rfl (fun _ _ _ _ _ _ us hl => match us, hl with | [_, _], _ => rfl)
  have T_l_read : At K mg "_law_read" s_l_read ["_law_form", "_law_way_here", "_law_decimal"] := at_mkH ["_law_form", "_law_way_here", "_law_decimal"] X G c 42 rfl rfl (fun _ _ _ _ _ _ us hl => match us, hl with | [_, _, _], _ => rfl)
  have T_l_ends : At K mg "_law_ends" s_l_ends ["_law_form", "_law_c_here", "_law_e"] := at_mkH ["_law_form", "_law_c_here", "_law_e"] X G c 43 rfl rfl (fun _ _ _ _ _ _ us hl => match us, hl with | [_, _, _], _ => rfl)
  have T_l_divisor_by_ten : At K mg "_law_divisor_by_ten" s_l_divisor_by_ten ["_law_d"] := at_mkH ["_law_d"] X G c 44 rfl rfl (fun _ _ _ _ _ _ us hl => match us, hl with | [_], _ => rfl)
  have T_l_way : At K mg "_law_way" s_l_way ["_law_bag_here"] := at_mkH ["_law_bag_here"] X G c 45 rfl rfl (fun _ _ _ _ _ _ us hl => match us, hl with | [_], _ => rfl)
  have T_l_moved : At K mg "_law_moved" s_l_moved ["_law_bag_here", "_law_s", "_law_c_here", "_law_e"] := at_mkH ["_law_bag_here", "_law_s", "_law_c_here", "_law_e"] X G c 46 rfl rfl (fun _ _ _ _ _ _ us hl => match us, hl with | [_, _, _, _], _ => rfl)
  have m_abs : mg "abs" = none := He.free_ok X G (c.fact 48 (f := .free "abs") rfl)
  have m_all : mg "all" = none := He.free_ok X G (c.fact 49 (f := .free "all") rfl)
  have m_bool : mg "bool" = none := He.free_ok X G (c.fact 50 (f := .free "bool") rfl)
  have m_divmod : mg "divmod" = none := He.free_ok X G (c.fact 51 (f := .free "divmod") rfl)
  have m_int : mg "int" = none := He.free_ok X G (c.fact 52 (f := .free "int") rfl)
  have m_isinstance : mg "isinstance" = none := He.free_ok X G (c.fact 53 (f := .free "isinstance") rfl)
  have m_len : mg "len" = none := He.free_ok X G (c.fact 54 (f := .free "len") rfl)
  have m_max : mg "max" = none := He.free_ok X G (c.fact 55 (f := .free "max") rfl)
  have m_min : mg "min" = none := He.free_ok X G (c.fact 56 (f := .free "min") rfl)
  have m_range : mg "range" = none := He.free_ok X G (c.fact 57 (f := .free "range") rfl)
  have m_repr : mg "repr" = none := He.free_ok X G (c.fact 58 (f := .free "repr") rfl)
  have m_rev : mg "reversed" = none := He.free_ok X G (c.fact 59 (f := .free "reversed") rfl)
  have m_str : mg "str" = none := He.free_ok X G (c.fact 60 (f := .free "str") rfl)
  have m_tuple : mg "tuple" = none := He.free_ok X G (c.fact 61 (f := .free "tuple") rfl)
  have m_gcd : mg "gcd" = some (.builtin "math.gcd") := ckM_blt X G kk 0 rfl
  have g_ways : Glob K mg "WAYS" (.tuple (wayList.map .str)) := ckM_glob X G kk 0 rfl
  have g_digits : Glob K mg "DIGITS" (.str DIGS) := ckM_glob X G kk 1 rfl
  refine law_mkHD (st := s_law) (n := 13) X G hfa c 47 rfl rfl (fun _ _ _ _ _ _ _ _ => .of_eq rfl) (fun base f fd nd F => ?_)
  have c_l_take := c_of_l_take (P := PySem.Challenge.pw_nearestheld_k45_whole_long_texts_that_ti) (w := w) (base := base) m_int T_l_take
  have c_l_some := c_of_l_some (P := PySem.Challenge.pw_nearestheld_k45_whole_long_texts_that_ti) (w := w) (base := base) m_len c_l_take T_l_some
  have c_l_some_t := c_of_l_some_t (P := PySem.Challenge.pw_nearestheld_k45_whole_long_texts_that_ti) (w := w) (base := base) m_len c_l_take T_l_some
  have c_l_to := c_of_l_to (P := PySem.Challenge.pw_nearestheld_k45_whole_long_texts_that_ti) (w := w) (base := base) m_int T_l_to
  have c_l_power := c_of_l_power (P := PySem.Challenge.pw_nearestheld_k45_whole_long_texts_that_ti) (w := w) (base := base) c_l_to T_l_power
  have c_l_size := c_of_l_size (P := PySem.Challenge.pw_nearestheld_k45_whole_long_texts_that_ti) (w := w) (base := base) c_l_power T_l_size
  have c_l_next := c_of_l_next (P := PySem.Challenge.pw_nearestheld_k45_whole_long_texts_that_ti) (w := w) (base := base) c_l_to T_l_next
  have c_l_ends := c_of_l_ends (P := PySem.Challenge.pw_nearestheld_k45_whole_long_texts_that_ti) (w := w) (base := base) m_int m_int c_l_to c_l_size c_l_next T_l_ends
  have c_l_divisor_by_ten := c_of_l_divisor_by_ten (P := PySem.Challenge.pw_nearestheld_k45_whole_long_texts_that_ti) (w := w) (base := base) m_int m_max m_int m_max T_l_divisor_by_ten
  have c_l_alike := c_of_l_alike (P := PySem.Challenge.pw_nearestheld_k45_whole_long_texts_that_ti) (w := w) (base := base) m_repr T_l_alike
  have c_is_integer := c_of_is_integer (P := PySem.Challenge.pw_nearestheld_k45_whole_long_texts_that_ti) (w := w) (base := base) m_isinstance m_int m_bool T_is_integer
  have c_is_format := c_of_is_format (P := PySem.Challenge.pw_nearestheld_k45_whole_long_texts_that_ti) (w := w) (base := base) m_isinstance m_tuple m_len m_all c_is_integer T_is_format
  have c_is_way := c_of_is_way (P := PySem.Challenge.pw_nearestheld_k45_whole_long_texts_that_ti) (w := w) (base := base) g_ways m_isinstance m_str T_is_way
  have c_parted_sign := c_of_parted_sign (P := PySem.Challenge.pw_nearestheld_k45_whole_long_texts_that_ti) (w := w) (base := base) T_parted_sign
  have c_zero := c_of_zero (P := PySem.Challenge.pw_nearestheld_k45_whole_long_texts_that_ti) (w := w) (base := base) T_zero
  have c_u_power_within := c_of_u_power_within (P := PySem.Challenge.pw_nearestheld_k45_whole_long_texts_that_ti) (w := w) (base := base) m_rev T_u_power_within
  have c_power_below := c_of_power_below (P := PySem.Challenge.pw_nearestheld_k45_whole_long_texts_that_ti) (w := w) (base := base) c_u_power_within T_power_below
  have c_is_taken_outward := c_of_is_taken_outward (P := PySem.Challenge.pw_nearestheld_k45_whole_long_texts_that_ti) (w := w) (base := base) T_is_taken_outward
  have c_integer_power := c_of_integer_power (P := PySem.Challenge.pw_nearestheld_k45_whole_long_texts_that_ti) (w := w) (base := base) T_integer_power
  have c_u_nearest := c_of_u_nearest (P := PySem.Challenge.pw_nearestheld_k45_whole_long_texts_that_ti) (w := w) (base := base) c_is_taken_outward c_integer_power T_u_nearest
  have c_u_too_great := c_of_u_too_great (P := PySem.Challenge.pw_nearestheld_k45_whole_long_texts_that_ti) (w := w) (base := base) c_integer_power T_u_too_great
  have c_u_outcome := c_of_u_outcome (P := PySem.Challenge.pw_nearestheld_k45_whole_long_texts_that_ti) (w := w) (base := base) c_u_nearest c_u_too_great c_integer_power T_u_outcome
  have c_sign_of_fraction := c_of_sign_of_fraction (P := PySem.Challenge.pw_nearestheld_k45_whole_long_texts_that_ti) (w := w) (base := base) T_sign_of_fraction
  have c_power_of := c_of_power_of (P := PySem.Challenge.pw_nearestheld_k45_whole_long_texts_that_ti) (w := w) (base := base) c_integer_power T_power_of
  have c_part_of := c_of_part_of (P := PySem.Challenge.pw_nearestheld_k45_whole_long_texts_that_ti) (w := w) (base := base) T_part_of
  have c_u_spot := c_of_u_spot (P := PySem.Challenge.pw_nearestheld_k45_whole_long_texts_that_ti) (w := w) (base := base) m_max m_divmod c_power_below c_power_of c_part_of T_u_spot
  have c_size_of := c_of_size_of (P := PySem.Challenge.pw_nearestheld_k45_whole_long_texts_that_ti) (w := w) (base := base) m_abs T_size_of
  have c_rounded := c_of_rounded (P := PySem.Challenge.pw_nearestheld_k45_whole_long_texts_that_ti) (w := w) (base := base) c_zero c_u_outcome c_sign_of_fraction c_u_spot c_size_of T_rounded
  have c_u_twos_in := c_of_u_twos_in (P := PySem.Challenge.pw_nearestheld_k45_whole_long_texts_that_ti) (w := w) (base := base) T_u_twos_in
  have c_reduced := c_of_reduced (P := PySem.Challenge.pw_nearestheld_k45_whole_long_texts_that_ti) (w := w) (base := base) m_gcd m_min c_u_twos_in T_reduced
  have c_times := c_of_times (P := PySem.Challenge.pw_nearestheld_k45_whole_long_texts_that_ti) (w := w) (base := base) c_reduced T_times
  have c_decimal_worth := c_of_decimal_worth (P := PySem.Challenge.pw_nearestheld_k45_whole_long_texts_that_ti) (w := w) (base := base) c_times c_power_of T_decimal_worth
  have c_read_decimal := c_of_read_decimal (P := PySem.Challenge.pw_nearestheld_k45_whole_long_texts_that_ti) (w := w) (base := base) m_abs c_zero c_power_below c_rounded c_decimal_worth T_read_decimal
  have c_digits_in := c_of_digits_in (P := PySem.Challenge.pw_nearestheld_k45_whole_long_texts_that_ti) (w := w) (base := base) g_digits T_digits_in
  have c_u_signed_integer := c_of_u_signed_integer (P := PySem.Challenge.pw_nearestheld_k45_whole_long_texts_that_ti) (w := w) (base := base) c_parted_sign c_digits_in T_u_signed_integer
  have c_decimal_of := c_of_decimal_of (P := PySem.Challenge.pw_nearestheld_k45_whole_long_texts_that_ti) (w := w) (base := base) m_isinstance m_str m_len c_parted_sign c_digits_in c_u_signed_integer T_decimal_of
  have c_read := c_of_read (P := PySem.Challenge.pw_nearestheld_k45_whole_long_texts_that_ti) (w := w) (base := base) m_isinstance m_str c_is_format c_is_way c_parted_sign c_read_decimal c_decimal_of T_read
  have c_l_decimal_size := c_of_l_decimal_size (P := PySem.Challenge.pw_nearestheld_k45_whole_long_texts_that_ti) (w := w) (base := base) nd m_min m_max m_len m_str c_l_power T_l_decimal_size
  have c_l_floor := c_of_l_floor (P := PySem.Challenge.pw_nearestheld_k45_whole_long_texts_that_ti) (w := w) (base := base) c_l_to c_l_power T_l_floor
  have c_l_compared_x := c_of_l_compared_x (P := PySem.Challenge.pw_nearestheld_k45_whole_long_texts_that_ti) (w := w) (base := base) T_l_compared
  have c_l_size_x := c_of_l_size_x (P := PySem.Challenge.pw_nearestheld_k45_whole_long_texts_that_ti) (w := w) (base := base) c_l_power T_l_size
  have c_l_is_up := c_of_l_is_up (P := PySem.Challenge.pw_nearestheld_k45_whole_long_texts_that_ti) (w := w) (base := base) m_int m_int c_l_size_x c_l_compared_x T_l_is_up
  have c_l_rounded := c_of_l_rounded (P := PySem.Challenge.pw_nearestheld_k45_whole_long_texts_that_ti) (w := w) (base := base) c_l_floor c_l_compared_x c_l_size_x c_l_to c_l_is_up c_l_next T_l_rounded
  have c_l_read := c_of_l_read (P := PySem.Challenge.pw_nearestheld_k45_whole_long_texts_that_ti) (w := w) (base := base) c_l_decimal_size c_l_rounded T_l_read
  have c_l_bag := c_of_l_bag (P := PySem.Challenge.pw_nearestheld_k45_whole_long_texts_that_ti) (w := w) (base := base) m_abs T_l_bag
  have c_l_c_c := c_of_l_c_c (P := PySem.Challenge.pw_nearestheld_k45_whole_long_texts_that_ti) (w := w) (base := base) m_max m_min c_l_to c_l_take c_l_some T_l_c
  have c_l_number_c := c_of_l_number_c (P := PySem.Challenge.pw_nearestheld_k45_whole_long_texts_that_ti) (w := w) (base := base) m_max m_min c_l_take c_l_some c_l_c_c T_l_number
  have c_l_moved := c_of_l_moved (P := PySem.Challenge.pw_nearestheld_k45_whole_long_texts_that_ti) (w := w) (base := base) nd m_str m_len c_l_take c_l_some T_l_moved
  have c_l_way := c_of_l_way (P := PySem.Challenge.pw_nearestheld_k45_whole_long_texts_that_ti) (w := w) (base := base) c_l_some T_l_way
  exact ok_law m_range c_l_some c_l_some_t c_l_ends c_l_divisor_by_ten c_l_to c_l_alike c_read c_l_read c_l_bag c_l_number_c c_l_moved c_l_way F
end K45
open PySem PySem.W PySem.Calls PyProof.Rows
set_option maxRecDepth 100000 in
set_option maxHeartbeats 0 in
theorem PySem.Challenge.cw_nearestheld_k45_whole_long_texts_that_ti_holds : PySem.Challenge.rw_nearestheld_k45_whole_long_texts_that_ti.Holds := by
  w_on; o_law
  refine Gd.head_two (r := OpenLaw.row PySem.Challenge.rw_nearestheld_k45_whole_long_texts_that_ti) (q := view (OpenLaw.row PySem.Challenge.rw_nearestheld_k45_whole_long_texts_that_ti).prog [61]) (H := Gd.hkM K45H.fas K45H.fn K45H.ck) (ob := Gd.obM K45H.fas K45H.fn K45H.ck) (N := 8000) (M := 8000) (loose := K45H.loose) (d := HandSHeadRun.topDef (OpenLaw.row PySem.Challenge.rw_nearestheld_k45_whole_long_texts_that_ti).prog 61) (kwd := []) Gd.obM_eq (Nat.le_refl _)
    K45H.runA K45H.runB K45H.hdefT K45H.hpT K45H.hkT (by rfl) (by first | assumption | decide +kernel) K45H.okT K45H.hbT ?hw ?hc
  case hw => w_witness2
  case hc =>
    refine Gd.walk_ofDH (l := PySem.Challenge.rw_nearestheld_k45_whole_long_texts_that_ti) (k := 13) (x := "_law_script") (ck := K45H.ck) (fas := K45H.fas) (fn := K45H.fn) rfl rfl ⟨rfl, by decide, by decide⟩ ?F
    intro w K mg fa h KX G hmg c kk
    have hl : mg ("law" : PySem.Str) = some (.ref fa) := by
      have e : (HandSHeadRun.topDef (OpenLaw.row PySem.Challenge.rw_nearestheld_k45_whole_long_texts_that_ti).prog 61).name = ("law" : PySem.Str) := K45H.nameT
      rw [← e]
      exact hmg
    exact K45.all_mk KX G hl c kk
