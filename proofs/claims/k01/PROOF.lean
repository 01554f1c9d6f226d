import PyProof.Rows.All
import Wide.All
import OpenK.AllK
import Wide.FinOn
import HandS.ForMost
import HandS.Head0
import HandS.Head1
import HandS.Head2
import HandS.HeadEnd
import HandS.HeadHook1
import HandS.HeadHook2
import HandS.Wide
import HandS.WideBits
import HandS.Gcd
import HandS.TupAny
import HandS.Flow
import HandS.Set
import HandS.SetFor
import HandS.Strs
import HandS.Rev
import HandS.Style
import HandS.TryOnly
import HandS.RaiseMore
import HandS.Deep
import HandS.TupMul
import HandS.Flt
import HandS.Zip
import HandS.IsInst
import HandS.Dict
import KE.KBits
import KE.DataMinMax
import HandS.SortKw
import HandS.More
import KE.GoesEnum
import HandS.Walk
import PyProof.ToksMono
import KE.DataMinKey
import KE.KMathG
import Flt.RightSqrt
import HandS.TupLe
import HandS.Comp
import HandS.CallLocal
import PyProof.AutoSeq1
import HandS.Star
import HandS.IterVal
import HandS.Conv
import KE.KRevSl
import HandS.DictTup
import HandS.Text
import KE.KDictDisplayH
import PyProof.TupleOfSeq
import PySem.Challenge.RW_nearestheld_k01_fractions_and_formats_of
set_option Elab.async false
set_option linter.all false
set_option maxRecDepth 100000
set_option maxHeartbeats 4000001
namespace Gd
open PySem PySem.Spec PyProof.Rows L2
def repAll (f : Value → PyData → Bool) : List Value → List PyData → Bool
  | [], [] => true
  | v :: vs, d :: ds => f v d && repAll f vs ds
  | _, _ => false
def repB (K : PySem.W.Frag) : Nat → Value → PyData → Bool
  | 0, _, _ => false
  | n + 1, .str y _, .str x => decide (y = x)
  | n + 1, .int j _, .int i => decide (j = i)
  | n + 1, .ref a, .tuple ds => match K.lookup a with
    | some ⟨c, _, .seq its _, _⟩ => decide (c = .type "tuple") && (Nat.ble its.size 60 && repAll (repB K n) its.toList ds)
    | _ => false
  | _ + 1, _, _ => false
def globB (K : PySem.W.Frag) (x : Str) (d : PyData) : Bool := match PySem.W.nsIn K mainGlobals x with
  | some (some v) => repB K 5 v d
  | _ => false
def bltB (K : PySem.W.Frag) (x : Str) (b : String) : Bool := He.eqO (PySem.W.nsIn K mainGlobals x) (some (some (.builtin b)))
def ckM (gl : List (Str × PyData)) (bl : List (Str × String)) (K : PySem.W.Frag) : Bool := gl.all (fun p => globB K p.1 p.2) && bl.all (fun p => bltB K p.1 p.2)
def ckS (K : PySem.W.Frag) : Bool := (K.lookup sysModules).isSome
def refsAt (g : Addr → Option Obj) (a : Addr) : List Addr := match g a with
  | some o => He.refsO o
  | none => []
def asM (g : Addr → Option Obj) : List Addr := sysModules :: mainGlobals :: (refsAt g mainGlobals ++ (refsAt g mainGlobals).flatMap (refsAt g))
def hkM (fa : List He.Fa) (fn : List He.DefD) (ck : PySem.W.Frag → Bool) : PySem.W.Hook where
  α := He.AlD × Bool
  obs s := (fun K => (He.obsD fa fn K, ck K)) (He.frG s.heap.get? (asM s.heap.get?))
  val _ := (He.valD fn, true)
  says _ h := ∃ K : PySem.W.Frag, K.In h ∧ He.SaysD fa fn K ∧ ck K = true
  of w s h := ⟨_, He.frG_in, congrArg Prod.fst h, congrArg Prod.snd h⟩
  keeps w h h' := fun ⟨K, k, a, b⟩ up => ⟨K, fun x o e => up x o (k x o e), a, b⟩
def obM (fa : List He.Fa) (fn : List He.DefD) (ck : PySem.W.Frag → Bool) (s : PySem.W.SharedT) : He.AlD × Bool :=
  (fun K => (He.obsD fa fn K, ck K)) (He.frG (HandSHeadRun.getT s) (asM (HandSHeadRun.getT s)))
abbrev dfD (y x : Str) (st : Stmt) : He.DefD := ⟨(y, .none), x, x, defArgs st, defBody st, defScope st, [], []⟩
noncomputable def endG (st : PySem.W.SharedT → Thread → Option (PySem.W.SharedT × Thread)) (M : Nat) (p : Program) (s0 : Shared) : Option PySem.W.SharedT :=
  match HandSHeadRun.putAll s0.heap.objs.toList PySem.W.BT.nil 0 with
  | some (t, n) => HandSHeadRun.frNat n fun n0 => HandSHeadRun.goF st n0 (s0.heap.nsMap mainGlobals (Str.ofString "__annotations__")) M ⟨t, n0, s0.heap.life, s0.gens, s0.drawn, s0.toks, s0.os⟩ (PySem.W.topStub p)
  | none => none
def goI (st : PySem.W.SharedT → Thread → Option (PySem.W.SharedT × Thread)) : Nat → PySem.W.SharedT → Thread → Option PySem.W.SharedT
  | 0, _, _ => none
  | m + 1, s, t => match t.atExitBegin with
    | some [] => some s
    | some (_ :: _) => none
    | none => match st s t with
      | some (s', t') => HandSHeadRun.frS s' fun s' => goI st m s' t'
      | none => none
noncomputable def openI (st : PySem.W.SharedT → Thread → Option (PySem.W.SharedT × Thread)) (N : Nat) (p : Program) : Option Shared :=
  (goI st N ⟨PySem.W.BT.nil, 0, {}, #[], {}, 1, (start (PySem.W.opening p)).1.os⟩ (start (PySem.W.opening p)).2).bind fun s => fenceModules? p s.abs
noncomputable def runI (p : Program) (w : World) (N M : Nat) : Option (Shared × PySem.W.SharedT) :=
  (openI (HandSHeadRun.stepQ (HandSHeadRun.denQ HandSHeadRun.tabQ) (PySem.W.opening p) w) N p).bind fun s0 => (endG (HandSHeadRun.stepQ (HandSHeadRun.denQ HandSHeadRun.tabQ) p w) M p s0).map fun s => (s0, s)
def RunA (r : PySem.W.OpenRow) (q : Program) (N M : Nat) (loose : List Str) (w : World) : Prop :=
  (runI r.prog w N M).map (fun s => ((s.1.heap.isNs mainGlobals && s.1.gens.size == 0) && HandSHeadRun.looksF r.prog s.1.heap s.2.abs, HandSHeadRun.seenQ q loose (importedModules r.prog.main.body) (fun s => PySem.W.xlAt q [] s && PySem.W.recOk r.records s) s.2.abs)) = some (true, PySem.W.openGood q loose)
def RunB (r : PySem.W.OpenRow) (H : PySem.W.Hook) (ob : PySem.W.SharedT → H.α) (N M : Nat) (w : World) : Prop :=
  (runI r.prog w N M).map (fun s => ob s.2) = some (H.val w)
end Gd
namespace K01H
open PySem PySem.Spec PyProof.Rows L2 Gd
def topH (i : Nat) : Stmt := PySem.Challenge.pw_nearestheld_k01_fractions_and_formats_of.main.body.getD i (.Pass ⟨0, 0, 0, 0⟩)
def fn0 : List He.DefD := [dfD "is_integer" "is_integer" (topH 4), dfD "is_fraction" "is_fraction" (topH 5), dfD "is_format" "is_format" (topH 6), dfD "is_way" "is_way" (topH 7), dfD "are_flags" "are_flags" (topH 8), dfD "_law_bag" "_law_bag" (topH 10), dfD "_law_take" "_law_take" (topH 11), dfD "_law_some" "_law_some" (topH 12), dfD "_law_mixed" "_law_mixed" (topH 13), dfD "_law_alike" "_law_alike" (topH 14), dfD "_law_is_int" "_law_is_int" (topH 15), dfD "_law_common" "_law_common" (topH 16), dfD "_law_to" "_law_to" (topH 17), dfD "_law_over" "_law_over" (topH 18), dfD "_law_formats" "_law_formats" (topH 19), dfD "_law_wide_format" "_law_wide_format" (topH 20), dfD "_law_ways" "_law_ways" (topH 21), dfD "_law_is_fraction" "_law_is_fraction" (topH 22), dfD "_law_is_format" "_law_is_format" (topH 23), dfD "_law_is_way" "_law_is_way" (topH 24), dfD "_law_are_flags" "_law_are_flags" (topH 25), dfD "_law_odd" "_law_odd" (topH 26), dfD "_law_bent" "_law_bent" (topH 27), dfD "_law_is_told" "_law_is_told" (topH 28), dfD "_law_edge_format" "_law_edge_format" (topH 29), dfD "law" "law" (topH 30)]
def fn : List He.DefD := fn0
def fas0 : List He.Fa := [.glo "is_integer", .glo "is_fraction", .glo "is_format", .glo "is_way", .glo "are_flags", .glo "_law_bag", .glo "_law_take", .glo "_law_some", .glo "_law_mixed", .glo "_law_alike", .glo "_law_is_int", .glo "_law_common", .glo "_law_to", .glo "_law_over", .glo "_law_formats", .glo "_law_wide_format", .glo "_law_ways", .glo "_law_is_fraction", .glo "_law_is_format", .glo "_law_is_way", .glo "_law_are_flags", .glo "_law_odd", .glo "_law_bent", .glo "_law_is_told", .glo "_law_edge_format", .glo "law", .free "abs", .free "all", .free "bool", .free "int"]
def fas1 : List He.Fa := [.free "isinstance", .free "len", .free "list", .free "range", .free "repr", .free "sorted", .free "str", .free "tuple", .free "zip"]
def fas : List He.Fa := fas0 ++ fas1
def ck (K : PySem.W.Frag) : Bool := ckM [("FLAG_WORDS", .tuple [.str "by", .str "inexact", .str "invalid", .str "over", .str "tiny"]), ("WAYS", .tuple [.str "even", .str "away", .str "up", .str "down", .str "zero"])] [("gcd", "math.gcd")] K && ckS K
def loose0 : List Str := ["gcd", "__name__", "WAYS", "FLAG_WORDS", "is_integer", "is_fraction", "is_format", "is_way", "are_flags", "_law_bag", "_law_take", "_law_some", "_law_mixed", "_law_alike", "_law_is_int", "_law_common", "_law_to", "_law_over", "_law_formats", "_law_wide_format", "_law_ways", "_law_is_fraction", "_law_is_format", "_law_is_way", "_law_are_flags", "_law_odd", "_law_bent", "_law_is_told", "_law_edge_format"]
def loose : List Str := loose0
theorem runA (w : World) : RunA (PySem.W.OpenLaw.row PySem.Challenge.rw_nearestheld_k01_fractions_and_formats_of) (PySem.W.view (PySem.W.OpenLaw.row PySem.Challenge.rw_nearestheld_k01_fractions_and_formats_of).prog [30]) 8000 8000 loose w := by
  unfold RunA
  kernel_rfl
theorem runB (w : World) : RunB (PySem.W.OpenLaw.row PySem.Challenge.rw_nearestheld_k01_fractions_and_formats_of) (hkM fas fn ck) (obM fas fn ck) 8000 8000 w := by
  unfold RunB
  kernel_rfl
theorem hdefT : PySem.W.defOf (PySem.W.view (PySem.W.OpenLaw.row PySem.Challenge.rw_nearestheld_k01_fractions_and_formats_of).prog [30]) (PySem.W.OpenLaw.row PySem.Challenge.rw_nearestheld_k01_fractions_and_formats_of).name = some ((HandSHeadRun.topDef (PySem.W.OpenLaw.row PySem.Challenge.rw_nearestheld_k01_fractions_and_formats_of).prog 30), []) := by kernel_rfl
theorem hpT : (PySem.W.OpenLaw.row PySem.Challenge.rw_nearestheld_k01_fractions_and_formats_of).prog.theDef (PySem.W.OpenLaw.row PySem.Challenge.rw_nearestheld_k01_fractions_and_formats_of).name = some ((HandSHeadRun.topDef (PySem.W.OpenLaw.row PySem.Challenge.rw_nearestheld_k01_fractions_and_formats_of).prog 30).params, (HandSHeadRun.topDef (PySem.W.OpenLaw.row PySem.Challenge.rw_nearestheld_k01_fractions_and_formats_of).prog 30).body, (HandSHeadRun.topDef (PySem.W.OpenLaw.row PySem.Challenge.rw_nearestheld_k01_fractions_and_formats_of).prog 30).scope) := by kernel_rfl
theorem hkT : PySem.W.kwWritten? (HandSHeadRun.topDef (PySem.W.OpenLaw.row PySem.Challenge.rw_nearestheld_k01_fractions_and_formats_of).prog 30).params.kwonlyargs (HandSHeadRun.topDef (PySem.W.OpenLaw.row PySem.Challenge.rw_nearestheld_k01_fractions_and_formats_of).prog 30).params.kw_defaults = some [] := by kernel_rfl
theorem okT : (PySem.W.chainsOk (PySem.W.view (PySem.W.OpenLaw.row PySem.Challenge.rw_nearestheld_k01_fractions_and_formats_of).prog [30]) && PySem.W.opensWell (PySem.W.OpenLaw.row PySem.Challenge.rw_nearestheld_k01_fractions_and_formats_of).prog && (PySem.W.frees (PySem.W.OpenLaw.row PySem.Challenge.rw_nearestheld_k01_fractions_and_formats_of).toRowW && (PySem.W.OpenLaw.row PySem.Challenge.rw_nearestheld_k01_fractions_and_formats_of).within.isEmpty)) = true := by decide +kernel
theorem hbT : (PySem.W.OpenLaw.row PySem.Challenge.rw_nearestheld_k01_fractions_and_formats_of).prog.bare := ⟨rfl, rfl, rfl, rfl, rfl, by decide +kernel⟩
theorem nameT : (HandSHeadRun.topDef (PySem.W.OpenLaw.row PySem.Challenge.rw_nearestheld_k01_fractions_and_formats_of).prog 30).name = ("law" : PySem.Str) := by kernel_rfl
end K01H
namespace Gd
open PySem PySem.Spec PyProof.Rows L2
mutual
inductive Rp (K : PySem.W.Frag) (H : Hp) : V → PyData → Prop
  | non : Rp K H .non .none
  | bl (b : Bool) : Rp K H (.bl b) (.bool b)
  | int (i : Int) : Rp K H (.int i) (.int i)
  | str (x : Str) : Rp K H (.str x) (.str x)
  | lst {a xs ds} (h : H a = some (.lst xs)) (r : RpAll K H xs ds) : Rp K H (.ref a) (.list ds)
  | tup {a xs ds} (h : SqT K H a xs) (r : RpAll K H xs ds) : Rp K H (.ref a) (.tuple ds)
  | dct {a} (h : H a = some (.dK [])) : Rp K H (.ref a) (.dict [])
  | dctT {a} (kvs : List (List Int × Int)) (h : H a = some (.dT (kvs.map fun p => (p.1.map .inl, V.int p.2)))) : Rp K H (.ref a) (.dict (kvs.map fun p => (.tuple (p.1.map .int), .int p.2)))
inductive RpAll (K : PySem.W.Frag) (H : Hp) : List V → List PyData → Prop
  | nil : RpAll K H [] []
  | cons {v vs d ds} (h : Rp K H v d) (r : RpAll K H vs ds) : RpAll K H (v :: vs) (d :: ds)
end
section
variable {K : PySem.W.Frag} {H H' : Hp}
theorem seqT (e : Same H H') {a : Addr} {xs : List V} (h : SqT K H a xs) : SqT K H' a xs := by
  rcases h with (hh | ⟨ob, hh⟩) | hh
  · exact .inl (.inl (e _ _ hh))
  · exact .inl (.inr ⟨ob, e _ _ hh⟩)
  · exact .inr hh
mutual
theorem Rp.mono (e : Same H H') : ∀ {v : V} {d : PyData}, Rp K H v d → Rp K H' v d
  | _, _, .non => .non
  | _, _, .bl b => .bl b
  | _, _, .int i => .int i
  | _, _, .str x => .str x
  | _, _, .lst h r => .lst (e _ _ h) (RpAll.mono e r)
  | _, _, .tup h r => .tup (seqT e h) (RpAll.mono e r)
  | _, _, .dct h => .dct (e _ _ h)
  | _, _, .dctT kvs h => .dctT kvs (e _ _ h)
theorem RpAll.mono (e : Same H H') : ∀ {vs : List V} {ds : List PyData}, RpAll K H vs ds → RpAll K H' vs ds
  | _, _, .nil => .nil
  | _, _, .cons h r => .cons (Rp.mono e h) (RpAll.mono e r)
end
mutual
theorem Rp.dp : ∀ {v : V} {d : PyData}, Rp K H v d → d.hasDict = false → Dp K H v d
  | _, _, .non, _ => .non
  | _, _, .bl b, _ => .bl b
  | _, _, .int i, _ => .int i
  | _, _, .str x, _ => .str x
  | _, _, .lst h r, n => .lst (SqL.of h) (RpAll.dp r (by simpa only [PyData.hasDict] using n))
  | _, _, .tup h r, n => .tup h (RpAll.dp r (by simpa only [PyData.hasDict] using n))
  | _, _, .dct h, n => by simp only [PyData.hasDict] at n; cases n
  | _, _, .dctT kvs h, n => by simp only [PyData.hasDict] at n; cases n
theorem RpAll.dp : ∀ {vs : List V} {ds : List PyData}, RpAll K H vs ds → PyData.hasDictAll ds = false → DpAll K H vs ds
  | _, _, .nil, _ => .nil
  | _, _, .cons h r, n => by
    simp only [PyData.hasDictAll, Bool.or_eq_false_iff] at n
    exact .cons (Rp.dp h n.1) (RpAll.dp r n.2)
end
theorem nd_shaped {d : PyData} (h : SeqAt.shaped d = true) : d.hasDict = false := PyData.hasDict_of_canLay d (by unfold SeqAt.shaped at h; exact (Bool.and_eq_true_iff.mp h).1)
theorem RpAll.length : ∀ {vs : List V} {ds : List PyData}, RpAll K H vs ds → vs.length = ds.length
  | _, _, .nil => rfl
  | _, _, .cons _ r => congrArg (· + 1) (RpAll.length r)
theorem RpAll.get : ∀ {vs : List V} {ds : List PyData} {i : Nat} {v : V}, RpAll K H vs ds → vs[i]? = some v → ∃ d, ds[i]? = some d ∧ Rp K H v d
  | _, _, 0, _, .cons h _, e => by cases e; exact ⟨_, rfl, h⟩
  | _, _, i + 1, _, .cons _ r, e => RpAll.get (i := i) r e
  | _, _, i, _, .nil, e => by simp at e
theorem RpAll.getD : ∀ {vs : List V} {ds : List PyData} {i : Nat} {d : PyData}, RpAll K H vs ds → ds[i]? = some d → ∃ v, vs[i]? = some v ∧ Rp K H v d
  | _, _, 0, _, .cons h _, e => by cases e; exact ⟨_, rfl, h⟩
  | _, _, i + 1, _, .cons _ r, e => RpAll.getD (i := i) r e
  | _, _, i, _, .nil, e => by simp at e
theorem RpAll.app : ∀ {vs ws : List V} {ds es : List PyData}, RpAll K H vs ds → RpAll K H ws es → RpAll K H (vs ++ ws) (ds ++ es)
  | _, _, _, _, .nil, q => q
  | _, _, _, _, .cons h r, q => .cons h (RpAll.app r q)
theorem RpAll.take : ∀ {vs : List V} {ds : List PyData} (n : Nat), RpAll K H vs ds → RpAll K H (vs.take n) (ds.take n)
  | _, _, 0, _ => .nil
  | _, _, _ + 1, .nil => .nil
  | _, _, n + 1, .cons h r => .cons h (RpAll.take n r)
theorem RpAll.drop : ∀ {vs : List V} {ds : List PyData} (n : Nat), RpAll K H vs ds → RpAll K H (vs.drop n) (ds.drop n)
  | _, _, 0, r => r
  | _, _, _ + 1, .nil => .nil
  | _, _, n + 1, .cons _ r => RpAll.drop n r
end
structure Bag where
  x : Int
  y : Int
  z : Int
  cs : List Int
abbrev Gh := Option (Addr × Addr)
def bagCells (B : Bag) (l : Addr) : List V := [.int B.x, .int B.y, .int B.z, .ref l]
structure On (K : PySem.W.Frag) (g : Gh) (B : Bag) (H0 H : Hp) : Prop where
  ex : Same H0 H
  bag : ∀ a l, g = some (a, l) → H0 a = none ∧ H a = some (.lst (bagCells B l)) ∧ H0 l = some (.lst (B.cs.map V.int))
def Off (g : Gh) (a : Addr) : Prop := ∀ l, g ≠ some (a, l)
structure To (g : Gh) (H0 H H0' H' : Hp) : Prop where
  ex : Same H0 H0'
  un : ∀ a o, Off g a → H0 a = none → H a = some o → H0' a = none ∧ H' a = some o
theorem To.refl {g : Gh} {H0 H : Hp} : To g H0 H H0 H := ⟨Same.refl _, fun _ _ _ h1 h2 => ⟨h1, h2⟩⟩
theorem To.trans {g : Gh} {H0 H H1 H' H2 H'' : Hp} (s : To g H0 H H1 H') (t : To g H1 H' H2 H'') : To g H0 H H2 H'' :=
  ⟨s.ex.trans t.ex, fun a o f h1 h2 => let ⟨p, q⟩ := s.un a o f h1 h2; t.un a o f p q⟩
inductive VD where
  | no
  | da (d : PyData)
  | bag
  | scr (ns : List Int)
  | dct (kvs : List (Str × PyData))
  | fn (f : Addr)
  | fns (fs : List Addr)
def Rv (K : PySem.W.Frag) (g : Gh) (H0 : Hp) (v : V) : VD → Prop
  | .no => True
  | .da d => Rp K H0 v d
  | .bag => ∃ a l, g = some (a, l) ∧ v = .ref a
  | .scr ns => ∃ a, v = .ref a ∧ SqL K H0 a (ns.map V.int)
  | .dct kvs => ∃ a xs, v = .ref a ∧ H0 a = some (.dK xs) ∧ xs.map (·.1) = kvs.map (fun kv => Sum.inr kv.1) ∧ RpAll K H0 (xs.map (·.2)) (kvs.map (·.2))
  | .fn f => v = .ref f
  | .fns fs => ∃ a, v = .ref a ∧ H0 a = some (.lst (fs.map V.ref))
theorem Rv.mono {K : PySem.W.Frag} {g : Gh} {H0 H1 : Hp} (e : Same H0 H1) {v : V} : ∀ {d : VD}, Rv K g H0 v d → Rv K g H1 v d
  | .no, h => h
  | .da _, h => Rp.mono e h
  | .bag, h => h
  | .scr _, ⟨a, h1, h2⟩ => ⟨a, h1, e.seq h2⟩
  | .dct _, ⟨a, xs, h1, h2, h3, h4⟩ => ⟨a, xs, h1, e _ _ h2, h3, h4.mono e⟩
  | .fn _, h => h
  | .fns _, ⟨a, h1, h2⟩ => ⟨a, h1, e _ _ h2⟩
def RvAll (K : PySem.W.Frag) (g : Gh) (H0 : Hp) : List V → List VD → Prop
  | [], [] => True
  | v :: vs, d :: ds => Rv K g H0 v d ∧ RvAll K g H0 vs ds
  | _, _ => False
theorem RvAll.mono {K : PySem.W.Frag} {g : Gh} {H0 H1 : Hp} (e : Same H0 H1) : ∀ {vs : List V} {ds : List VD}, RvAll K g H0 vs ds → RvAll K g H1 vs ds
  | [], [], h => h
  | _ :: _, _ :: _, h => ⟨h.1.mono e, RvAll.mono e h.2⟩
  | [], _ :: _, h => h.elim
  | _ :: _, [], h => h.elim
theorem RvAll.length {K : PySem.W.Frag} {g : Gh} {H0 : Hp} : ∀ {vs : List V} {ds : List VD}, RvAll K g H0 vs ds → vs.length = ds.length
  | [], [], _ => rfl
  | _ :: _, _ :: _, h => congrArg (· + 1) (RvAll.length h.2)
  | [], _ :: _, h => h.elim
  | _ :: _, [], h => h.elim
structure EnvD (K : PySem.W.Frag) (g : Gh) (H0 : Hp) (σ : L2.St) (Γ : List VD) : Prop where
  len : σ.length = Γ.length
  at' : ∀ (i : Nat) (d : VD), Γ[i]? = some d → d ≠ .no → ∃ v : V, σ[i]? = some (some v) ∧ Rv K g H0 v d
theorem EnvD.mono {K : PySem.W.Frag} {g : Gh} {H0 H1 : Hp} {σ : L2.St} {Γ : List VD} (e : Same H0 H1) (h : EnvD K g H0 σ Γ) : EnvD K g H1 σ Γ :=
  ⟨h.len, fun i d h1 h2 => let ⟨v, p, q⟩ := h.at' i d h1 h2; ⟨v, p, q.mono e⟩⟩
theorem EnvD.set {K : PySem.W.Frag} {g : Gh} {H0 : Hp} {σ : L2.St} {Γ : List VD} {v : V} {d : VD} (h : EnvD K g H0 σ Γ) (i : Nat) (r : Rv K g H0 v d) : EnvD K g H0 (σ.set i (some v)) (Γ.set i d) := by
  refine ⟨by rw [List.length_set, List.length_set, h.len], fun j e h1 h2 => ?_⟩
  by_cases hj : i = j
  · subst hj
    have hi : i < Γ.length := by
      have := (List.getElem?_eq_some_iff.mp h1).1
      rwa [List.length_set] at this
    rw [List.getElem?_set_self hi] at h1
    cases h1
    exact ⟨v, List.getElem?_set_self (by rw [h.len]; exact hi), r⟩
  · rw [List.getElem?_set_ne hj] at h1 ⊢
    exact h.at' j e h1 h2
def WE (X : Cx) (e : Expr) : TE := fun σ H Q => ∃ t, PE X e t ∧ t σ H Q
def WT (X : Cx) (e : Expr) : TT := fun σ H Q => ∃ t, PT X e t ∧ t σ H Q
def WA (X : Cx) (es : List Expr) : TA := fun σ H Q => ∃ t, PA X es t ∧ t σ H Q
def WS (X : Cx) (ss : List Stmt) : TS := fun D σ H => ∃ t, PSs X ss t ∧ t D σ H
theorem we {X : Cx} (e : Expr) : PE X e (WE X e) := ⟨fun p s σ H Q I ⟨_, ht, h⟩ => ht.run p s σ H Q I h⟩
theorem wt {X : Cx} (e : Expr) : PT X e (WT X e) := ⟨fun p s σ H Q I ⟨_, ht, h⟩ => ht.run p s σ H Q I h⟩
theorem wa {X : Cx} (es : List Expr) : PA X es (WA X es) := ⟨fun o p s σ H Q I ⟨_, ht, h⟩ => ht.run o p s σ H Q I h⟩
theorem ws {X : Cx} (ss : List Stmt) : PSs X ss (WS X ss) := ⟨fun p s σ H D I ⟨_, ht, h⟩ => ht.run p s σ H D I h⟩
def EJ (X : Cx) (Γ : List VD) (B : Bag) (e : Expr) (d : VD) (B' : Bag) : Prop :=
  ∀ g σ H0 H, EnvD X.K g H0 σ Γ → On X.K g B H0 H → ∀ Q : VK,
    (∀ v H0' H', To g H0 H H0' H' → On X.K g B' H0' H' → Rv X.K g H0' v d → Q v H') → WE X e σ H Q
def TJ (X : Cx) (Γ : List VD) (B : Bag) (e : Expr) (b : Bool) (B' : Bag) : Prop :=
  ∀ g σ H0 H, EnvD X.K g H0 σ Γ → On X.K g B H0 H → ∀ Q : Bool → Hp → Prop,
    (∀ H0' H', To g H0 H H0' H' → On X.K g B' H0' H' → Q b H') → WT X e σ H Q
def AJ (X : Cx) (Γ : List VD) (B : Bag) (es : List Expr) (ds : List VD) (B' : Bag) : Prop :=
  ∀ g σ H0 H, EnvD X.K g H0 σ Γ → On X.K g B H0 H → ∀ Q : List V → Hp → Prop,
    (∀ vs H0' H', To g H0 H H0' H' → On X.K g B' H0' H' → RvAll X.K g H0' vs ds → Q vs H') → WA X es σ H Q
structure En where
  nx : List VD → Bag → Prop
  rt : PyData → Bag → Prop
  bk : List VD → Bag → Prop := fun _ _ => False
  ct : List VD → Bag → Prop := fun _ _ => False
structure Gets (X : Cx) (E : En) (g : Gh) (H0 H : Hp) (D : Ends) : Prop where
  nx : ∀ Γ B σ H1 H', E.nx Γ B → To g H0 H H1 H' → EnvD X.K g H1 σ Γ → On X.K g B H1 H' → D.nx σ H'
  rt : ∀ r B v H1 H', E.rt r B → To g H0 H H1 H' → On X.K g B H1 H' → Rp X.K H1 v r → D.rt v H'
  bk : ∀ Γ B σ H1 H', E.bk Γ B → To g H0 H H1 H' → EnvD X.K g H1 σ Γ → On X.K g B H1 H' → D.bk σ H'
  ct : ∀ Γ B σ H1 H', E.ct Γ B → To g H0 H H1 H' → EnvD X.K g H1 σ Γ → On X.K g B H1 H' → D.ct σ H'
theorem Gets.on {X : Cx} {E : En} {g : Gh} {H0 H H1 H' : Hp} {D : Ends} (G : Gets X E g H0 H D) (t : To g H0 H H1 H') : Gets X E g H1 H' D :=
  ⟨fun Γ B σ a b e u => G.nx Γ B σ a b e (t.trans u), fun r B v a b e u => G.rt r B v a b e (t.trans u),
   fun Γ B σ a b e u => G.bk Γ B σ a b e (t.trans u), fun Γ B σ a b e u => G.ct Γ B σ a b e (t.trans u)⟩
def SJ (X : Cx) (Γ : List VD) (B : Bag) (ss : List Stmt) (E : En) : Prop :=
  ∀ g σ H0 H, EnvD X.K g H0 σ Γ → On X.K g B H0 H → ∀ D : Ends, Gets X E g H0 H D → WS X ss D σ H
section
variable {X : Cx} {Γ : List VD} {B B1 B2 B' : Bag} {e a b c : Expr} {es : List Expr} {d da db dc : VD} {pos p : Pos}
theorem laid {K : PySem.W.Frag} {g : Gh} {B : Bag} {H0 H : Hp} {p : Addr} {o : HO} (O : On K g B H0 H) (n : H p = none) :
    To g H0 H (upd H0 p o) (upd H p o) ∧ On K g B (upd H0 p o) (upd H p o) := by
  have n0 : H0 p = none := O.ex.free n
  refine ⟨⟨fun q u h => ?_, fun q u f h1 h2 => ?_⟩, ⟨fun q u h => ?_, fun q l h => ?_⟩⟩
  · rw [upd_ne (ne_of_none h n0)]; exact h
  · have hq := ne_of_none h2 n
    rw [upd_ne hq, upd_ne hq]; exact ⟨h1, h2⟩
  · by_cases hq : q = p
    · subst hq; rw [upd_same] at h ⊢; exact h
    · rw [upd_ne hq] at h ⊢; exact O.ex _ _ h
  · obtain ⟨h1, h2, h3⟩ := O.bag q l h
    have hq := ne_of_none h2 n
    have hl := ne_of_none h3 n0
    rw [upd_ne hq, upd_ne hq, upd_ne hl]; exact ⟨h1, h2, h3⟩
theorem ej_c {v : V} {d : PyData} (h : PE X e (tC v)) (r : ∀ H0, Rp X.K H0 v d) : EJ X Γ B e (.da d) B :=
  fun g σ H0 H _ O Q q => ⟨_, h, q v H0 H To.refl O (r H0)⟩
theorem ej_int {i : Int} {j} : EJ X Γ B (.Constant (.int i) j pos) (.da (.int i)) B := ej_c pe_int fun _ => .int i
theorem ej_bl {i : Bool} {j} : EJ X Γ B (.Constant (.bool i) j pos) (.da (.bool i)) B := ej_c pe_bl fun _ => .bl i
theorem ej_str {i : Str} {j} : EJ X Γ B (.Constant (.str i) j pos) (.da (.str i)) B := ej_c pe_str fun _ => .str i
theorem ej_non {j} : EJ X Γ B (.Constant .none j pos) (.da .none) B := ej_c pe_non fun _ => .non
theorem ej_var (i : Nat) {x : Str} (h : Γ[i]? = some d) (hd : d ≠ .no) (hN : X.N[i]? = some x := by rfl)
    (hv : Vis X.env.scope x := by first | exact Or.inl rfl | exact Or.inr (Or.inl rfl) | exact Or.inr (Or.inr rfl))
    (h1 : (x == ("__debug__" : Str)) = false := by decide) (h2 : (x == ("__classdict__" : Str)) = false := by decide) : EJ X Γ B (.Name x pos) d B :=
  fun g σ H0 H E O Q q => let ⟨v, hs, r⟩ := E.at' i d h hd; ⟨_, pe_var hN hv h1 h2, v, hs, q v H0 H To.refl O r⟩
theorem ej_dat (i : Nat) {x : Str} {d : PyData} (h : Γ[i]? = some (.da d) := by rfl) (hN : X.N[i]? = some x := by rfl)
    (hv : Vis X.env.scope x := by first | exact Or.inl rfl | exact Or.inr (Or.inl rfl) | exact Or.inr (Or.inr rfl))
    (h1 : (x == ("__debug__" : Str)) = false := by decide) (h2 : (x == ("__classdict__" : Str)) = false := by decide) : EJ X Γ B (.Name x pos) (.da d) B :=
  ej_var i h (fun z => nomatch z) hN hv h1 h2
theorem ej_bag (i : Nat) {x : Str} (h : Γ[i]? = some .bag := by rfl) (hN : X.N[i]? = some x := by rfl)
    (hv : Vis X.env.scope x := by first | exact Or.inl rfl | exact Or.inr (Or.inl rfl) | exact Or.inr (Or.inr rfl))
    (h1 : (x == ("__debug__" : Str)) = false := by decide) (h2 : (x == ("__classdict__" : Str)) = false := by decide) : EJ X Γ B (.Name x pos) .bag B :=
  ej_var i h (fun z => nomatch z) hN hv h1 h2
theorem ej_un {r : V → Hp → VK → Prop} (ha : EJ X Γ B a da B1) (hp : ∀ t, PE X a t → PE X e (tUn r t))
    (hr : ∀ g v H0 H, On X.K g B1 H0 H → Rv X.K g H0 v da → ∀ Q : VK, (∀ z H0' H', To g H0 H H0' H' → On X.K g B1 H0' H' → Rv X.K g H0' z d → Q z H') → r v H Q) :
    EJ X Γ B e d B1 := fun g σ H0 H E O Q q =>
  ⟨_, hp _ (we a), ha g σ H0 H E O _ fun v H1 H' t o rv => hr g v H1 H' o rv Q fun z H2 H'' t2 o2 r2 => q z H2 H'' (t.trans t2) o2 r2⟩
theorem ej_bin {r : R2} (ha : EJ X Γ B a da B1) (hb : EJ X Γ B1 b db B2) (hp : ∀ t u, PE X a t → PE X b u → PE X e (tOp r t u))
    (hr : ∀ g v w H0 H, On X.K g B2 H0 H → Rv X.K g H0 v da → Rv X.K g H0 w db → ∀ Q : VK, (∀ z H0' H', To g H0 H H0' H' → On X.K g B2 H0' H' → Rv X.K g H0' z d → Q z H') → r v w H Q) :
    EJ X Γ B e d B2 := fun g σ H0 H E O Q q =>
  ⟨_, hp _ _ (we a) (we b), ha g σ H0 H E O _ fun v H1 H' t o rv => hb g σ H1 H' (E.mono t.ex) o _ fun w H2 H'' t2 o2 rw' =>
    hr g v w H2 H'' o2 (rv.mono t2.ex) rw' Q fun z H3 H3' t3 o3 r3 => q z H3 H3' ((t.trans t2).trans t3) o3 r3⟩
theorem rvI {K : PySem.W.Frag} {g : Gh} {H0 : Hp} {v : V} {i : Int} (h : Rv K g H0 v (.da (.int i))) : v = .int i := by
  have h : Rp K H0 v (.int i) := h
  cases h; rfl
theorem rvB {K : PySem.W.Frag} {g : Gh} {H0 : Hp} {v : V} {i : Bool} (h : Rv K g H0 v (.da (.bool i))) : v = .bl i := by
  have h : Rp K H0 v (.bool i) := h
  cases h; rfl
theorem rvS {K : PySem.W.Frag} {g : Gh} {H0 : Hp} {v : V} {i : Str} (h : Rv K g H0 v (.da (.str i))) : v = .str i := by
  have h : Rp K H0 v (.str i) := h
  cases h; rfl
theorem rvL {K : PySem.W.Frag} {g : Gh} {H0 : Hp} {v : V} {ds : List PyData} (h : Rv K g H0 v (.da (.list ds))) : ∃ a xs, v = .ref a ∧ H0 a = some (.lst xs) ∧ RpAll K H0 xs ds := by
  have h : Rp K H0 v (.list ds) := h
  cases h with
  | lst h1 r => exact ⟨_, _, rfl, h1, r⟩
theorem rvT {K : PySem.W.Frag} {g : Gh} {H0 : Hp} {v : V} {ds : List PyData} (h : Rv K g H0 v (.da (.tuple ds))) : ∃ a xs, v = .ref a ∧ SqT K H0 a xs ∧ RpAll K H0 xs ds := by
  have h : Rp K H0 v (.tuple ds) := h
  cases h with
  | tup h1 r => exact ⟨_, _, rfl, h1, r⟩
theorem ej_ii {i j : Int} {z : Int → Int → V} {y : PyData} {op : Operator} (ha : EJ X Γ B a (.da (.int i)) B1) (hb : EJ X Γ B1 b (.da (.int j)) B2)
    (ho : OpR X (binaryOp op) (rI0 z)) (hz : ∀ H0, Rp X.K H0 (z i j) y) : EJ X Γ B (.BinOp a op b pos) (.da y) B2 :=
  ej_bin ha hb (fun _ _ h1 h2 => pe_op ho h1 h2) fun g v w H0 H O r1 r2 Q q => ⟨i, j, rvI r1, rvI r2, q _ H0 H To.refl O (hz H0)⟩
theorem ej_iic {i j : Int} {C : Int → Int → Prop} {z : Int → Int → V} {y : PyData} {op : Operator} (ha : EJ X Γ B a (.da (.int i)) B1) (hb : EJ X Γ B1 b (.da (.int j)) B2)
    (ho : OpR X (binaryOp op) (rI C z)) (hc : C i j) (hz : ∀ H0, Rp X.K H0 (z i j) y) : EJ X Γ B (.BinOp a op b pos) (.da y) B2 :=
  ej_bin ha hb (fun _ _ h1 h2 => pe_op ho h1 h2) fun g v w H0 H O r1 r2 Q q => ⟨i, j, rvI r1, rvI r2, hc, q _ H0 H To.refl O (hz H0)⟩
theorem ej_add {i j : Int} (ha : EJ X Γ B a (.da (.int i)) B1) (hb : EJ X Γ B1 b (.da (.int j)) B2) : EJ X Γ B (.BinOp a .Add b pos) (.da (.int (i + j))) B2 :=
  ej_ii ha hb op_add fun _ => .int _
theorem ej_sub {i j : Int} (ha : EJ X Γ B a (.da (.int i)) B1) (hb : EJ X Γ B1 b (.da (.int j)) B2) : EJ X Γ B (.BinOp a .Sub b pos) (.da (.int (i - j))) B2 :=
  ej_ii ha hb op_sub fun _ => .int _
theorem ej_mul {i j : Int} (ha : EJ X Γ B a (.da (.int i)) B1) (hb : EJ X Γ B1 b (.da (.int j)) B2) (hc : CMulW i j) : EJ X Γ B (.BinOp a .Mult b pos) (.da (.int (i * j))) B2 :=
  ej_iic ha hb op_mulW hc fun _ => .int _
theorem ej_fdiv {i j : Int} (ha : EJ X Γ B a (.da (.int i)) B1) (hb : EJ X Γ B1 b (.da (.int j)) B2) (hc : CDivW i j) : EJ X Γ B (.BinOp a .FloorDiv b pos) (.da (.int (i / j))) B2 :=
  ej_iic ha hb op_fdivW hc fun _ => .int _
theorem ej_mod {i j : Int} (ha : EJ X Γ B a (.da (.int i)) B1) (hb : EJ X Γ B1 b (.da (.int j)) B2) (hc : 0 < j) : EJ X Γ B (.BinOp a .Mod b pos) (.da (.int (i % j))) B2 :=
  ej_iic ha hb op_mod hc fun _ => .int _
theorem ej_pow {i j : Int} (ha : EJ X Γ B a (.da (.int i)) B1) (hb : EJ X Γ B1 b (.da (.int j)) B2) (hc : CPow i j) : EJ X Γ B (.BinOp a .Pow b pos) (.da (.int (i ^ j.toNat))) B2 :=
  ej_iic ha hb op_pow hc fun _ => .int _
theorem ej_neg {i : Int} (ha : EJ X Γ B a (.da (.int i)) B1) : EJ X Γ B (.UnaryOp .USub a pos) (.da (.int (-i))) B1 :=
  ej_un ha (fun _ h => pe_un un_neg h) fun g v H0 H O r Q q => ⟨i, rvI r, q _ H0 H To.refl O (Rp.int _)⟩
theorem ej_cmpI {i j : Int} {z : Int → Int → V} {y : PyData} {op : CmpOp} (ha : EJ X Γ B a (.da (.int i)) B1) (hb : EJ X Γ B1 b (.da (.int j)) B2)
    (ho : OpR X (compareOp op) (rI0 z)) (hz : ∀ H0, Rp X.K H0 (z i j) y) (hm : behindInMarks op b = false) : EJ X Γ B (.Compare a [op] [b] pos) (.da y) B2 :=
  ej_bin ha hb (fun _ _ h1 h2 => pe_cmpR ho h1 h2 hm) fun g v w H0 H O r1 r2 Q q => ⟨i, j, rvI r1, rvI r2, q _ H0 H To.refl O (hz H0)⟩
theorem ej_le {i j : Int} (ha : EJ X Γ B a (.da (.int i)) B1) (hb : EJ X Γ B1 b (.da (.int j)) B2) : EJ X Γ B (.Compare a [.LtE] [b] pos) (.da (.bool (decide (i ≤ j)))) B2 :=
  ej_cmpI ha hb op_le (fun _ => .bl _) (nomark _)
theorem ej_gt {i j : Int} (ha : EJ X Γ B a (.da (.int i)) B1) (hb : EJ X Γ B1 b (.da (.int j)) B2) : EJ X Γ B (.Compare a [.Gt] [b] pos) (.da (.bool (decide (j < i)))) B2 :=
  ej_cmpI ha hb op_gt (fun _ => .bl _) (nomark _)
theorem ej_ge {i j : Int} (ha : EJ X Γ B a (.da (.int i)) B1) (hb : EJ X Γ B1 b (.da (.int j)) B2) : EJ X Γ B (.Compare a [.GtE] [b] pos) (.da (.bool (decide (j ≤ i)))) B2 :=
  ej_cmpI ha hb op_ge (fun _ => .bl _) (nomark _)
theorem ej_eq {x y : PyData} (hu : X.A.units + 64 < cLine) (ha : EJ X Γ B a (.da x) B1) (hb : EJ X Γ B1 b (.da y) B2) (hx : SeqAt.shaped x = true) (hy : SeqAt.shaped y = true) :
    EJ X Γ B (.Compare a [.Eq] [b] pos) (.da (.bool (PyData.eqv x y))) B2 :=
  ej_bin ha hb (fun _ _ h1 h2 => pe_cmpR (op_eqD hu) h1 h2 (nomark _)) fun g v w H0 H O r1 r2 Q q =>
    ⟨x, y, (Rp.mono O.ex r1).dp (nd_shaped hx), (Rp.mono O.ex r2).dp (nd_shaped hy), hx, hy, q _ H0 H To.refl O (Rp.bl _)⟩
theorem ej_eqI {i j : Int} (hu : X.A.units + 64 < cLine) (ha : EJ X Γ B a (.da (.int i)) B1) (hb : EJ X Γ B1 b (.da (.int j)) B2) : EJ X Γ B (.Compare a [.Eq] [b] pos) (.da (.bool (decide (i = j)))) B2 := by
  have h := ej_eq (pos := pos) hu ha hb rfl rfl
  have e : PyData.eqv (.int i) (.int j) = decide (i = j) := by simp only [PyData.eqv]; exact Bool.beq_eq_decide_eq i j
  rw [e] at h; exact h
theorem ej_eqS {i j : Str} (ha : EJ X Γ B a (.da (.str i)) B1) (hb : EJ X Γ B1 b (.da (.str j)) B2) : EJ X Γ B (.Compare a [.Eq] [b] pos) (.da (.bool (decide (i = j)))) B2 :=
  ej_bin ha hb (fun _ _ h1 h2 => pe_cmpR op_eq h1 h2 (nomark _)) fun g v w H0 H O r1 r2 Q q => by
    rw [rvS r1, rvS r2]
    have e : decide (V.str i = V.str j) = decide (i = j) := by
      by_cases h : i = j
      · subst h; simp
      · rw [decide_eq_false h, decide_eq_false fun z => h (V.str.inj z)]
    refine ⟨rfl, ?_⟩
    rw [e]; exact q _ H0 H To.refl O (Rp.bl _)
theorem ej_ixT {ds : List PyData} {i : Int} {y : PyData} (ha : EJ X Γ B a (.da (.tuple ds)) B1) (hb : EJ X Γ B1 b (.da (.int i)) B2) (h : atI ds i = some y) (hs : PlainIx b) :
    EJ X Γ B (.Subscript a b pos) (.da y) B2 :=
  ej_bin ha hb (fun _ _ h1 h2 => pe_ix ix_tup h1 h2 hs) fun g v w H0 H O r1 r2 Q q => by
    obtain ⟨p, xs, rfl, hx, rs⟩ := rvT r1
    obtain ⟨j, h1, h2⟩ := Option.bind_eq_some_iff.mp h
    rw [← rs.length] at h1
    obtain ⟨z, h3, h4⟩ := rs.getD h2
    exact ⟨p, xs, i, z, rfl, rvI r2, seqT O.ex hx, Option.bind_eq_some_iff.mpr ⟨j, h1, h3⟩, q z H0 H To.refl O h4⟩
theorem ej_ixL {ds : List PyData} {i : Int} {y : PyData} (ha : EJ X Γ B a (.da (.list ds)) B1) (hb : EJ X Γ B1 b (.da (.int i)) B2) (h : atI ds i = some y) (hs : PlainIx b) :
    EJ X Γ B (.Subscript a b pos) (.da y) B2 :=
  ej_bin ha hb (fun _ _ h1 h2 => pe_ix ix_list h1 h2 hs) fun g v w H0 H O r1 r2 Q q => by
    obtain ⟨p, xs, rfl, hx, rs⟩ := rvL r1
    obtain ⟨j, h1, h2⟩ := Option.bind_eq_some_iff.mp h
    rw [← rs.length] at h1
    obtain ⟨z, h3, h4⟩ := rs.getD h2
    exact ⟨p, xs, i, z, rfl, rvI r2, SqL.of (O.ex _ _ hx), Option.bind_eq_some_iff.mpr ⟨j, h1, h3⟩, q z H0 H To.refl O h4⟩
theorem aj_nil : AJ X Γ B [] [] B := fun g σ H0 H _ O Q q => ⟨_, pa_nil, q [] H0 H To.refl O trivial⟩
theorem aj_cons {ds : List VD} (h : EJ X Γ B e d B1) (r : AJ X Γ B1 es ds B2) (hs : starEach (e :: es) X.env = (false, eval e X.env) :: starEach es X.env := by rfl) :
    AJ X Γ B (e :: es) (d :: ds) B2 := fun g σ H0 H E O Q q =>
  ⟨_, pa_cons (we e) (wa es) hs, h g σ H0 H E O _ fun v H1 H' t o rv => r g σ H1 H' (E.mono t.ex) o _ fun vs H2 H'' t2 o2 rs => q (v :: vs) H2 H'' (t.trans t2) o2 ⟨rv.mono t2.ex, rs⟩⟩
theorem RvAll.dat {K : PySem.W.Frag} {g : Gh} {H0 : Hp} : ∀ {vs : List V} {ds : List PyData}, RvAll K g H0 vs (ds.map .da) → RpAll K H0 vs ds
  | [], [], _ => .nil
  | _ :: _, _ :: _, h => .cons h.1 (RvAll.dat h.2)
  | [], _ :: _, h => h.elim
  | _ :: _, [], h => h.elim
theorem ej_tup {ds : List PyData} {k} (h : AJ X Γ B es (ds.map .da) B1) (hl : ds.length ≤ 1000) : EJ X Γ B (.Tuple es k pos) (.da (.tuple ds)) B1 := fun g σ H0 H E O Q q =>
  ⟨_, pe_tup (wa es), h g σ H0 H E O _ fun vs H1 H' t o rs => by
    have rs := RvAll.dat rs
    refine ⟨by rw [rs.length]; exact Nat.le_of_lt (small1000 hl), fun p n => ?_⟩
    obtain ⟨t2, o2⟩ := laid (o := .tup vs) o n
    exact q _ _ _ (t.trans t2) o2 (Rp.tup (SqT.of upd_same) (rs.mono t2.ex))⟩
theorem ej_lst {ds : List PyData} (h : AJ X Γ B es (ds.map .da) B1) (hl : ds.length ≤ 1000) : EJ X Γ B (.List es pos) (.da (.list ds)) B1 := fun g σ H0 H E O Q q =>
  ⟨_, pe_lst (wa es), h g σ H0 H E O _ fun vs H1 H' t o rs => by
    have rs := RvAll.dat rs
    refine ⟨by rw [rs.length]; exact Nat.le_of_lt (small1000 hl), fun p n => ?_⟩
    obtain ⟨t2, o2⟩ := laid (o := .lst vs) o n
    exact q _ _ _ (t.trans t2) o2 (Rp.lst upd_same (rs.mono t2.ex))⟩
theorem ej_catL {ds es' : List PyData} (ha : EJ X Γ B a (.da (.list ds)) B1) (hb : EJ X Γ B1 b (.da (.list es')) B2) (hl : ds.length + es'.length ≤ 1000) :
    EJ X Γ B (.BinOp a .Add b pos) (.da (.list (ds ++ es'))) B2 :=
  ej_bin ha hb (fun _ _ h1 h2 => pe_op op_cat h1 h2) fun g v w H0 H O r1 r2 Q q => by
    obtain ⟨p, xs, rfl, hx, rs⟩ := rvL r1
    obtain ⟨p2, ys, rfl, hy, rs2⟩ := rvL r2
    refine ⟨p, p2, xs, ys, rfl, rfl, O.ex _ _ hx, O.ex _ _ hy, by rw [rs.length, rs2.length]; exact Nat.le_of_lt (small1000 hl), fun n hn => ?_⟩
    obtain ⟨t2, o2⟩ := laid (o := .lst (xs ++ ys)) O hn
    exact q _ _ _ t2 o2 (Rp.lst upd_same ((rs.app rs2).mono t2.ex))
theorem ej_catT {ds es' : List PyData} (ha : EJ X Γ B a (.da (.tuple ds)) B1) (hb : EJ X Γ B1 b (.da (.tuple es')) B2) (hl : ds.length + es'.length ≤ 1000) :
    EJ X Γ B (.BinOp a .Add b pos) (.da (.tuple (ds ++ es'))) B2 :=
  ej_bin ha hb (fun _ _ h1 h2 => pe_op op_catA h1 h2) fun g v w H0 H O r1 r2 Q q => by
    obtain ⟨p, xs, rfl, hx, rs⟩ := rvT r1
    obtain ⟨p2, ys, rfl, hy, rs2⟩ := rvT r2
    refine ⟨p, p2, xs, ys, rfl, rfl, seqT O.ex hx, seqT O.ex hy, by rw [rs.length, rs2.length]; exact Nat.le_of_lt (small1000 hl), fun e => ?_, fun _ e => ?_, fun _ _ n hn => ?_⟩
    · subst e
      cases rs
      exact q _ _ _ To.refl O (Rp.tup hy rs2)
    · subst e
      cases rs2
      rw [List.append_nil] at q
      exact q _ _ _ To.refl O (Rp.tup hx rs)
    · obtain ⟨t2, o2⟩ := laid (o := .tup (xs ++ ys)) O hn
      exact q _ _ _ t2 o2 (Rp.tup (SqT.of upd_same) ((rs.app rs2).mono t2.ex))
end
end Gd
namespace Gd
open PySem PySem.Spec PyProof.Rows L2
structure FnG (P : Program) (w : World) (K : PySem.W.Frag) (mg : Str → Option Value)
    (base : Heap) (k : Nat) (f : Addr) (fd : FuncData) (ps : List Str) (sp : Sp) : Prop where
  len : ∀ vs H Q E, sp vs H Q E → List.length vs = ps.length
  run : ∀ (A : Around) (out : List Env) (s : Shared) (H : Hp) (args : Args) (us : List Value) (vs : List V) (Q : VK) (E : XK),
    A.guards = some [] → Room k A → Env0 P w K mg base A out s H → BindsTo s fd args (ps.zip us) →
    Vals vs us → sp vs H Q E → codeAny (model P w) A (.call (.ref f) args) (CR CX0 out P w H s Q E) s
theorem FnG.le {P : Program} {w : World} {K : PySem.W.Frag} {mg : Str → Option Value} {base : Heap} {j k : Nat} {f : Addr} {fd : FuncData} {ps : List Str} {sp : Sp}
    (F : FnG P w K mg base j f fd ps sp) (h : j ≤ k) : FnG P w K mg base k f fd ps sp :=
  ⟨F.len, fun A o s H ar us vs Q E hg hr => F.run A o s H ar us vs Q E hg (hr.mono h)⟩
structure Gx (k : Nat) (X : Cx) : Prop where
  gd : X.A.guards = some []
  rm : Room k X.A
  nd : X.N.Nodup
  calm : X.calm = true
theorem Gx.hu {k : Nat} {X : Cx} (g : Gx k X) : X.A.units + 64 < cLine := g.rm.units
theorem Gx.le {j k : Nat} {X : Cx} (g : Gx k X) (h : j ≤ k) : Gx j X := ⟨g.gd, g.rm.mono h, g.nd, g.calm⟩
theorem runG {X : Cx} {k : Nat} {f : Addr} {fd : FuncData} {ps : List Str} {sp : Sp} {E : XK} {pins : List (Addr × Obj)} {σ : L2.St} {H : Hp} {s : Shared}
    {Q : VK} {us : List Value} {vs : List V} (F : FnG X.prog X.w X.K X.mg X.base k f fd ps sp) (g : Gx k X) (hb : Binds X.K fd ps [])
    (I : Inv X pins σ H s) (r : Vals vs us) (h : sp vs H Q E) : wpAny (model X.prog X.w) X.A (call (.ref f) us) (EP X pins σ Q) X.xe s := by
  have e : us.length = ps.length := r.length.symm.trans (F.len _ _ _ _ h)
  have hz := hb s us I.kIn (by rw [List.append_nil]; exact e)
  rw [List.append_nil] at hz
  have cc := F.run X.A X.stack s H ⟨us, []⟩ us vs Q E g.gd g.rm I.env0 hz r h
  refine wpAny_call (codeAny_mono cc fun res s2 q => ?_)
  match res, q with
  | .ok (.ret _), q => exact I.after q
  | .ok .next, q => exact q.elim
  | .ok .brk, q => exact q.elim
  | .ok .cont, q => exact q.elim
  | .error _, q => exact q.elim
theorem fnG_of {P : Program} {w : World} {K : PySem.W.Frag} {mg : Str → Option Value} {base : Heap} {x qual : Str} {st : Stmt} {f : Addr} {fd : FuncData}
    {N ps : List Str} {k : Nat} {sp : Sp} (F : Fun K x qual st f fd) (S : FnScope N ps (defScope st)) (len : ∀ vs H Q E, sp vs H Q E → vs.length = ps.length)
    (body : ∀ (cdv : Value) (A : Around) (out : List Env) (s : Shared) (H : Hp) (vs : List V) (Q : VK) (E : XK),
      Gx k (cxOf CX0 P w K mg base N qual (defScope st) f cdv A out s H E).nox → sp vs H Q E →
      WS (cxOf CX0 P w K mg base N qual (defScope st) f cdv A out s H E).nox (defBody st) { nx := fun _ H' => Q .non H', rt := Q } (L2.start N vs) H) :
    FnG P w K mg base (k + 1) f fd ps sp := by
  obtain ⟨c1, c2, c3, c4, c5, c6, cdv, c8, c9, rfl, lk, hcd⟩ := F.ex
  refine ⟨len, ?_⟩
  intro A out s H args us vs Q E hg hr e0 hb r hsp
  have up : ∀ b o, base.get? b = some o → s.heap.get? b = some o := fun b o e => (e0.bs b o e).1
  have KX : K.In s.heap := e0.mod.kin.keeps up
  have lim : s.heap.NoLimit := e0.mod.nolimit.keeps up
  have kinds : ∀ y ∈ ps.zip us, (defScope st).names.lookup y.1 = some .local ∨
      ((defScope st).names.lookup y.1 = some .cell ∧ ((cellsFrom (s.heap.objs.size + 1) (defScope st).names []).lookup y.1).isSome = true) := by
    rintro ⟨n, v⟩ hy
    cases S.par n (List.of_mem_zip hy).1 with
    | inl q => exact .inl q
    | inr q => exact .inr ⟨q, PySem.W.cellsFrom_some _ _ _ (.inl q)⟩
  have recd := PySem.W.codeRec_of KX hcd
  refine codeAny_call_function hr.depth (KX _ _ lk) rfl S.co S.gen rfl recd (hb _ _ _ _ ?_)
  refine wpAny_newFunctionEnv_cells S.kind kinds fun env he s1 x1 => ?_
  subst he
  refine ⟨lim.keeps x1.toInCall.keep, codeAny_func ?_⟩
  have I := inv_start (CX := CX0) (E := E) (qual := qual) (f := f) (cd := cdv) S hr.hd e0 (len _ _ _ _ hsp) r x1
  have G : Gx k (cxOf CX0 P w K mg base N qual (defScope st) f cdv A out s H E).nox := ⟨hg, hr.deeper _, S.nd, rfl⟩
  obtain ⟨t, ht, hq⟩ := body cdv A out s H vs Q E G hsp
  refine wpAny_mono (ht.nox.run [] s1 (L2.start N vs) H _ I hq) (fun fl s2 q => ?_) (fun _ _ q => q)
  match fl, q with
  | .ret u, ⟨v, σ', H', J, rv, q⟩ => exact ⟨v, H', J.os, J.bare, J.base, J.hok, rv, q⟩
  | .next, ⟨σ', H', J, q⟩ => exact ⟨.non, H', J.os, J.bare, J.base, J.hok, rfl, q⟩
  | .brk, ⟨_, _, _, q⟩ => exact q.elim
  | .cont, ⟨_, _, _, q⟩ => exact q.elim
abbrev Rel := List VD → Bag → PyData → Bag → Prop
def DefSp (K : PySem.W.Frag) (R : Rel) : Sp := fun vs H Q _ =>
  ∃ g Γ B H0 r B', RvAll K g H0 vs Γ ∧ On K g B H0 H ∧ R Γ B r B' ∧
    ∀ v H0' H', To g H0 H H0' H' → On K g B' H0' H' → Rp K H0' v r → Q v H'
def Cal (P : Program) (w : World) (K : PySem.W.Frag) (mg : Str → Option Value) (base : Heap) (x : Str) (k : Nat) (R : Rel) : Prop :=
  ∃ f fd ps, FnG P w K mg base k f fd ps (DefSp K R) ∧ mg x = some (.ref f) ∧ PySem.W.keepIn K (.ref f) = true ∧ Binds K fd ps []
theorem Cal.imp {P : Program} {w : World} {K : PySem.W.Frag} {mg : Str → Option Value} {base : Heap} {x : Str} {k : Nat} {R R' : Rel}
    (c : Cal P w K mg base x k R) (h : ∀ Γ B r B', R' Γ B r B' → R Γ B r B') : Cal P w K mg base x k R' := by
  obtain ⟨f, fd, ps, F, h1, h2, h3⟩ := c
  refine ⟨f, fd, ps, ⟨?_, ?_⟩, h1, h2, h3⟩
  · rintro vs H Q E ⟨g, Γ, B, H0, r, B', a, b, c, d⟩
    exact F.len vs H Q E ⟨g, Γ, B, H0, r, B', a, b, h _ _ _ _ c, d⟩
  · intro A o s H ar us vs Q E q1 q2 q3 q4 q5 ⟨g, Γ, B, H0, r, B', a, b, c, d⟩
    exact F.run A o s H ar us vs Q E q1 q2 q3 q4 q5 ⟨g, Γ, B, H0, r, B', a, b, h _ _ _ _ c, d⟩
theorem start_env {K : PySem.W.Frag} {g : Gh} {H0 : Hp} {N : List Str} {vs : List V} {Γ : List VD} (h : RvAll K g H0 vs Γ) (hl : Γ.length ≤ N.length) :
    EnvD K g H0 (L2.start N vs) (Γ ++ List.replicate (N.length - Γ.length) .no) := by
  have e := h.length
  refine ⟨?_, ?_⟩
  · unfold L2.start; rw [List.length_append, List.length_append, List.length_map, List.length_replicate, List.length_replicate]; omega
  · have : ∀ (vs : List V) (Γ : List VD) (m n : Nat), RvAll K g H0 vs Γ → ∀ (i : Nat) (d : VD), (Γ ++ List.replicate m .no)[i]? = some d → d ≠ .no →
        ∃ v : V, (vs.map some ++ List.replicate n (none : Option V))[i]? = some (some v) ∧ Rv K g H0 v d := by
      intro vs
      induction vs with
      | nil =>
        intro Γ m n h i d h1 h2
        cases Γ with
        | nil =>
          rw [List.nil_append, List.getElem?_replicate] at h1
          split at h1
          · cases h1; exact absurd rfl h2
          · cases h1
        | cons _ _ => exact h.elim
      | cons v vs ih =>
        intro Γ m n h i d h1 h2
        cases Γ with
        | nil => exact h.elim
        | cons d' Γ =>
          cases i with
          | zero => cases h1; exact ⟨v, rfl, h.1⟩
          | succ i => exact ih Γ m n h.2 i d h1 h2
    unfold L2.start
    exact this vs Γ _ _ h
theorem cal_of {P : Program} {w : World} {K : PySem.W.Frag} {mg : Str → Option Value} {base : Heap} {x qual : Str} {st : Stmt} {f : Addr} {fd : FuncData}
    {N ps : List Str} {k : Nat} {R : Rel} (F : Fun K x qual st f fd) (hm : mg x = some (.ref f)) (hb : Binds K fd ps []) (S : FnScope N ps (defScope st))
    (len : ∀ Γ B r B', R Γ B r B' → Γ.length = ps.length)
    (body : ∀ (cdv : Value) (A : Around) (out : List Env) (s : Shared) (H : Hp) (E : XK),
      Gx k (cxOf CX0 P w K mg base N qual (defScope st) f cdv A out s H E).nox → ∀ Γ B r B', R Γ B r B' →
      SJ (cxOf CX0 P w K mg base N qual (defScope st) f cdv A out s H E).nox (Γ ++ List.replicate (N.length - ps.length) .no) B (defBody st)
        { nx := fun _ B2 => r = .none ∧ B2 = B', rt := fun d B2 => d = r ∧ B2 = B' }) :
    Cal P w K mg base x (k + 1) R := by
  have hpl : ps.length ≤ N.length := by
    have := congrArg List.length S.pre
    rw [List.length_take] at this; omega
  refine ⟨f, fd, ps, fnG_of F S ?_ ?_, hm, F.kp, hb⟩
  · rintro vs H Q E ⟨g, Γ, B, H0, r, B', a, b, c, d⟩
    rw [a.length]; exact len _ _ _ _ c
  · intro cdv A out s H vs Q E G ⟨g, Γ, B, H0, r, B', a, b, c, d⟩
    have hl := len _ _ _ _ c
    have E0' := start_env (N := N) a (by rw [hl]; exact hpl)
    rw [hl] at E0'
    refine body cdv A out s H E G Γ B r B' c g _ H0 H E0' b _ ⟨?_, ?_, ?_, ?_⟩
    · rintro Γ2 B2 σ H1 H' ⟨rfl, rfl⟩ t _ o
      exact d _ _ _ t o .non
    · rintro r2 B2 v H1 H' ⟨rfl, rfl⟩ t o rv
      exact d _ _ _ t o rv
    · intro _ _ _ _ _ z; exact z.elim
    · intro _ _ _ _ _ z; exact z.elim
section
variable {X : Cx} {Γ : List VD} {B B1 B2 B' : Bag} {e a b c : Expr} {es : List Expr} {d da db dc : VD} {pos p pos' : Pos} {rest ss s1 s2 : List Stmt} {E : En}
theorem ej_call {x : Str} {k : Nat} {R : Rel} {ds : List VD} {r : PyData} (c : Cal X.prog X.w X.K X.mg X.base x k R) (g : Gx k X) (ha : AJ X Γ B (e :: es) ds B1) (hR : R ds B1 r B2)
    (hg : Gl X x := by rfl) (hdb : (x == ("__debug__" : Str)) = false := by decide) (he : starEach (e :: es) X.env = (false, eval e X.env) :: starEach es X.env := by rfl)
    (hpl : (backTo pos (starEach es X.env)).any (·.1) = false := by rfl) : EJ X Γ B (.Call (.Name x p) (e :: es) [] pos) (.da r) B2 := by
  obtain ⟨f, fd, ps, F, hm, hk, hb⟩ := c
  intro gh σ H0 H E O Q q
  refine ⟨fun σ H Q => WA X (e :: es) σ H fun vs H1 => DefSp X.K R vs H1 Q E0, ⟨fun pins s σ H Q I h => ?_⟩, ?_⟩
  · refine wpAny_Call_Name_kw (ld_glob I hg hm ?_ hdb)
    refine PySem.W.callWith_K (h₀ := X.base) I.ok.mod.kin hk (thn ((wa (e :: es)).run pos pins s σ H _ I h) ?_) he hpl
    rintro us s1 ⟨vs, H1, I1, r1, q1⟩
    exact ⟨I1.kIn, runG F g hb I1 r1 q1⟩
  · refine ha gh σ H0 H E O _ fun vs H1 H' t o rs => ?_
    exact ⟨gh, ds, B1, H1, r, B2, rs, o, hR, fun v H2 H'' t2 o2 rv => q v H2 H'' (t.trans t2) o2 rv⟩
theorem ej_call0 {x : Str} {k : Nat} {R : Rel} {r : PyData} (c : Cal X.prog X.w X.K X.mg X.base x k R) (g : Gx k X) (hR : R [] B r B2)
    (hg : Gl X x := by rfl) (hdb : (x == ("__debug__" : Str)) = false := by decide) : EJ X Γ B (.Call (.Name x p) [] [] pos) (.da r) B2 := by
  obtain ⟨f, fd, ps, F, hm, hk, hb⟩ := c
  intro gh σ H0 H E O Q q
  refine ⟨fun σ H Q => DefSp X.K R [] H Q E0, ⟨fun pins s σ H Q I h => ?_⟩, ?_⟩
  · refine wpAny_Call_Name_kw (ld_glob I hg hm ?_ hdb)
    exact PySem.W.callWith_K0 I.kIn hk (runG (us := []) F g hb I .nil h)
  · exact ⟨gh, [], B, H0, r, B2, trivial, O, hR, fun v H2 H'' t2 o2 rv => q v H2 H'' t2 o2 rv⟩
theorem ej_callB {x : Str} {id : String} {r : List V → Hp → VK → Prop} {ds : List VD} (hc : CallR X (.builtin id) r) (hm : X.mg x = none) (ha : AJ X Γ B (e :: es) ds B1)
    (hr : ∀ g vs H0 H, On X.K g B1 H0 H → RvAll X.K g H0 vs ds → ∀ Q : VK, (∀ z H0' H', To g H0 H H0' H' → On X.K g B1 H0' H' → Rv X.K g H0' z d → Q z H') → r vs H Q)
    (hv : bootBuiltins x = some (.builtin id) := by decide +kernel) (hg : Gl X x := by rfl) (hn : x ≠ "__name__" := by decide) (hdb : (x == ("__debug__" : Str)) = false := by decide)
    (hpl : (backTo pos (starEach es X.env)).any (·.1) = false := by rfl) (he : starEach (e :: es) X.env = (false, eval e X.env) :: starEach es X.env := by rfl) :
    EJ X Γ B (.Call (.Name x p) (e :: es) [] pos) d B1 := fun g σ H0 H E O Q q =>
  ⟨_, pe_callB hc hg hm hv (wa (e :: es)) hn hdb he hpl, ha g σ H0 H E O _ fun vs H1 H' t o rs => hr g vs H1 H' o rs Q fun z H2 H'' t2 o2 rz => q z H2 H'' (t.trans t2) o2 rz⟩
theorem ej_callTy {x : Str} {T : String} {r : List V → Hp → VK → Prop} {ds : List VD} (hc : CallR X (.type T) r) (hm : X.mg x = none) (ha : AJ X Γ B (e :: es) ds B1)
    (hr : ∀ g vs H0 H, On X.K g B1 H0 H → RvAll X.K g H0 vs ds → ∀ Q : VK, (∀ z H0' H', To g H0 H H0' H' → On X.K g B1 H0' H' → Rv X.K g H0' z d → Q z H') → r vs H Q)
    (hv : bootBuiltins x = some (.type T) := by decide +kernel) (hg : Gl X x := by rfl) (hn : x ≠ "__name__" := by decide) (hdb : (x == ("__debug__" : Str)) = false := by decide)
    (hpl : (backTo pos (starEach es X.env)).any (·.1) = false := by rfl) (he : starEach (e :: es) X.env = (false, eval e X.env) :: starEach es X.env := by rfl) :
    EJ X Γ B (.Call (.Name x p) (e :: es) [] pos) d B1 := fun g σ H0 H E O Q q =>
  ⟨_, pe_callTy hc hg hm hv (wa (e :: es)) hn hdb he hpl, ha g σ H0 H E O _ fun vs H1 H' t o rs => hr g vs H1 H' o rs Q fun z H2 H'' t2 o2 rz => q z H2 H'' (t.trans t2) o2 rz⟩
theorem rv1 {K : PySem.W.Frag} {g : Gh} {H0 : Hp} {vs : List V} {d : VD} (h : RvAll K g H0 vs [d]) : ∃ v, vs = [v] ∧ Rv K g H0 v d := by
  match vs, h with
  | [v], h => exact ⟨v, rfl, h.1⟩
theorem rv2 {K : PySem.W.Frag} {g : Gh} {H0 : Hp} {vs : List V} {d d' : VD} (h : RvAll K g H0 vs [d, d']) : ∃ v v', vs = [v, v'] ∧ Rv K g H0 v d ∧ Rv K g H0 v' d' := by
  match vs, h with
  | [v, v'], h => exact ⟨v, v', rfl, h.1, h.2.1⟩
theorem ej_abs {i : Int} (hm : X.mg "abs" = none) (ha : EJ X Γ B a (.da (.int i)) B1) (hs : starEach [a] X.env = [(false, eval a X.env)] := by rfl) (hg : Gl X "abs" := by rfl) :
    EJ X Γ B (.Call (.Name "abs" p) [a] [] pos) (.da (.int (if i < 0 then -i else i))) B1 :=
  ej_callB call_abs hm (aj_cons ha aj_nil hs) (fun g vs H0 H O r Q q => by
    obtain ⟨v, rfl, h⟩ := rv1 r
    exact ⟨i, by rw [rvI h], q _ _ _ To.refl O (Rp.int _)⟩) (hg := hg) (he := hs)
theorem ej_int1 {i : Int} (hm : X.mg "int" = none) (ha : EJ X Γ B a (.da (.int i)) B1) (hs : starEach [a] X.env = [(false, eval a X.env)] := by rfl) (hg : Gl X "int" := by rfl) :
    EJ X Γ B (.Call (.Name "int" p) [a] [] pos) (.da (.int i)) B1 :=
  ej_callTy call_int1 hm (aj_cons ha aj_nil hs) (fun g vs H0 H O r Q q => by
    obtain ⟨v, rfl, h⟩ := rv1 r
    exact .inl ⟨i, by rw [rvI h], q _ _ _ To.refl O (Rp.int _)⟩) (hg := hg) (he := hs)
theorem ej_lenL {ds : List PyData} (hm : X.mg "len" = none) (ha : EJ X Γ B a (.da (.list ds)) B1) (hs : starEach [a] X.env = [(false, eval a X.env)] := by rfl) (hg : Gl X "len" := by rfl) :
    EJ X Γ B (.Call (.Name "len" p) [a] [] pos) (.da (.int ds.length)) B1 :=
  ej_callB call_len_seq hm (aj_cons ha aj_nil hs) (fun g vs H0 H O r Q q => by
    obtain ⟨v, rfl, h⟩ := rv1 r
    obtain ⟨p, xs, rfl, hx, rs⟩ := rvL h
    refine ⟨p, xs, rfl, .inl (SqL.of (O.ex _ _ hx)), ?_⟩
    rw [rs.length]; exact q _ _ _ To.refl O (Rp.int _)) (hg := hg) (he := hs)
theorem ej_lenT {ds : List PyData} (hm : X.mg "len" = none) (ha : EJ X Γ B a (.da (.tuple ds)) B1) (hs : starEach [a] X.env = [(false, eval a X.env)] := by rfl) (hg : Gl X "len" := by rfl) :
    EJ X Γ B (.Call (.Name "len" p) [a] [] pos) (.da (.int ds.length)) B1 :=
  ej_callB call_len_seq hm (aj_cons ha aj_nil hs) (fun g vs H0 H O r Q q => by
    obtain ⟨v, rfl, h⟩ := rv1 r
    obtain ⟨p, xs, rfl, hx, rs⟩ := rvT h
    refine ⟨p, xs, rfl, .inr (seqT O.ex hx), ?_⟩
    rw [rs.length]; exact q _ _ _ To.refl O (Rp.int _)) (hg := hg) (he := hs)
structure Shows (d : PyData) : Prop where
  sh : d.showable = true
  nd : d.hasDict = false
  dp : d.depth ≤ 60
  len : d.shown.length ≤ sizeLine
theorem call_repr {k : Nat} (g : Gx k X) : CallR X (.builtin "repr") (fun xs H Q => ∃ x d, xs = [x] ∧ Dp X.K H x d ∧ (∃ p, x = .ref p) ∧ Shows d ∧ Q (.str d.shown) H) := by
  intro pins s σ H xs us Q I rr h
  obtain ⟨x, d, rfl, hd, ⟨p, rfl⟩, S, q⟩ := h
  obtain ⟨u, rfl, rx⟩ := vals1 rr
  cases (show u = Value.ref p from rx)
  obtain ⟨as, rd⟩ := Dp.reads I d (.ref p) (.ref p) hd rfl
  have hu := g.rm.un
  refine repr_of_reads' rd S.sh (fun z => by rw [S.nd] at z; cases z) g.gd (by have := S.dp; omega) (fun _ _ e => e) (fun h' u tk kp => ?_) S.len
  exact ⟨.str d.shown, H, I.kept (t' := tk) kp, ⟨u, rfl⟩, q⟩
def boxed : PyData → Bool
  | .list _ => true
  | .tuple _ => true
  | _ => false
theorem ej_repr {k : Nat} {y : PyData} (g : Gx k X) (hm : X.mg "repr" = none) (ha : EJ X Γ B a (.da y) B1) (hb : boxed y = true) (S : Shows y)
    (hs : starEach [a] X.env = [(false, eval a X.env)] := by rfl) (hg : Gl X "repr" := by rfl) :
    EJ X Γ B (.Call (.Name "repr" p) [a] [] pos) (.da (.str y.shown)) B1 :=
  ej_callB (call_repr g) hm (aj_cons ha aj_nil hs) (fun gh vs H0 H O r Q q => by
    obtain ⟨v, rfl, h⟩ := rv1 r
    have h : Rp X.K H0 v y := h
    refine ⟨v, y, rfl, (h.mono O.ex).dp S.nd, ?_, S, q _ _ _ To.refl O (Rp.str _)⟩
    cases h with
    | lst _ _ => exact ⟨_, rfl⟩
    | tup _ _ => exact ⟨_, rfl⟩
    | non => cases hb
    | bl _ => cases hb
    | int _ => cases hb
    | str _ => cases hb
    | dct _ => cases hb
    | dctT _ _ => cases hb) (hg := hg) (he := hs)
theorem tj_val {x : Bool} (h : EJ X Γ B e (.da (.bool x)) B1) (he : ∀ whole, isTrue e X.env whole = (do let v ← whole; standAt e.pos; holding [v] (truthy v)) := by intro _; rfl) :
    TJ X Γ B e x B1 := fun g σ H0 H E O Q q => ⟨_, pt_val (we e) he, h g σ H0 H E O _ fun v H1 H' t o r => ⟨x, rvB r, q H1 H' t o⟩⟩
theorem tj_cmp {op : CmpOp} {x : Bool} {r : R2} (ha : EJ X Γ B a da B1) (hb : EJ X Γ B1 b db B2) (ho : OpR X (compareOp op) r) (hm : behindInMarks op b = false)
    (hr : ∀ g v w H0 H, On X.K g B2 H0 H → Rv X.K g H0 v da → Rv X.K g H0 w db → ∀ Q : VK, (∀ H0' H', To g H0 H H0' H' → On X.K g B2 H0' H' → Q (.bl x) H') → r v w H Q) :
    TJ X Γ B (.Compare a [op] [b] pos) x B2 := fun g σ H0 H E O Q q =>
  ⟨_, pt_cmpR ho (we a) (we b) hm, ha g σ H0 H E O _ fun v H1 H' t o rv => hb g σ H1 H' (E.mono t.ex) o _ fun w H2 H'' t2 o2 rw' =>
    hr g v w H2 H'' o2 (rv.mono t2.ex) rw' _ fun H3 H3' t3 o3 => ⟨x, rfl, q H3 H3' ((t.trans t2).trans t3) o3⟩⟩
theorem tj_cmpI {i j : Int} {z : Int → Int → V} {y : Bool} {op : CmpOp} (ha : EJ X Γ B a (.da (.int i)) B1) (hb : EJ X Γ B1 b (.da (.int j)) B2)
    (ho : OpR X (compareOp op) (rI0 z)) (hz : z i j = .bl y) (hm : behindInMarks op b = false) : TJ X Γ B (.Compare a [op] [b] pos) y B2 :=
  tj_cmp ha hb ho hm fun g v w H0 H O r1 r2 Q q => ⟨i, j, rvI r1, rvI r2, by rw [hz]; exact q H0 H To.refl O⟩
theorem tj_lt {i j : Int} (ha : EJ X Γ B a (.da (.int i)) B1) (hb : EJ X Γ B1 b (.da (.int j)) B2) : TJ X Γ B (.Compare a [.Lt] [b] pos) (decide (i < j)) B2 := tj_cmpI ha hb op_lt rfl (nomark _)
theorem tj_gt {i j : Int} (ha : EJ X Γ B a (.da (.int i)) B1) (hb : EJ X Γ B1 b (.da (.int j)) B2) : TJ X Γ B (.Compare a [.Gt] [b] pos) (decide (j < i)) B2 := tj_cmpI ha hb op_gt rfl (nomark _)
theorem tj_ge {i j : Int} (ha : EJ X Γ B a (.da (.int i)) B1) (hb : EJ X Γ B1 b (.da (.int j)) B2) : TJ X Γ B (.Compare a [.GtE] [b] pos) (decide (j ≤ i)) B2 := tj_cmpI ha hb op_ge rfl (nomark _)
theorem tj_eq {x y : PyData} (hu : X.A.units + 64 < cLine) (ha : EJ X Γ B a (.da x) B1) (hb : EJ X Γ B1 b (.da y) B2) (hx : SeqAt.shaped x = true) (hy : SeqAt.shaped y = true) :
    TJ X Γ B (.Compare a [.Eq] [b] pos) (PyData.eqv x y) B2 :=
  tj_cmp ha hb (op_eqD hu) (nomark _) fun g v w H0 H O r1 r2 Q q => ⟨x, y, (Rp.mono O.ex r1).dp (nd_shaped hx), (Rp.mono O.ex r2).dp (nd_shaped hy), hx, hy, q H0 H To.refl O⟩
theorem tj_ne {x y : PyData} (hu : X.A.units + 64 < cLine) (ha : EJ X Γ B a (.da x) B1) (hb : EJ X Γ B1 b (.da y) B2) (hx : SeqAt.shaped x = true) (hy : SeqAt.shaped y = true) :
    TJ X Γ B (.Compare a [.NotEq] [b] pos) (!PyData.eqv x y) B2 :=
  tj_cmp ha hb (op_neD hu) (nomark _) fun g v w H0 H O r1 r2 Q q => ⟨x, y, (Rp.mono O.ex r1).dp (nd_shaped hx), (Rp.mono O.ex r2).dp (nd_shaped hy), hx, hy, q H0 H To.refl O⟩
theorem eqv_int (i j : Int) : PyData.eqv (.int i) (.int j) = decide (i = j) := by
  simp only [PyData.eqv]; exact Bool.beq_eq_decide_eq i j
theorem tj_eqI {i j : Int} (hu : X.A.units + 64 < cLine) (ha : EJ X Γ B a (.da (.int i)) B1) (hb : EJ X Γ B1 b (.da (.int j)) B2) : TJ X Γ B (.Compare a [.Eq] [b] pos) (decide (i = j)) B2 := by
  rw [← eqv_int]; exact tj_eq hu ha hb rfl rfl
theorem tj_neI {i j : Int} (hu : X.A.units + 64 < cLine) (ha : EJ X Γ B a (.da (.int i)) B1) (hb : EJ X Γ B1 b (.da (.int j)) B2) : TJ X Γ B (.Compare a [.NotEq] [b] pos) (!decide (i = j)) B2 := by
  rw [← eqv_int]; exact tj_ne hu ha hb rfl rfl
theorem tj_is {x y : Bool} (h : TJ X Γ B e x B1) (hxy : x = y) : TJ X Γ B e y B1 := hxy ▸ h
theorem ej_is {x y : PyData} (h : EJ X Γ B e (.da x) B1) (hxy : x = y) : EJ X Γ B e (.da y) B1 := hxy ▸ h
theorem tj_not {x : Bool} (h : TJ X Γ B e x B1) : TJ X Γ B (.UnaryOp .Not e pos) (!x) B1 := fun g σ H0 H E O Q q =>
  ⟨_, pt_not (wt e), h g σ H0 H E O _ fun H1 H' t o => q H1 H' t o⟩
def WW (X : Cx) (e : Expr) : TT := fun σ H Q => ∃ t, PW X e t ∧ t σ H Q
theorem ww {X : Cx} (e : Expr) : PW X e (WW X e) := ⟨fun w p s σ H Q I ⟨_, ht, h⟩ => ht.run w p s σ H Q I h⟩
def WJ (X : Cx) (Γ : List VD) (B : Bag) (e : Expr) (b : Bool) (B' : Bag) : Prop :=
  ∀ g σ H0 H, EnvD X.K g H0 σ Γ → On X.K g B H0 H → ∀ Q : Bool → Hp → Prop, (∀ H0' H', To g H0 H H0' H' → On X.K g B' H0' H' → Q b H') → WW X e σ H Q
theorem tj_w {x : Bool} (h : WJ X Γ B e x B1) : TJ X Γ B e x B1 := fun g σ H0 H E O Q q => let ⟨t, h1, h2⟩ := h g σ H0 H E O Q q; ⟨t, h1.pt, h2⟩
theorem wj_and1 {x : Bool} (h : TJ X Γ B e x B1) : WJ X Γ B (.BoolOp .And [e] pos) x B1 := fun g σ H0 H E O Q q => ⟨_, pw_and1 (wt e), h g σ H0 H E O Q q⟩
theorem wj_or1 {x : Bool} (h : TJ X Γ B e x B1) : WJ X Γ B (.BoolOp .Or [e] pos) x B1 := fun g σ H0 H E O Q q => ⟨_, pw_or1 (wt e), h g σ H0 H E O Q q⟩
theorem wj_or {x y : Bool} (h : TJ X Γ B e x B) (hr : x = false → WJ X Γ B (.BoolOp .Or (a :: es) pos) y B) : WJ X Γ B (.BoolOp .Or (e :: a :: es) pos) (x || y) B := fun g σ H0 H E O Q q =>
  ⟨_, pw_or (wt e) (ww _), h g σ H0 H E O _ fun H1 H' t o => by
    cases x with
    | true => exact iteT (q H1 H' t o)
    | false => exact iteF (hr rfl g σ H1 H' (E.mono t.ex) o Q fun H2 H'' t2 o2 => q H2 H'' (t.trans t2) o2)⟩
theorem ej_one {op} (h : EJ X Γ B e d B1) : EJ X Γ B (.BoolOp op [e] pos) d B1 := fun g σ H0 H E O Q q => ⟨_, pe_one (we e), h g σ H0 H E O Q q⟩
theorem ej_and {x y : Bool} (h : EJ X Γ B e (.da (.bool x)) B1) (hr : x = true → EJ X Γ B1 (.BoolOp .And (a :: es) pos) (.da (.bool y)) B1) : EJ X Γ B (.BoolOp .And (e :: a :: es) pos) (.da (.bool (x && y))) B1 := fun g σ H0 H E O Q q =>
  ⟨_, pe_and (we e) (we _), h g σ H0 H E O _ fun v H1 H' t o r => ⟨x, rvB r, by
    cases x with
    | true => exact iteT (hr rfl g σ H1 H' (E.mono t.ex) o Q fun z H2 H'' t2 o2 r2 => q z H2 H'' (t.trans t2) o2 r2)
    | false => exact iteF (q _ H1 H' t o (Rp.bl _))⟩⟩
theorem ej_not {x : Bool} (h : EJ X Γ B e (.da (.bool x)) B1) : EJ X Γ B (.UnaryOp .Not e pos) (.da (.bool (!x))) B1 := fun g σ H0 H E O Q q =>
  ⟨_, pe_not (we e), h g σ H0 H E O _ fun v H1 H' t o r => ⟨x, rvB r, q _ H1 H' t o (Rp.bl _)⟩⟩
theorem ej_if {x : Bool} (h : TJ X Γ B c x B1) (h1 : x = true → EJ X Γ B1 a d B2) (h2 : x = false → EJ X Γ B1 b d B2) : EJ X Γ B (.IfExp c a b pos) d B2 := fun g σ H0 H E O Q q =>
  ⟨_, pe_ifExp (wt c) (we a) (we b), h g σ H0 H E O _ fun H1 H' t o => by
    cases x with
    | true => exact iteT (h1 rfl g σ H1 H' (E.mono t.ex) o Q fun z H2 H'' t2 o2 r2 => q z H2 H'' (t.trans t2) o2 r2)
    | false => exact iteF (h2 rfl g σ H1 H' (E.mono t.ex) o Q fun z H2 H'' t2 o2 r2 => q z H2 H'' (t.trans t2) o2 r2)⟩
theorem sj_nil (h : E.nx Γ B) : SJ X Γ B [] E := fun g σ H0 H Ev O D G => ⟨_, pss_nil, G.nx Γ B σ H0 H h To.refl Ev O⟩
theorem sj_ret (h : EJ X Γ B e (.da da') B1) (hr : E.rt da' B1) : SJ X Γ B (.Return (some e) pos :: rest) E := fun g σ H0 H Ev O D G =>
  ⟨_, pss_cons (ps_ret (we e)) (ws rest), h g σ H0 H Ev O _ fun v H1 H' t o r => G.rt _ B1 v H1 H' hr t o r⟩
theorem sj_set (i : Nat) {x : Str} (nd : X.N.Nodup) (h : EJ X Γ B e d B1) (k : SJ X (Γ.set i d) B1 rest E) (hi : X.N[i]? = some x := by rfl)
    (hx : Loc X.env.scope x := by first | exact Or.inl rfl | exact Or.inr rfl) (hs : swapsWith e (some (.Name x pos')) pos.line X.env = pure false := by rfl)
    (hf : X.fn x = true ∨ X.env.scope.names.lookup x = some .local := by first | exact Or.inl rfl | exact Or.inr rfl) : SJ X Γ B (.Assign [.Name x pos'] e pos :: rest) E := fun g σ H0 H Ev O D G =>
  ⟨_, pss_cons (ps_set nd hi hx (we e) hs hf) (ws rest), h g σ H0 H Ev O _ fun v H1 H' t o r => k g _ H1 H' ((Ev.mono t.ex).set i r) o D (G.on t)⟩
theorem sj_if {x : Bool} (h : TJ X Γ B c x B1) (h1 : x = true → SJ X Γ B1 s1 { E with nx := fun Γ' B' => SJ X Γ' B' rest E }) (h2 : x = false → SJ X Γ B1 s2 { E with nx := fun Γ' B' => SJ X Γ' B' rest E }) :
    SJ X Γ B (.If c s1 s2 pos :: rest) E := fun g σ H0 H Ev O D G =>
  ⟨_, pss_cons (ps_if (wt c) (ws s1) (ws s2)) (ws rest), h g σ H0 H Ev O _ fun H1 H' t o => by
    have G' : Gets X { E with nx := fun Γ' B' => SJ X Γ' B' rest E } g H1 H' { D with nx := WS X rest D } :=
      ⟨fun Γ2 B2 σ2 H2 H'' q t2 ev o2 => q g σ2 H2 H'' ev o2 D (G.on (t.trans t2)), (G.on t).rt, (G.on t).bk, (G.on t).ct⟩
    cases x with
    | true => exact iteT (h1 rfl g σ H1 H' (Ev.mono t.ex) o _ G')
    | false => exact iteF (h2 rfl g σ H1 H' (Ev.mono t.ex) o _ G')⟩
theorem sj_when {x : Bool} (h : TJ X Γ B c x B1) (h1 : x = true → SJ X Γ B1 s1 { E with nx := fun Γ' B' => SJ X Γ' B' rest E }) (h2 : x = false → SJ X Γ B1 rest E) :
    SJ X Γ B (.If c s1 [] pos :: rest) E := sj_if h h1 fun e => sj_nil (h2 e)
theorem sj_mono {E' : En} (h : SJ X Γ B ss E) (h1 : ∀ Γ B, E.nx Γ B → E'.nx Γ B) (h2 : ∀ r B, E.rt r B → E'.rt r B) (h3 : ∀ Γ B, E.bk Γ B → E'.bk Γ B) (h4 : ∀ Γ B, E.ct Γ B → E'.ct Γ B) : SJ X Γ B ss E' :=
  fun g σ H0 H Ev O D G => h g σ H0 H Ev O D ⟨fun Γ B σ a b q => G.nx Γ B σ a b (h1 _ _ q), fun r B v a b q => G.rt r B v a b (h2 _ _ q), fun Γ B σ a b q => G.bk Γ B σ a b (h3 _ _ q), fun Γ B σ a b q => G.ct Γ B σ a b (h4 _ _ q)⟩
end
end Gd
namespace Gd
open PySem PySem.Spec PyProof.Rows L2
def cutP (ds : List PyData) (lo hi : Option Int) : List PyData := (ds.drop (HT.sIx ds.length 0 lo)).take (HT.sIx ds.length ds.length hi - HT.sIx ds.length 0 lo)
theorem RpAll.cut {K : PySem.W.Frag} {H : Hp} {xs : List V} {ds : List PyData} (r : RpAll K H xs ds) (lo hi : Option Int) : RpAll K H (cutV xs lo hi) (cutP ds lo hi) := by
  unfold cutV cutP
  rw [r.length]
  exact (r.drop _).take _
theorem RpAll.ints {K : PySem.W.Frag} {H : Hp} : ∀ ns : List Int, RpAll K H (ns.map V.int) (ns.map PyData.int)
  | [] => .nil
  | n :: ns => .cons (.int n) (RpAll.ints ns)
theorem RpAll.ints_of {K : PySem.W.Frag} {H : Hp} : ∀ {xs : List V} {ns : List Int}, RpAll K H xs (ns.map PyData.int) → xs = ns.map V.int
  | [], [], _ => rfl
  | _ :: _, n :: ns, .cons h r => by
    cases h
    rw [RpAll.ints_of r]; rfl
section
variable {X : Cx} {Γ : List VD} {B B1 B2 B3 B' : Bag} {e a b c : Expr} {es : List Expr} {d da db dc : VD} {pos p pos' : Pos} {rest ss s1 s2 : List Stmt} {E : En}
def OJ (X : Cx) (Γ : List VD) (B : Bag) (o : Option Expr) (v : Option Int) (B' : Bag) : Prop :=
  ∀ g σ H0 H, EnvD X.K g H0 σ Γ → On X.K g B H0 H → ∀ Q : Option Int → Hp → Prop,
    (∀ H0' H', To g H0 H H0' H' → On X.K g B' H0' H' → Q v H') → ∃ t, PO X o t ∧ t σ H Q
theorem oj_none : OJ X Γ B none none B := fun g σ H0 H _ O Q q => ⟨_, po_none, q H0 H To.refl O⟩
theorem oj_some {i : Int} (h : EJ X Γ B e (.da (.int i)) B1) : OJ X Γ B (some e) (some i) B1 := fun g σ H0 H E O Q q =>
  ⟨_, po_some (we e), h g σ H0 H E O _ fun v H1 H' t o r => ⟨i, rvI r, q H1 H' t o⟩⟩
def WO (X : Cx) (o : Option Expr) : TO := fun σ H Q => ∃ t, PO X o t ∧ t σ H Q
theorem wo (o : Option Expr) : PO X o (WO X o) := ⟨fun p s σ H Q I ⟨_, ht, h⟩ => ht.run p s σ H Q I h⟩
theorem ej_slice {r : V → Option Int → Option Int → Hp → VK → Prop} {lo hi : Option Expr} {l u : Option Int} {p2 : Pos} (hr : SlR X r) (ha : EJ X Γ B a da B1) (hl : OJ X Γ B1 lo l B2) (hu : OJ X Γ B2 hi u B3)
    (k : ∀ g v H0 H, On X.K g B3 H0 H → Rv X.K g H0 v da → ∀ Q : VK, (∀ z H0' H', To g H0 H H0' H' → On X.K g B3 H0' H' → Rv X.K g H0' z d → Q z H') → r v l u H Q) :
    EJ X Γ B (.Subscript a (.Slice lo hi none p2) pos) d B3 := fun g σ H0 H E O Q q =>
  ⟨_, pe_slice hr (we a) (wo lo) (wo hi), ha g σ H0 H E O _ fun v H1 H' t o rv => hl g σ H1 H' (E.mono t.ex) o _ fun H2 H'' t2 o2 =>
    hu g σ H2 H'' (E.mono (t.trans t2).ex) o2 _ fun H3 H3' t3 o3 => k g v H3 H3' o3 (rv.mono (t2.trans t3).ex) Q fun z H4 H4' t4 o4 r4 => q z H4 H4' (((t.trans t2).trans t3).trans t4) o4 r4⟩
theorem ej_sliceL {lo hi : Option Expr} {l u : Option Int} {p2 : Pos} {ds : List PyData} (ha : EJ X Γ B a (.da (.list ds)) B1) (hl : OJ X Γ B1 lo l B2) (hu : OJ X Γ B2 hi u B3) :
    EJ X Γ B (.Subscript a (.Slice lo hi none p2) pos) (.da (.list (cutP ds l u))) B3 :=
  ej_slice sl_list ha hl hu fun g v H0 H O r Q q => by
    obtain ⟨p, xs, rfl, hx, rs⟩ := rvL r
    refine ⟨p, xs, rfl, SqL.of (O.ex _ _ hx), fun n hn => ?_⟩
    obtain ⟨t2, o2⟩ := laid (o := .lst (cutV xs l u)) O hn
    exact q _ _ _ t2 o2 (Rp.lst upd_same ((rs.cut l u).mono t2.ex))
theorem ej_sliceT {lo hi : Option Expr} {l u : Option Int} {p2 : Pos} {ds : List PyData} (ha : EJ X Γ B a (.da (.tuple ds)) B1) (hl : OJ X Γ B1 lo l B2) (hu : OJ X Γ B2 hi u B3) :
    EJ X Γ B (.Subscript a (.Slice lo hi none p2) pos) (.da (.tuple (cutP ds l u))) B3 :=
  ej_slice sl_tupA ha hl hu fun g v H0 H O r Q q => by
    obtain ⟨p, xs, rfl, hx, rs⟩ := rvT r
    refine ⟨p, xs, rfl, seqT O.ex hx, fun w => ?_, fun _ n hn => ?_⟩
    · have e : cutP ds l u = ds := by
        rw [rs.length] at w
        unfold cutP
        rw [w.1, w.2]
        simp
      have q := q (.ref p) H0 H To.refl O
      rw [e] at q
      exact q (Rp.tup hx rs)
    · obtain ⟨t2, o2⟩ := laid (o := .tup (cutV xs l u)) O hn
      exact q _ _ _ t2 o2 (Rp.tup (SqT.of upd_same) ((rs.cut l u).mono t2.ex))
theorem ej_sliceScr {lo hi : Option Expr} {l u : Option Int} {p2 : Pos} {ns : List Int} (ha : EJ X Γ B a (.scr ns) B1) (hl : OJ X Γ B1 lo l B2) (hu : OJ X Γ B2 hi u B3) :
    EJ X Γ B (.Subscript a (.Slice lo hi none p2) pos) (.da (.list (cutP (ns.map .int) l u))) B3 :=
  ej_slice sl_list ha hl hu fun g v H0 H O r Q q => by
    obtain ⟨p, rfl, hx⟩ := r
    refine ⟨p, _, rfl, O.ex.seq hx, fun n hn => ?_⟩
    obtain ⟨t2, o2⟩ := laid (o := .lst (cutV (ns.map V.int) l u)) O hn
    exact q _ _ _ t2 o2 (Rp.lst upd_same ((RpAll.ints ns).cut l u))
theorem ej_bagAt {i : Int} {y : PyData} {k : Nat} (ha : EJ X Γ B a .bag B1) (hb : EJ X Γ B1 b (.da (.int i)) B2) (hi : i = (k : Int)) (hk : k = 0 ∧ y = .int B2.x ∨ k = 1 ∧ y = .int B2.y ∨ k = 2 ∧ y = .int B2.z ∨ k = 3 ∧ y = .list (B2.cs.map .int)) (hs : PlainIx b) :
    EJ X Γ B (.Subscript a b pos) (.da y) B2 :=
  ej_bin ha hb (fun _ _ h1 h2 => pe_ix ix_list h1 h2 hs) fun g v w H0 H O r1 r2 Q q => by
    obtain ⟨p, l, hg, rfl⟩ := r1
    obtain ⟨_, h2, h3⟩ := O.bag p l hg
    subst hi
    rcases hk with ⟨rfl, rfl⟩ | ⟨rfl, rfl⟩ | ⟨rfl, rfl⟩ | ⟨rfl, rfl⟩
    · exact ⟨p, _, _, _, rfl, rvI r2, SqL.of h2, rfl, q _ _ _ To.refl O (Rp.int _)⟩
    · exact ⟨p, _, _, _, rfl, rvI r2, SqL.of h2, rfl, q _ _ _ To.refl O (Rp.int _)⟩
    · exact ⟨p, _, _, _, rfl, rvI r2, SqL.of h2, rfl, q _ _ _ To.refl O (Rp.int _)⟩
    · exact ⟨p, _, _, _, rfl, rvI r2, SqL.of h2, rfl, q _ _ _ To.refl O (Rp.lst h3 (RpAll.ints _))⟩
theorem bagged {K : PySem.W.Frag} {g : Gh} {B B' : Bag} {H0 H : Hp} {a l : Addr} (O : On K g B H0 H) (hg : g = some (a, l)) (hc : B'.cs = B.cs) :
    To g H0 H H0 (upd H a (.lst (bagCells B' l))) ∧ On K g B' H0 (upd H a (.lst (bagCells B' l))) := by
  obtain ⟨h1, h2, h3⟩ := O.bag a l hg
  refine ⟨⟨Same.refl _, fun q u f e1 e2 => ⟨e1, ?_⟩⟩, ⟨fun q u e => ?_, fun q m e => ?_⟩⟩
  · rw [upd_ne (fun z => f l (by rw [z]; exact hg))]; exact e2
  · rw [upd_ne (ne_of_none e h1)]; exact O.ex _ _ e
  · rw [hg] at e; cases e
    exact ⟨h1, upd_same, by rw [hc]; exact h3⟩
theorem sj_bagSet {i n : Int} {k : Nat} {px : Pos} (hv : EJ X Γ B e (.da (.int n)) B1) (ha : EJ X Γ B1 a .bag B2) (hb : EJ X Γ B2 b (.da (.int i)) B3) (hi : i = (k : Int))
    (hk : k = 0 ∧ B' = { B3 with x := n } ∨ k = 1 ∧ B' = { B3 with y := n } ∨ k = 2 ∧ B' = { B3 with z := n }) (q : SJ X Γ B' rest E)
    (h1 : swapsWithSole [.Subscript a b px] e pos.line X.env = pure false := by rfl) (h2 : swappedStores [.Subscript a b px] e X.env = pure none := by rfl)
    (h3 : (assignEach [.Subscript a b px] X.env).map (·.2) = [assign (.Subscript a b px) X.env] := by rfl)
    (h4 : ∀ v, assign (.Subscript a b px) X.env v = (do
      let ov ← holding [v] (eval a X.env)
      let iv ← holding [v, ov] (eval b X.env)
      standAt px; holding [v, ov, iv] (setItem ov iv v)
      release [v, ov, iv] []) := by intro _; rfl) :
    SJ X Γ B (.Assign [.Subscript a b px] e pos :: rest) E := fun g σ H0 H Ev O D G =>
  ⟨_, pss_cons (ps_asg (we e) (pg_sub (we a) (we b) set_list h4) h1 h2 h3) (ws rest), hv g σ H0 H Ev O _ fun v H1 H' t o rv => ha g σ H1 H' (Ev.mono t.ex) o _ fun w H2 H'' t2 o2 rw' =>
    hb g σ H2 H'' (Ev.mono (t.trans t2).ex) o2 _ fun u H3 H3' t3 o3 ru => by
      obtain ⟨p, l, hg, rfl⟩ := rw'
      rw [rvI ru, rvI rv]
      subst hi
      obtain ⟨_, e2, _⟩ := o3.bag p l hg
      have tt := (t.trans t2).trans t3
      have fin : ∀ (H4 : Hp), H4 = upd H3' p (.lst (bagCells B' l)) → B'.cs = B3.cs → WS X rest D σ H4 := by
        rintro H4 rfl hc
        obtain ⟨t4, o4⟩ := bagged o3 hg hc
        exact q g σ H3 _ (Ev.mono tt.ex) o4 D (G.on (tt.trans t4))
      rcases hk with ⟨rfl, rfl⟩ | ⟨rfl, rfl⟩ | ⟨rfl, rfl⟩
      · exact ⟨p, _, _, 0, rfl, rfl, e2, rfl, fin _ rfl rfl⟩
      · exact ⟨p, _, _, 1, rfl, rfl, e2, rfl, fin _ rfl rfl⟩
      · exact ⟨p, _, _, 2, rfl, rfl, e2, rfl, fin _ rfl rfl⟩⟩
def rGetL : V → V → Hp → VK → Prop := fun o i H Q => ∃ p xs k v, o = .ref p ∧ i = .int ((k : Nat) : Int) ∧ H p = some (.lst xs) ∧ xs[k]? = some v ∧ k < 1000 ∧ Q v H
theorem get_list : PGet X rGetL := by
  intro pins s σ H o i ov iv Q I r1 r2 h
  obtain ⟨p, xs, k, v, rfl, rfl, hp, hv, hk, q⟩ := h
  cases (show ov = Value.ref p from r1)
  obtain ⟨t, rfl⟩ := r2
  obtain ⟨its, r, pl, hz⟩ := I.list (SqL.of hp)
  obtain ⟨u, hu, ru⟩ := r.get hv
  refine wpAny_getItem_list pl.isList (Int.natCast_nonneg k) (by omega) ?_ ⟨v, H, I, ru, q⟩
  rw [Int.toNat_natCast]; simpa using hu
theorem sj_bagAug {n : Int} {px : Pos} (ha : EJ X Γ B a .bag B1) (hb : EJ X Γ B1 b (.da (.int 2)) B2) (hv : EJ X Γ B2 e (.da (.int n)) B3) (hz : B3.z = B2.z) (q : SJ X Γ { B3 with z := B3.z + n } rest E)
    (h1 : ∀ ov iv new, augStore b ov iv new = (do holding [new, ov, iv] (setItem ov iv new); release [new, ov, iv] []; pure .next) := by intros; rfl) :
    SJ X Γ B (.AugAssign (.Subscript a b px) .Add e pos :: rest) E := fun g σ H0 H Ev O D G =>
  ⟨_, pss_cons (ps_augS (we a) (we b) get_list (we e) ip_add set_list h1) (ws rest), ha g σ H0 H Ev O _ fun w H1 H' t o rw' => hb g σ H1 H' (Ev.mono t.ex) o _ fun u H2 H'' t2 o2 ru => by
    obtain ⟨p, l, hg, rfl⟩ := rw'
    rw [rvI ru]
    obtain ⟨_, e2, _⟩ := o2.bag p l hg
    refine ⟨p, _, 2, .int B2.z, rfl, rfl, e2, rfl, by omega, ?_⟩
    refine hv g σ H2 H'' (Ev.mono (t.trans t2).ex) o2 _ fun v H3 H3' t3 o3 rv => ?_
    rw [rvI rv]
    obtain ⟨_, e3, _⟩ := o3.bag p l hg
    have tt := (t.trans t2).trans t3
    refine ⟨B2.z, n, rfl, rfl, p, _, 2, 2, rfl, rfl, e3, rfl, ?_⟩
    obtain ⟨t4, o4⟩ := bagged (B' := { B3 with z := B3.z + n }) o3 hg rfl
    rw [← hz]
    exact q g σ H3 _ (Ev.mono tt.ex) o4 D (G.on (tt.trans t4))⟩
theorem sj_while (nd : X.N.Nodup) (P : List VD → Bag → Prop) (μ : List VD → Bag → Nat) (h0 : P Γ B)
    (hs : ∀ Γ B, P Γ B → ∃ x, TJ X Γ B c x B ∧
      (x = true → SJ X Γ B s1 { nx := fun Γ' B' => P Γ' B' ∧ μ Γ' B' < μ Γ B, ct := fun Γ' B' => P Γ' B' ∧ μ Γ' B' < μ Γ B, bk := fun Γ' B' => SJ X Γ' B' rest E, rt := E.rt }) ∧
      (x = false → SJ X Γ B rest E))
    (hp : PassesOwn (model X.prog X.w) X.A X.env X.xe := by exact PassesOwn.never) : SJ X Γ B (.While c s1 [] pos :: rest) E := fun g σ H0 H Ev O D G =>
  ⟨_, pss_cons (ps_while hp (wt c) (ws s1)) (ws rest), by
    refine ⟨fun m σ' H' => ∃ Γ' B' H1, P Γ' B' ∧ μ Γ' B' = m ∧ To g H0 H H1 H' ∧ EnvD X.K g H1 σ' Γ' ∧ On X.K g B' H1 H', ⟨_, Γ, B, H0, h0, rfl, To.refl, Ev, O⟩, ?_⟩
    rintro m σ' H' ⟨Γ', B', H1, hP, rfl, t, ev, o⟩
    obtain ⟨x, ht, hb, hd⟩ := hs Γ' B' hP
    refine ht g σ' H1 H' ev o _ fun H2 H'' t2 o2 => ?_
    have tt := t.trans t2
    cases x with
    | true =>
      refine iteT ⟨fun σ2 H3' => ∃ m', m' < μ Γ' B' ∧ ∃ Γ2 B2 H3, P Γ2 B2 ∧ μ Γ2 B2 = m' ∧ To g H0 H H3 H3' ∧ EnvD X.K g H3 σ2 Γ2 ∧ On X.K g B2 H3 H3', fun _ _ z => z, ?_⟩
      refine hb rfl g σ' H2 H'' (ev.mono t2.ex) o2 _ ⟨?_, ?_, ?_, ?_⟩
      · rintro Γ3 B3 σ3 H3 H3' ⟨q1, q2⟩ t3 e3 o3
        exact ⟨_, q2, Γ3, B3, H3, q1, rfl, tt.trans t3, e3, o3⟩
      · intro r B3 v H3 H3' q t3 o3 rv
        exact (G.on tt).rt r B3 v H3 H3' q t3 o3 rv
      · intro Γ3 B3 σ3 H3 H3' q t3 e3 o3
        exact q g σ3 H3 H3' e3 o3 D (G.on (tt.trans t3))
      · rintro Γ3 B3 σ3 H3 H3' ⟨q1, q2⟩ t3 e3 o3
        exact ⟨_, q2, Γ3, B3, H3, q1, rfl, tt.trans t3, e3, o3⟩
    | false => exact iteF (hd rfl g σ' H2 H'' (ev.mono t2.ex) o2 D (G.on tt))⟩
theorem sj_par (i j : Nat) {x y : Str} {px py pt : Pos} {kt k2 pt2} {d1 d2 : VD} (nd : X.N.Nodup) (hc : X.calm = true) (h : AJ X Γ B [a, b] [d1, d2] B1) (k : SJ X ((Γ.set i d1).set j d2) B1 rest E)
    (hij : i ≠ j) (hw : swappedStores [.Tuple [.Name x px, .Name y py] kt pt] (.Tuple [a, b] k2 pt2) X.env = pure (some [x, y])) (hi : X.N[i]? = some x := by rfl) (hj : X.N[j]? = some y := by rfl)
    (hx : X.env.scope.names.lookup x = some .local := by rfl) (hy : X.env.scope.names.lookup y = some .local := by rfl)
    (hsw : swapsWithSole [.Tuple [.Name x px, .Name y py] kt pt] (.Tuple [a, b] k2 pt2) pos.line X.env = pure false := by rfl) :
    SJ X Γ B (.Assign [.Tuple [.Name x px, .Name y py] kt pt] (.Tuple [a, b] k2 pt2) pos :: rest) E := fun g σ H0 H Ev O D G =>
  ⟨_, pss_cons (ps_par hc nd hi hj hij hx hy (wa [a, b]) hw hsw) (ws rest), h g σ H0 H Ev O _ fun vs H1 H' t o r => by
    obtain ⟨v, w, rfl, r1, r2⟩ := rv2 r
    exact ⟨v, w, rfl, k g _ H1 H' (((Ev.mono t.ex).set i r1).set j r2) o D (G.on t)⟩⟩
def gNames : List Nat → TGs
  | [] => gNil
  | i :: is => gCons (gName i) (gNames is)
def setAll (Γ : List VD) : List Nat → List PyData → List VD
  | i :: is, d :: ds => setAll (Γ.set i (.da d)) is ds
  | _, _ => Γ
theorem gNames_run {K : PySem.W.Frag} {g : Gh} {H0 H : Hp} {Q : L2.St → Hp → Prop} : ∀ (is : List Nat) (vs : List V) (ds : List PyData) (σ : L2.St) (Γ : List VD), RpAll K H0 vs ds → is.length = ds.length → EnvD K g H0 σ Γ →
    (∀ σ', EnvD K g H0 σ' (setAll Γ is ds) → Q σ' H) → gNames is vs σ H Q
  | [], _, _, σ, Γ, .nil, _, e, q => ⟨rfl, q σ e⟩
  | i :: is, _, _, σ, Γ, .cons h r, hl, e, q => ⟨_, _, rfl, gNames_run is _ _ _ _ r (Nat.succ.inj hl) (e.set (d := .da _) i h) q⟩
theorem sj_unpack (is : List Nat) {ts : List Expr} {k} {pt : Pos} {ds : List PyData} (hc : X.calm = true) (h : EJ X Γ B e (.da (.tuple ds)) B1) (hg : PGs X ts (gNames is)) (hl : is.length = ds.length)
    (q : SJ X (setAll Γ is ds) B1 rest E) (hn : (assignEach ts X.env).length = ds.length := by rfl) (hst : (assignEach ts X.env).findIdx? (·.1) = none := by rfl)
    (h1 : swapsWithSole [.Tuple ts k pt] e pos.line X.env = pure false := by rfl) (h2 : swappedStores [.Tuple ts k pt] e X.env = pure none := by rfl)
    (h3 : (assignEach [.Tuple ts k pt] X.env).map (·.2) = [assign (.Tuple ts k pt) X.env] := by rfl) : SJ X Γ B (.Assign [.Tuple ts k pt] e pos :: rest) E := fun g σ H0 H Ev O D G =>
  ⟨_, pss_cons (ps_asg (we e) (pg_tup hc hg hn hst) h1 h2 h3) (ws rest), h g σ H0 H Ev O _ fun v H1 H' t o r => by
    obtain ⟨p, xs, rfl, hxs, rs⟩ := rvT r
    exact ⟨p, xs, rfl, seqT o.ex hxs, rs.length, gNames_run is xs ds σ Γ rs hl (Ev.mono t.ex) fun σ' e' => q g σ' H1 H' e' o D (G.on t)⟩⟩
def Blk (X : Cx) (scope : Scope) (J : Cx → Prop) : Prop := ∀ (s : Shared) (H : Hp) (C : Addr) (cl : List (Str × Addr)) (fp : List Addr), J (X.blk s H scope (compEnvC scope cl C X.env) fp)
def WB (X : Cx) (scope : Scope) (e : Expr) : TE := fun σ H Q => ∀ (s : Shared) (H' : Hp) (C : Addr) (cl : List (Str × Addr)) (fp : List Addr), WE (X.blk s H' scope (compEnvC scope cl C X.env) fp) e σ H Q
theorem wb (scope : Scope) (e : Expr) (s : Shared) (H : Hp) (C : Addr) (cl : List (Str × Addr)) (fp : List Addr) : PE (X.blk s H scope (compEnvC scope cl C X.env) fp) e (WB X scope e) :=
  ⟨fun pins s' σ H' Q I h => (we e).run pins s' σ H' Q I (h s H C cl fp)⟩
def WTB (X : Cx) (scope : Scope) (e : Expr) : TT := fun σ H Q => ∀ (s : Shared) (H' : Hp) (C : Addr) (cl : List (Str × Addr)) (fp : List Addr), WT (X.blk s H' scope (compEnvC scope cl C X.env) fp) e σ H Q
theorem wtb (scope : Scope) (e : Expr) (s : Shared) (H : Hp) (C : Addr) (cl : List (Str × Addr)) (fp : List Addr) : PT (X.blk s H scope (compEnvC scope cl C X.env) fp) e (WTB X scope e) :=
  ⟨fun pins s' σ H' Q I h => (wt e).run pins s' σ H' Q I (h s H C cl fp)⟩
structure LcI (K : PySem.W.Frag) (g : Gh) (H1 H' : Hp) (A : Addr) (acc : List PyData) (B : Bag) (H2 H'' : Hp) : Prop where
  to : To g H1 H' H2 H''
  new : H' A = none
  no : H2 A = none
  at' : ∃ zs, H'' A = some (.lst zs) ∧ RpAll K H2 zs acc
  on : On K g B H2 H''
theorem lcI_start {K : PySem.W.Frag} {g : Gh} {H1 H' : Hp} {A : Addr} (o : On K g B H1 H') (h : H' A = none) : Off g A ∧ LcI K g H1 H' A [] B H1 (upd H' A (.lst [])) := by
  have h1 : H1 A = none := o.ex.free h
  have off : Off g A := fun l e => by
    obtain ⟨_, q, _⟩ := o.bag A l e
    rw [h] at q; cases q
  refine ⟨off, ⟨⟨Same.refl _, fun q u f e1 e2 => ⟨e1, ?_⟩⟩, h, h1, ⟨[], upd_same, .nil⟩, ⟨fun q u e => ?_, fun q l e => ?_⟩⟩⟩
  · rw [upd_ne (ne_of_none e2 h)]; exact e2
  · rw [upd_ne (ne_of_none e h1)]; exact o.ex _ _ e
  · obtain ⟨q1, q2, q3⟩ := o.bag q l e
    exact ⟨q1, by rw [upd_ne (ne_of_none q2 h)]; exact q2, q3⟩
theorem lcI_app {K : PySem.W.Frag} {g : Gh} {H1 H' : Hp} {A : Addr} {acc : List PyData} {H2 H'' H3 H3' : Hp} {v : V} {y : PyData} (off : Off g A) (I : LcI K g H1 H' A acc B1 H2 H'') (t : To g H2 H'' H3 H3') (o : On K g B2 H3 H3') (r : Rp K H3 v y) :
    ∃ zs, H3' A = some (.lst zs) ∧ zs.length = acc.length ∧ LcI K g H1 H' A (acc ++ [y]) B2 H3 (upd H3' A (.lst (zs ++ [v]))) := by
  obtain ⟨zs, h1, h2⟩ := I.at'
  obtain ⟨h3, h4⟩ := t.un A _ off I.no h1
  refine ⟨zs, h4, h2.length, ⟨⟨I.to.ex.trans t.ex, fun q u f e1 e2 => ?_⟩, I.new, h3, ⟨_, upd_same, (h2.mono t.ex).app (.cons r .nil)⟩, ⟨fun q u e => ?_, fun q l e => ?_⟩⟩⟩
  · by_cases hq : q = A
    · subst hq
      have z := I.new
      rw [e2] at z; cases z
    · obtain ⟨q1, q2⟩ := I.to.un q u f e1 e2
      obtain ⟨q3, q4⟩ := t.un q u f q1 q2
      exact ⟨q3, by rw [upd_ne hq]; exact q4⟩
  · rw [upd_ne (ne_of_none e h3)]; exact o.ex _ _ e
  · obtain ⟨q1, q2, q3⟩ := o.bag q l e
    have hq : q ≠ A := fun z => off l (by rw [← z]; exact e)
    exact ⟨q1, by rw [upd_ne hq]; exact q2, q3⟩
theorem lcI_end {K : PySem.W.Frag} {g : Gh} {H0 H H1 H' : Hp} {A : Addr} {acc : List PyData} {H2 H'' : Hp} (off : Off g A) (t : To g H0 H H1 H') (I : LcI K g H1 H' A acc B H2 H'') :
    ∃ H3, To g H0 H H3 H'' ∧ On K g B H3 H'' ∧ Rp K H3 (.ref A) (.list acc) := by
  obtain ⟨zs, h1, h2⟩ := I.at'
  have tt := t.trans I.to
  have up : Same H2 (upd H2 A (.lst zs)) := fun q u e => by rw [upd_ne (ne_of_none e I.no)]; exact e
  refine ⟨upd H2 A (.lst zs), ⟨tt.ex.trans up, fun q u f e1 e2 => ?_⟩, ⟨fun q u e => ?_, fun q l e => ?_⟩, Rp.lst upd_same (h2.mono up)⟩
  · obtain ⟨q1, q2⟩ := tt.un q u f e1 e2
    have hq : q ≠ A := fun z => by
      subst z
      obtain ⟨_, q3⟩ := t.un q u f e1 e2
      rw [I.new] at q3; cases q3
    exact ⟨by rw [upd_ne hq]; exact q1, q2⟩
  · by_cases hq : q = A
    · subst hq; rw [upd_same] at e; cases e; exact h1
    · rw [upd_ne hq] at e; exact I.on.ex _ _ e
  · obtain ⟨q1, q2, q3⟩ := I.on.bag q l e
    have hq : q ≠ A := fun z => off l (by rw [← z]; exact e)
    have hl : l ≠ A := fun z => by rw [z, I.no] at q3; cases q3
    exact ⟨by rw [upd_ne hq]; exact q1, q2, by rw [upd_ne hl]; exact q3⟩
theorem wipe1 {σ : L2.St} {j : Nat} {v : Option V} : wipe ((wipe σ [j]).set j v) [j] = wipe σ [j] := by
  show (((σ.set j none).set j v).set j none) = σ.set j none
  rw [List.set_set, List.set_set]
theorem wipe_env {K : PySem.W.Frag} {g : Gh} {H0 : Hp} {σ : L2.St} {j : Nat} {v : V} {d : PyData} (Ev : EnvD K g H0 σ Γ) (r : Rp K H0 v d) : EnvD K g H0 ((wipe σ [j]).set j (some v)) (Γ.set j (.da d)) := by
  show EnvD K g H0 ((σ.set j none).set j (some v)) (Γ.set j (.da d))
  rw [List.set_set]
  exact Ev.set (d := .da d) j r
def RJ (X : Cx) (Γ : List VD) (B : Bag) (t : TE) (d : VD) (B' : Bag) : Prop :=
  ∀ g σ H0 H, EnvD X.K g H0 σ Γ → On X.K g B H0 H → ∀ Q : VK,
    (∀ v H0' H', To g H0 H H0' H' → On X.K g B' H0' H' → Rv X.K g H0' v d → Q v H') → t σ H Q
theorem ej_of {t : TE} (h : PE X e t) (r : RJ X Γ B t d B1) : EJ X Γ B e d B1 := fun g σ H0 H E O Q q => ⟨t, h, r g σ H0 H E O Q q⟩
section
variable {elt : Expr} {scope : Scope} {j : Nat} {x : Str} {px : Pos} {ds ys : List PyData}
theorem lc_turn {g : Gh} {H1 H' : Hp} {A : Addr} {acc : List PyData} {H'' H2 : Hp} {σ : L2.St} {v : V} {y z : PyData} {Nx : Hp → Prop} (off : Off g A) (Ev : EnvD X.K g H1 σ Γ) (I : LcI X.K g H1 H' A acc B1 H2 H'') (r : Rp X.K H2 v y)
    (hz : acc.length < 1000) (he : Blk X scope fun Y => EJ Y (Γ.set j (.da y)) B1 elt (.da z) B2) (k : ∀ H3 H3', LcI X.K g H1 H' A (acc ++ [z]) B2 H3 H3' → Nx H3') :
    gName j v (wipe σ [j]) H'' fun σ2 H2 => wipe σ2 [j] = wipe σ [j] ∧ tYes σ2 H2 fun b H3 => if b = true then WB X scope elt σ2 H3 fun y H4 => ∃ acc, H4 A = some (.lst acc) ∧ acc.length < sizeLine ∧ Nx (upd H4 A (.lst (acc ++ [y]))) else Nx H3 := by
  refine ⟨wipe1, ?_⟩
  unfold tYes
  refine iteT ?_
  intro s hH C cl fp
  refine he s hH C cl fp g _ H2 H'' (wipe_env (Ev.mono I.to.ex) r) I.on _ fun w H3 H3' t o rw' => ?_
  obtain ⟨zs, h1, h2, J⟩ := lcI_app off I t o rw'
  exact ⟨zs, h1, by rw [h2]; exact small1000 (Nat.le_of_lt hz), k _ _ J⟩
theorem rj_lc (Bs : Nat → Bag) (hi : EJ X Γ B e (.da (.list ds)) (Bs 0)) (hl : ys.length = ds.length) (hz : ds.length ≤ 1000)
    (hs : ∀ i y z, ds[i]? = some y → ys[i]? = some z → Blk X scope fun Y => EJ Y (Γ.set j (.da y)) (Bs i) elt (.da z) (Bs (i + 1))) :
    RJ X Γ B (tLc (iList X.K (WE X e)) (gName j) tYes (WB X scope elt) [j]) (.da (.list ys)) (Bs ds.length) := fun g σ H0 H Ev O Q q =>
  hi g σ H0 H Ev O _ fun v H1 H' t o r => by
    obtain ⟨p, xs, rfl, hxs, rs⟩ := rvL r
    refine ⟨p, rfl, ⟨xs, SqL.of (o.ex _ _ hxs)⟩, fun A hA => ?_⟩
    obtain ⟨off, I0⟩ := lcI_start o hA
    refine lc_list (xs := xs) (fun i H'' => ∃ H2, LcI X.K g H1 H' A (ys.take i) (Bs i) H2 H'') ⟨_, I0⟩ ?_ ?_ ?_
    · rintro i H'' _ ⟨H2, I⟩
      exact SqL.of (I.on.ex _ _ (I.to.ex _ _ hxs))
    · rintro i w H'' hw ⟨H2, I⟩
      obtain ⟨y, hy, ry⟩ := rs.get hw
      have hi2 : i < ys.length := by rw [hl]; exact (List.getElem?_eq_some_iff.mp hy).1
      have hyz : ys[i]? = some ys[i] := List.getElem?_eq_getElem hi2
      refine lc_turn off (Ev.mono t.ex) I (ry.mono I.to.ex) (by rw [List.length_take]; omega) (hs i y _ hy hyz) fun H3 H3' J => ⟨H3, ?_⟩
      rw [List.take_add_one, hyz]; exact J
    · rintro H'' ⟨H2, I⟩
      rw [rs.length, ← hl, List.take_length] at I
      obtain ⟨H3, t3, o3, r3⟩ := lcI_end off t I
      rw [hl] at o3
      exact q _ H3 H'' t3 o3 r3
theorem rj_lcT (Bs : Nat → Bag) (hi : EJ X Γ B e (.da (.tuple ds)) (Bs 0)) (hl : ys.length = ds.length) (hz : ds.length ≤ 1000)
    (hs : ∀ i y z, ds[i]? = some y → ys[i]? = some z → Blk X scope fun Y => EJ Y (Γ.set j (.da y)) (Bs i) elt (.da z) (Bs (i + 1))) :
    RJ X Γ B (tLc (iTup X.K (WE X e)) (gName j) tYes (WB X scope elt) [j]) (.da (.list ys)) (Bs ds.length) := fun g σ H0 H Ev O Q q =>
  hi g σ H0 H Ev O _ fun v H1 H' t o r => by
    obtain ⟨p, xs, rfl, hxs, rs⟩ := rvT r
    refine ⟨p, rfl, ⟨xs, seqT o.ex hxs⟩, fun A hA => ?_⟩
    obtain ⟨off, I0⟩ := lcI_start o hA
    refine lc_tup (xs := xs) (fun i H'' => ∃ H2, LcI X.K g H1 H' A (ys.take i) (Bs i) H2 H'') ⟨_, I0⟩ ?_ ?_ ?_
    · rintro i H'' _ ⟨H2, I⟩
      exact seqT I.on.ex (seqT I.to.ex hxs)
    · rintro i w H'' hw ⟨H2, I⟩
      obtain ⟨y, hy, ry⟩ := rs.get hw
      have hi2 : i < ys.length := by rw [hl]; exact (List.getElem?_eq_some_iff.mp hy).1
      have hyz : ys[i]? = some ys[i] := List.getElem?_eq_getElem hi2
      refine lc_turn off (Ev.mono t.ex) I (ry.mono I.to.ex) (by rw [List.length_take]; omega) (hs i y _ hy hyz) fun H3 H3' J => ⟨H3, ?_⟩
      rw [List.take_add_one, hyz]; exact J
    · rintro H'' ⟨H2, I⟩
      rw [rs.length, ← hl, List.take_length] at I
      obtain ⟨H3, t3, o3, r3⟩ := lcI_end off t I
      rw [hl] at o3
      exact q _ H3 H'' t3 o3 r3
theorem ej_lc (nd : X.N.Nodup) (hc : X.calm = true) (ok : BlkOk X.N X.env.scope scope [(x, j)])
    (hg : ∀ (s : Shared) (H : Hp) (C : Addr) (cl : List (Str × Addr)) (fp : List Addr), PG (X.blk s H scope (compEnvC scope cl C X.env) fp) (.Name x px) (gName j))
    (r : RJ X Γ B (tLc (iList X.K (WE X e)) (gName j) tYes (WB X scope elt) [j]) d B1) (hq : ∀ x, foldedSetIterable e X.env x = pure x := by intro _; rfl) :
    EJ X Γ B (.ListComp elt [⟨.Name x px, e, [], 0⟩] scope pos) d B1 := ej_of (pe_lc (own := [(x, j)]) hc nd (pi_list (we e)) ok hg (fun _ _ _ _ _ => pts_nil) (wb scope elt) hq) r
theorem ej_lcT (nd : X.N.Nodup) (hc : X.calm = true) (ok : BlkOk X.N X.env.scope scope [(x, j)])
    (hg : ∀ (s : Shared) (H : Hp) (C : Addr) (cl : List (Str × Addr)) (fp : List Addr), PG (X.blk s H scope (compEnvC scope cl C X.env) fp) (.Name x px) (gName j))
    (r : RJ X Γ B (tLc (iTup X.K (WE X e)) (gName j) tYes (WB X scope elt) [j]) d B1) (hq : ∀ x, foldedSetIterable e X.env x = pure x := by intro _; rfl) :
    EJ X Γ B (.ListComp elt [⟨.Name x px, e, [], 0⟩] scope pos) d B1 := ej_of (pe_lc (own := [(x, j)]) hc nd (pi_tup (we e)) ok hg (fun _ _ _ _ _ => pts_nil) (wb scope elt) hq) r
end
end
end Gd
namespace Gd
open PySem PySem.Spec PyProof.Rows L2
section
variable {X : Cx} {Γ : List VD} {B B1 B2 B3 B' : Bag} {e a b c : Expr} {es : List Expr} {d da db dc : VD} {pos p pos' : Pos} {rest ss s1 s2 : List Stmt} {E : En}
def CDivX (_ j : Int) : Prop := j ≠ 0 ∧ j.natAbs.log2 < 9000
theorem op_fdivX : OpR X (binaryOp .FloorDiv) (rI CDivX fun i j => .int (i.fdiv j)) :=
  opI fun i j _ _ _ _ _ hc q => PyProof.Rows.floordiv_int hc.1 q (.inl (PyProof.noPylong_of_log2 hc.2))
theorem ej_fdivX {i j : Int} (ha : EJ X Γ B a (.da (.int i)) B1) (hb : EJ X Γ B1 b (.da (.int j)) B2) (hc : CDivX i j) : EJ X Γ B (.BinOp a .FloorDiv b pos) (.da (.int (i.fdiv j))) B2 :=
  ej_iic ha hb op_fdivX hc fun _ => .int _
theorem ej_gcd {i j : Int} (hm : X.mg "gcd" = some (.builtin "math.gcd")) (ha : EJ X Γ B a (.da (.int i)) B1) (hb : EJ X Γ B1 b (.da (.int j)) B2) (hg : Gl X "gcd" := by rfl)
    (h1 : starEach [a, b] X.env = (false, eval a X.env) :: starEach [b] X.env := by rfl) (h2 : starEach [b] X.env = (false, eval b X.env) :: starEach [] X.env := by rfl)
    (hpl : (backTo pos (starEach [b] X.env)).any (·.1) = false := by rfl) :
    EJ X Γ B (.Call (.Name "gcd" p) [a, b] [] pos) (.da (.int (Nat.gcd i.natAbs j.natAbs : Nat))) B2 := fun g σ H0 H E O Q q =>
  ⟨_, pe_callBfun cr_gcd hg hm (wa [a, b]) (by decide) h1 hpl, (aj_cons ha (aj_cons hb aj_nil h2) h1) g σ H0 H E O _ fun vs H1 H' t o r => by
    obtain ⟨v, w, rfl, r1, r2⟩ := rv2 r
    exact ⟨i, j, by rw [rvI r1, rvI r2], q _ _ _ t o (Rp.int _)⟩⟩
theorem ej_tupleL {ds : List PyData} (hm : X.mg "tuple" = none) (ha : EJ X Γ B a (.da (.list ds)) B1) (hs : starEach [a] X.env = [(false, eval a X.env)] := by rfl) (hg : Gl X "tuple" := by rfl) :
    EJ X Γ B (.Call (.Name "tuple" p) [a] [] pos) (.da (.tuple ds)) B1 :=
  ej_callTy call_tuple_of hm (aj_cons ha aj_nil hs) (fun g vs H0 H O r Q q => by
    obtain ⟨v, rfl, h⟩ := rv1 r
    obtain ⟨p, xs, rfl, hx, rs⟩ := rvL h
    refine ⟨p, xs, rfl, .inl ⟨SqL.of (O.ex _ _ hx), fun n hn => ?_⟩⟩
    obtain ⟨t2, o2⟩ := laid (o := .tup xs) O hn
    exact q _ _ _ t2 o2 (Rp.tup (SqT.of upd_same) (rs.mono t2.ex))) (hg := hg) (he := hs)
theorem ej_listT {ds : List PyData} (hm : X.mg "list" = none) (ha : EJ X Γ B a (.da (.tuple ds)) B1) (hs : starEach [a] X.env = [(false, eval a X.env)] := by rfl) (hg : Gl X "list" := by rfl) :
    EJ X Γ B (.Call (.Name "list" p) [a] [] pos) (.da (.list ds)) B1 :=
  ej_callTy call_list_of hm (aj_cons ha aj_nil hs) (fun g vs H0 H O r Q q => by
    obtain ⟨v, rfl, h⟩ := rv1 r
    obtain ⟨p, xs, rfl, hx, rs⟩ := rvT h
    refine ⟨p, xs, rfl, .inr (seqT O.ex hx), fun n hn => ?_⟩
    obtain ⟨t2, o2⟩ := laid (o := .lst xs) O hn
    exact q _ _ _ t2 o2 (Rp.lst upd_same (rs.mono t2.ex))) (hg := hg) (he := hs)
theorem tj_chain {op op' : CmpOp} {i j k : Int} {z z' : Int → Int → V} {x y : Bool} (ha : EJ X Γ B a (.da (.int i)) B1) (hb : EJ X Γ B1 b (.da (.int j)) B2) (hc : EJ X Γ B2 c (.da (.int k)) B2)
    (ho : OpR X (compareOp op) (rI0 z)) (ho' : OpR X (compareOp op') (rI0 z')) (h1 : z i j = .bl x) (h2 : z' j k = .bl y) (hm : lastMarks [op, op'] [b, c] = false := by with_unfolding_all rfl) :
    TJ X Γ B (.Compare a [op, op'] [b, c] pos) (x && y) B2 := fun g σ H0 H E O Q q =>
  ⟨_, pt_chain ho ho' (we a) (we b) (we c) hm, ha g σ H0 H E O _ fun v H1 H' t o r => hb g σ H1 H' (E.mono t.ex) o _ fun w H2 H'' t2 o2 r2 => by
    have tt := t.trans t2
    refine ⟨i, j, rvI r, rvI r2, x, h1, ?_⟩
    cases x with
    | true =>
      refine iteT ?_
      refine hc g σ H2 H'' (E.mono tt.ex) o2 _ fun u H3 H3' t3 o3 r3 => ⟨j, k, rvI r2, rvI r3, y, h2, ?_⟩
      exact q _ _ (tt.trans t3) o3
    | false => exact iteF ⟨false, rfl, q _ _ tt o2⟩⟩
theorem inV_strs (x : Str) : ∀ ss : List Str, inV (.str x) (ss.map V.str) = ss.any fun s => decide (s = x)
  | [] => rfl
  | s :: ss => by
    show (eqV (.str s) (.str x) || inV (.str x) (ss.map V.str)) = (decide (s = x) || ss.any fun s => decide (s = x))
    rw [inV_strs x ss]
    have e : eqV (.str s) (.str x) = decide (s = x) := by
      first
        | rfl
        | (unfold eqV; exact Bool.beq_eq_decide_eq s x)
        | (simp [eqV])
    rw [e]
theorem RpAll.strs_of {K : PySem.W.Frag} {H : Hp} : ∀ {xs : List V} {ns : List Str}, RpAll K H xs (ns.map PyData.str) → xs = ns.map V.str
  | [], [], _ => rfl
  | _ :: _, n :: ns, .cons h r => by
    cases h
    rw [RpAll.strs_of r]; rfl
theorem tj_inT {x : Str} {ss : List Str} (ha : EJ X Γ B a (.da (.str x)) B1) (hb : EJ X Γ B1 b (.da (.tuple (ss.map .str))) B2) (hm : behindInMarks .In b = false := by rfl) :
    TJ X Γ B (.Compare a [.In] [b] pos) (ss.any fun s => decide (s = x)) B2 :=
  tj_cmp ha hb op_in_seq hm fun g v w H0 H O r1 r2 Q q => by
    obtain ⟨p, xs, rfl, hx, rs⟩ := rvT r2
    rw [rvS r1]
    have e := rs.strs_of
    subst e
    refine ⟨p, _, rfl, .inr (seqT O.ex hx), rfl, ?_, ?_⟩
    · rw [List.all_map]; exact List.all_eq_true.mpr fun _ _ => rfl
    · rw [if_neg (by decide), inV_strs]; exact q _ _ To.refl O
end
theorem sj_law {X : Cx} {Γ : List VD} {B B1 : Bag} {e : Expr} {x : Str} {pos pos' : Pos} {rest : List Stmt} {ns : List Int} {y : Int} (i : Nat) (nd : X.N.Nodup)
    (h : EJ X Γ B e (.da (.list [.int 0, .int y, .int 0, .list (ns.map .int)])) B1)
    (k : SJ X ((List.replicate Γ.length VD.no).set i .bag) ⟨0, y, 0, ns⟩ rest { nx := fun _ _ => False, rt := fun r _ => r = .bool true })
    (hi : X.N[i]? = some x := by rfl) (hx : Loc X.env.scope x := by first | exact Or.inl rfl | exact Or.inr rfl) (hs : swapsWith e (some (.Name x pos')) pos.line X.env = pure false := by rfl)
    (hf : X.fn x = true ∨ X.env.scope.names.lookup x = some .local := by first | exact Or.inl rfl | exact Or.inr rfl)
    {σ : L2.St} {H0 H : Hp} (Ev : EnvD X.K none H0 σ Γ) (O : On X.K none B H0 H) {Q : VK} (q : ∀ H', Q (.bl true) H') :
    WS X (.Assign [.Name x pos'] e pos :: rest) { nx := fun _ H' => Q .non H', rt := Q } σ H :=
  ⟨_, pss_cons (ps_set nd hi hx (we e) hs hf) (ws rest), h none σ H0 H Ev O _ fun v H1 H' t o r => by
    obtain ⟨p, xs, rfl, hp, rs⟩ := rvL r
    cases rs with
    | cons r0 rs =>
    cases rs with
    | cons r1 rs =>
    cases rs with
    | cons r2 rs =>
    cases rs with
    | cons r3 rs =>
    cases rs
    cases r0; cases r1; cases r2
    cases r3 with
    | lst hl rl =>
    rename_i l zs
    have ez := rl.ints_of
    subst ez
    have hlp : l ≠ p := by
      intro z
      rw [z, hp] at hl
      have e1 := HO.lst.inj (Option.some.inj hl)
      cases ns with
      | nil => cases e1
      | cons n ns =>
        cases ns with
        | nil => cases e1
        | cons m ns =>
          cases ns with
          | nil => cases e1
          | cons m2 ns =>
            cases ns with
            | nil => cases e1
            | cons m3 ns => cases e1
    refine k (some (p, l)) _ (fun b => if b = p then none else H1 b) H' ⟨?_, ?_⟩ ⟨fun b u hb => ?_, fun b m hb => ?_⟩ _ ⟨?_, ?_, ?_, ?_⟩
    · rw [List.length_set, List.length_set, List.length_replicate]; exact Ev.len
    · intro j dd hj hne
      by_cases hij : i = j
      · subst hij
        have hlt : i < Γ.length := by
          have := (List.getElem?_eq_some_iff.mp hj).1
          rwa [List.length_set, List.length_replicate] at this
        rw [List.getElem?_set_self (by rw [List.length_replicate]; exact hlt)] at hj
        cases hj
        exact ⟨.ref p, List.getElem?_set_self (by rw [Ev.len]; exact hlt), p, l, rfl, rfl⟩
      · rw [List.getElem?_set_ne hij, List.getElem?_replicate] at hj
        split at hj
        · cases hj; exact absurd rfl hne
        · cases hj
    · by_cases hb2 : b = p
      · rw [if_pos hb2] at hb; cases hb
      · rw [if_neg hb2] at hb; exact o.ex _ _ hb
    · cases hb
      refine ⟨if_pos rfl, o.ex _ _ hp, ?_⟩
      rw [if_neg hlp]; exact hl
    · intro _ _ _ _ _ z; exact z.elim
    · rintro r2 B2 v H2 H2' rfl _ _ rv
      cases rv; exact q _
    · intro _ _ _ _ _ z; exact z.elim
    · intro _ _ _ _ _ z; exact z.elim⟩
def spLaw (K : PySem.W.Frag) : Sp := fun vs H Q _ => ∃ (a : Addr) (ns : List Int), vs = [.ref a] ∧ SqL K H a (ns.map V.int) ∧ ns.length ≤ 63 ∧ ∀ H', Q (.bl true) H'
theorem law_callG {P : Program} {w : World} {K : PySem.W.Frag} {mg mb : Str → Option Value} {k : Nat} {fa a : Addr} {fd : FuncData} {x : Str} {sp : Sp} {sx : Shared} {vs : List Value} {ns : List Int}
    (KI : K.In sx.heap) (hn1 : sx.heap.Ns mainGlobals mg) (hb : sx.heap.Ns builtinsNs mb) (hbb : ∀ x : Str, x ≠ "__name__" → mb x = bootBuiltins x) (hl0 : sx.heap.NoLimit) (hg : sx.gens = #[])
    (ha : sx.heap.get? a = some { cls := .type "list", data := .seq vs.toArray }) (hi : IntsAre vs ns) (hl : ns.length ≤ sizeLine) (hr : Room k callerA)
    (F : ∀ base : Heap, K.In base → base.Ns mainGlobals mg → FnG P w K mg base k fa fd [x] sp) (hbind : ∀ (s : Shared) (u : Value), BindsTo s fd ⟨[u], []⟩ [(x, u)])
    (hsp : ∀ H : Hp, SqL K H a (ns.map V.int) → sp [.ref a] H (fun v _ => v = .bl true) fun _ _ _ => False) :
    codeAny (model P w) callerA (.call (.ref fa) ⟨[.ref a], []⟩) (fun r s' => r = Except.ok (.ret (.bool true)) ∧ OldK sx.heap s'.heap ∧ s'.os = sx.os ∧ AllBare s'.gens) sx := by
  have rv := vals_ints hi
  have lenV := hi.length
  have main : ∀ H : Hp, Only H → SqL K H a (ns.map V.int) → HOk P w H sx.heap → (∀ b, H b ≠ none → b = a) → (H a ≠ none → K.lookup a = none) →
      codeAny (model P w) callerA (.call (.ref fa) ⟨[.ref a], []⟩) (fun r s' => r = Except.ok (.ret (.bool true)) ∧ OldK sx.heap s'.heap ∧ s'.os = sx.os ∧ AllBare s'.gens) sx := by
    intro H hO hS hok hA hK
    have free : ∀ b, (∃ o, sx.heap.get? b = some o ∧ ∃ es ep, o.data = .dict es ep) → H b = none := by
      rintro b ⟨o, e, es, ep, d⟩
      cases q : H b with
      | none => rfl
      | some u =>
        have eb : b = a := hA b (by simp [q])
        rw [eb, ha] at e
        cases e
        have dd : Data.seq vs.toArray _ = Data.dict es ep := d
        cases dd
    have nsK : ∀ {b : Addr} {m : Str → Option Value}, sx.heap.Ns b m → (hidT sx.heap H).Ns b m := by
      rintro b m ⟨o, es, ep, e, dd, r⟩
      exact ⟨o, es, ep, hidT_get e (free b ⟨o, e, es, ep, dd⟩), dd, r⟩
    have hKb : K.In (hidT sx.heap H) := by
      intro b o e
      refine hidT_get (KI b o e) ?_
      cases q : H b with
      | none => rfl
      | some u =>
        have eb : b = a := hA b (by simp [q])
        rw [eb, hK (by rw [← eb]; simp [q])] at e
        cases e
    obtain ⟨mc, l1, l2⟩ := hl0
    have hM : Mod K mg (hidT sx.heap H) := ⟨hKb, nsK hn1, ⟨mb, nsK hb, hbb⟩, mc, nsK l1, l2⟩
    have e0 : Env0 P w K mg (hidT sx.heap H) callerA [] sx H :=
      ⟨rfl, hM, fun b o e => of_hidT e, Nat.le_of_eq (hidT_size _ _), trivial, fun b z => absurd (show b ∈ ([] : List Addr) from z) (by simp), hok, .of_eq hg⟩
    have cc := (F _ hKb (nsK hn1)).run callerA [] sx H ⟨[.ref a], []⟩ [.ref a] [.ref a] _ _ rfl hr e0 (hbind sx (.ref a)) (.cons rfl .nil) (hsp H hS)
    refine codeAny_mono cc fun res s2 h => ?_
    match res, h with
    | .error _, h => exact h.elim
    | .ok .next, h => exact h.elim
    | .ok .brk, h => exact h.elim
    | .ok .cont, h => exact h.elim
    | .ok (.ret u), ⟨v, H', os, bare, un, hok', r', q⟩ =>
      have q' : v = .bl true := q
      subst q'
      obtain rfl : u = .bool true := r'
      refine ⟨rfl, .of_keep fun b o e => ?_, os, bare⟩
      cases q : H b with
      | none => exact un.keep b o e q (fun z => absurd (show b ∈ ([] : List Addr) from z) (by simp)) (by simp)
      | some u =>
        cases hO b with
        | inl z => rw [q] at z; cases z
        | inr z =>
          obtain ⟨ob, xs, z⟩ := z
          obtain ⟨e1, _⟩ := hok b _ z
          obtain ⟨e2, _⟩ := hok' b _ (un.frzs b ob _ z)
          rw [e] at e1; cases e1; exact e2
  cases hk : K.lookup a with
  | some o =>
    have e := KI a o hk
    rw [ha] at e
    cases e
    refine main (fun _ => none) (fun _ => .inl rfl) (.inr ⟨_, vs.toArray, _, hk, rfl, rfl, rfl, by rw [List.size_toArray, lenV]; exact hl, by simpa using rv⟩) ?_ (fun b z => absurd rfl z) fun z => absurd rfl z
    intro b u z
    have z' : (none : Option HO) = some u := z
    cases z'
  | none =>
    have at1 : ∀ b, b ≠ a → (if b = a then some (HO.frz { cls := .type "list", data := .seq vs.toArray } (.lst (ns.map V.int))) else none) = none := fun b h => if_neg h
    refine main (fun b => if b = a then some (.frz { cls := .type "list", data := .seq vs.toArray } (.lst (ns.map V.int))) else none) (fun b => ?_) (.inl (.inr ⟨_, if_pos rfl⟩)) (fun b u z => ?_) (fun b z => ?_) fun _ => hk
    · by_cases hb : b = a
      · exact Or.inr ⟨_, _, if_pos hb⟩
      · exact .inl (if_neg hb)
    · by_cases hb : b = a
      · have zz := (if_pos hb).symm.trans z
        cases zz
        subst hb
        exact ⟨ha, by simpa using hl, vs, _, rv, ha⟩
      · have z' := (at1 b hb).symm.trans z
        cases z'
    · by_cases hb : b = a
      · exact hb
      · exact absurd (at1 b hb) z
end Gd
namespace Gd
open PySem PySem.Spec PyProof.Rows L2
def Bd (n : Nat) (i : Int) : Prop := i.natAbs < 2 ^ n
theorem Bd.le {n m : Nat} {i : Int} (h : Bd n i) (e : n ≤ m) : Bd m i := Nat.lt_of_lt_of_le h (Nat.pow_le_pow_right (by decide) e)
theorem Bd.mul {n m : Nat} {i j : Int} (h : Bd n i) (k : Bd m j) : Bd (n + m) (i * j) := wide_lt h k
theorem Bd.add {n m : Nat} {i j : Int} (h : Bd n i) (k : Bd m j) : Bd (n + m + 1) (i + j) := by
  have h1 := h.le (Nat.le_add_right n m)
  have h2 := k.le (Nat.le_add_left m n)
  have := Int.natAbs_add_le i j
  unfold Bd at *
  rw [Nat.pow_succ]; omega
theorem Bd.neg {n : Nat} {i : Int} (h : Bd n i) : Bd n (-i) := by unfold Bd; rw [Int.natAbs_neg]; exact h
theorem Bd.sub {n m : Nat} {i j : Int} (h : Bd n i) (k : Bd m j) : Bd (n + m + 1) (i - j) := by
  rw [Int.sub_eq_add_neg]; exact h.add k.neg
theorem Bd.abs {n : Nat} {i : Int} (h : Bd n i) : Bd n (if i < 0 then -i else i) := by
  split
  · exact h.neg
  · exact h
theorem Bd.mod {n : Nat} {i j : Int} (k : Bd n j) (h : 0 < j) : Bd n (i % j) := by
  have h1 := Int.emod_nonneg i (Int.ne_of_gt h)
  have h2 := Int.emod_lt_of_pos i h
  unfold Bd at *; omega
theorem Bd.div {n : Nat} {i j : Int} (h : Bd n i) : Bd n (i / j) := by
  unfold Bd at *
  exact Nat.lt_of_le_of_lt (Int.natAbs_ediv_le_natAbs i j) h
theorem Bd.nat {n a : Nat} (h : a < 2 ^ n) : Bd n (a : Int) := h
theorem cm {n m : Nat} {i j : Int} (h : Bd n i) (k : Bd m j) (e : n + m + 2 ≤ 1000000 := by decide) : CMulW i j :=
  wide_mul (h.le (Nat.le_succ n)) (k.le (Nat.le_succ m)) (Nat.succ_pos _) (Nat.succ_pos _) (by omega)
theorem cdv {n : Nat} {i j : Int} (k : Bd n j) (h : 0 < j) (e : n + 1 ≤ 9000 := by decide) : CDivW i j := wide_div h (k.le (Nat.le_succ n)) (Nat.succ_pos _) e
theorem cdx {n : Nat} {i j : Int} (k : Bd n j) (h : j ≠ 0) (e : n + 1 ≤ 9000 := by decide) : CDivX i j := ⟨h, (wide_div (i := i) (j := ((j.natAbs : Nat) : Int)) (by omega) (by rw [Int.natAbs_natCast]; exact k.le (Nat.le_succ n)) (Nat.succ_pos _) e).2⟩
section
variable {X : Cx} {Γ : List VD} {B B1 B2 B3 B' : Bag} {e a b c : Expr} {es : List Expr} {d da db dc : VD} {pos p pos' : Pos} {rest ss s1 s2 : List Stmt} {E : En}
def AD (X : Cx) (Γ : List VD) (B : Bag) (es : List Expr) (ds : List PyData) (B' : Bag) : Prop := AJ X Γ B es (ds.map .da) B'
theorem ad_nil : AD X Γ B [] [] B := aj_nil
theorem ad_cons {y : PyData} {ds : List PyData} (h : EJ X Γ B e (.da y) B1) (r : AD X Γ B1 es ds B2) (hs : starEach (e :: es) X.env = (false, eval e X.env) :: starEach es X.env := by rfl) : AD X Γ B (e :: es) (y :: ds) B2 := aj_cons h r hs
theorem ej_tupD {ds : List PyData} {k} (h : AD X Γ B es ds B1) (hl : ds.length ≤ 1000 := by decide) : EJ X Γ B (.Tuple es k pos) (.da (.tuple ds)) B1 := ej_tup h hl
theorem ej_lstD {ds : List PyData} (h : AD X Γ B es ds B1) (hl : ds.length ≤ 1000 := by decide) : EJ X Γ B (.List es pos) (.da (.list ds)) B1 := ej_lst h hl
theorem ej_at {ds : List PyData} {i : Int} {y : PyData} {j} (ha : EJ X Γ B a (.da (.tuple ds)) B1) (h : atI ds i = some y := by rfl) : EJ X Γ B (.Subscript a (.Constant (.int i) j p) pos) (.da y) B1 :=
  ej_ixT ha ej_int h fun _ _ => rfl
theorem ej_ifI {x : Bool} {u v : Int} (h : TJ X Γ B c x B1) (h1 : x = true → EJ X Γ B1 a (.da (.int u)) B2) (h2 : x = false → EJ X Γ B1 b (.da (.int v)) B2) : EJ X Γ B (.IfExp c a b pos) (.da (.int (bif x then u else v))) B2 :=
  ej_if h (fun e => by subst e; exact h1 rfl) fun e => by subst e; exact h2 rfl
theorem sj_ifM {x : Bool} (M : List VD → Bag → Prop) (h : TJ X Γ B c x B1) (h1 : x = true → SJ X Γ B1 s1 { E with nx := M }) (h2 : x = false → SJ X Γ B1 s2 { E with nx := M }) (k : ∀ Γ' B', M Γ' B' → SJ X Γ' B' rest E) :
    SJ X Γ B (.If c s1 s2 pos :: rest) E :=
  sj_if h (fun e => sj_mono (h1 e) (fun Γ' B' q => k Γ' B' q) (fun _ _ q => q) (fun _ _ q => q) (fun _ _ q => q)) (fun e => sj_mono (h2 e) (fun Γ' B' q => k Γ' B' q) (fun _ _ q => q) (fun _ _ q => q) (fun _ _ q => q))
theorem wj_andT {y : Bool} (h : TJ X Γ B e true B1) (hr : WJ X Γ B1 (.BoolOp .And (a :: es) pos) y B2) : WJ X Γ B (.BoolOp .And (e :: a :: es) pos) y B2 := fun g σ H0 H E O Q q =>
  ⟨_, pw_and (wt e) (ww _), h g σ H0 H E O _ fun H1 H' t o => iteT (hr g σ H1 H' (E.mono t.ex) o Q fun H2 H'' t2 o2 => q H2 H'' (t.trans t2) o2)⟩
theorem ej_mulC {i j : Int} (ha : EJ X Γ B a (.da (.int i)) B1) (hb : EJ X Γ B1 b (.da (.int j)) B2) (hc : CMul i j) : EJ X Γ B (.BinOp a .Mult b pos) (.da (.int (i * j))) B2 :=
  ej_iic ha hb op_mul hc fun _ => .int _
theorem eqv_refl_of {y : PyData} (h : SeqAt.shaped y = true) : PyData.eqv y y = true := SeqAt.eqv_refl y (SeqAt.canLay_of_shaped h)
end
def At (K : PySem.W.Frag) (mg : Str → Option Value) (x : Str) (st : Stmt) (ps : List Str) : Prop :=
  ∃ f fd, Fun K x x st f fd ∧ mg x = some (.ref f) ∧ Binds K fd ps []
theorem cal_at {P : Program} {w : World} {K : PySem.W.Frag} {mg : Str → Option Value} {base : Heap} {x : Str} {st : Stmt}
    {N ps : List Str} {k : Nat} {R : Rel} (T : At K mg x st ps) (S : FnScope N ps (defScope st))
    (len : ∀ Γ B r B', R Γ B r B' → Γ.length = ps.length)
    (body : ∀ (f : Addr) (cdv : Value) (A : Around) (out : List Env) (s : Shared) (H : Hp) (E : XK),
      Gx k (cxOf CX0 P w K mg base N x (defScope st) f cdv A out s H E).nox → ∀ Γ B r B', R Γ B r B' →
      SJ (cxOf CX0 P w K mg base N x (defScope st) f cdv A out s H E).nox (Γ ++ List.replicate (N.length - ps.length) .no) B (defBody st)
        { nx := fun _ B2 => r = .none ∧ B2 = B', rt := fun d B2 => d = r ∧ B2 = B' }) :
    Cal P w K mg base x (k + 1) R := by
  obtain ⟨f, fd, F, hm, hb⟩ := T
  exact cal_of F hm hb S len fun cdv A out s H E G => body f cdv A out s H E G
end Gd
namespace Fr
open Gd PySem
open scoped Rat
def fq (q : Rat) : PyData := .tuple [.int q.num, .int (q.den : Int)]
def com (n d : Int) : Int := if d < 0 then -((Nat.gcd n.natAbs d.natAbs : Nat) : Int) else ((Nat.gcd n.natAbs d.natAbs : Nat) : Int)
theorem com_ne {n d : Int} (h : d ≠ 0) : com n d ≠ 0 := by
  have : 0 < Nat.gcd n.natAbs d.natAbs := Nat.gcd_pos_of_pos_right _ (by omega)
  unfold com; split <;> omega
theorem com_bd {n d : Int} {k : Nat} (h : d ≠ 0) (b : Bd k d) : Bd k (com n d) := by
  have h1 : Nat.gcd n.natAbs d.natAbs ≤ d.natAbs := Nat.gcd_le_right _ (by omega)
  unfold Bd com at *; split <;> omega
theorem red_num {n d : Int} (h : d ≠ 0) : n.fdiv (com n d) = (n /. d).num := by
  rw [Rat.num_divInt]
  have hg : (d.gcd n : Int) = (Nat.gcd n.natAbs d.natAbs : Nat) := by rw [Int.gcd_comm]; rfl
  rw [hg]
  unfold com
  by_cases hd : d < 0
  · rw [if_pos hd, Int.sign_eq_neg_one_of_neg hd, Int.neg_one_mul]
    have := Int.neg_fdiv_neg (-n) ((Nat.gcd n.natAbs d.natAbs : Nat) : Int)
    rw [Int.neg_neg] at this
    rw [this, Int.fdiv_eq_ediv_of_nonneg _ (Int.natCast_nonneg _)]
  · rw [if_neg hd, Int.sign_eq_one_of_pos (by omega), Int.one_mul, Int.fdiv_eq_ediv_of_nonneg _ (Int.natCast_nonneg _)]
theorem red_den {n d : Int} (h : d ≠ 0) : d.fdiv (com n d) = ((n /. d).den : Int) := by
  rw [Rat.den_divInt, if_neg h]
  have hg : d.gcd n = Nat.gcd n.natAbs d.natAbs := by rw [Int.gcd_comm]; rfl
  rw [hg]
  unfold com
  by_cases hd : d < 0
  · rw [if_pos hd]
    have := Int.neg_fdiv_neg (-d) ((Nat.gcd n.natAbs d.natAbs : Nat) : Int)
    rw [Int.neg_neg] at this
    rw [this, Int.fdiv_eq_ediv_of_nonneg _ (Int.natCast_nonneg _)]
    rw [Int.natCast_ediv]
    have : -d = (d.natAbs : Int) := by omega
    rw [this]
  · rw [if_neg hd, Int.fdiv_eq_ediv_of_nonneg _ (Int.natCast_nonneg _), Int.natCast_ediv]
    have : d = (d.natAbs : Int) := by omega
    conv => lhs; lhs; rw [this]
theorem divInt_bd {n d : Int} {a b : Nat} (h : d ≠ 0) (ha : Bd a n) (hb : Bd b d) : Bd a (n /. d).num ∧ Bd b ((n /. d).den : Int) := by
  constructor
  · rw [← red_num h]
    unfold Bd at *
    refine Nat.lt_of_le_of_lt ?_ ha
    rw [red_num h, Rat.num_divInt]
    refine Nat.le_trans (Int.natAbs_ediv_le_natAbs _ _) ?_
    rw [Int.natAbs_mul, Int.natAbs_sign_of_ne_zero h, Nat.one_mul]
    exact Nat.le_refl _
  · unfold Bd at *
    rw [Int.natAbs_natCast, Rat.den_divInt, if_neg h]
    exact Nat.lt_of_le_of_lt (Nat.div_le_self _ _) hb
theorem den_pos (q : Rat) : (0 : Int) < (q.den : Int) := Int.natCast_pos.mpr q.den_pos
theorem den_ne (q : Rat) : (q.den : Int) ≠ 0 := Int.ne_of_gt (den_pos q)
theorem self_div (q : Rat) : q.num /. (q.den : Int) = q := Rat.num_divInt_den q
theorem add_div (x y : Rat) : (x.num * (y.den : Int) + y.num * (x.den : Int)) /. ((x.den : Int) * (y.den : Int)) = x + y := by
  rw [← Rat.divInt_add_divInt _ _ (den_ne x) (den_ne y), self_div, self_div]
theorem mul_div (x y : Rat) : (x.num * y.num) /. ((x.den : Int) * (y.den : Int)) = x * y := by
  rw [← Rat.divInt_mul_divInt, self_div, self_div]
theorem div_div (x y : Rat) (h : y ≠ 0) : (x.num * (y.den : Int)) /. ((x.den : Int) * y.num) = x / y := by
  rw [← Rat.divInt_mul_divInt, self_div, Rat.div_def, Rat.inv_def]
end Fr
namespace Gd
open PySem PySem.Spec PyProof.Rows L2
mutual
def nice : PyData → Bool
  | .none => true
  | .bool _ => true
  | .int i => decide (Nat.log2 i.natAbs < 1920)
  | .str x => x.cps.all fun c => c < 0x110000
  | .list xs => niceAll xs
  | .tuple xs => niceAll xs
  | .dict _ => false
def niceAll : List PyData → Bool
  | [] => true
  | x :: xs => nice x && niceAll xs
end
mutual
theorem nice_sh : ∀ d : PyData, nice d = true → d.showable = true
  | .none, _ => by simp only [PyData.showable]
  | .bool _, _ => by simp only [PyData.showable]
  | .int i, h => by simp only [nice] at h; simp only [PyData.showable]; exact h
  | .str _, _ => by simp only [PyData.showable]
  | .list xs, h => by simp only [nice] at h; simp only [PyData.showable]; exact nice_shA xs h
  | .tuple xs, h => by simp only [nice] at h; simp only [PyData.showable]; exact nice_shA xs h
  | .dict _, h => by simp only [nice] at h; cases h
theorem nice_shA : ∀ ds : List PyData, niceAll ds = true → PyData.showableAll ds = true
  | [], _ => by
    simp only [PyData.showableAll]
  | x :: xs, h => by
    simp only [niceAll, Bool.and_eq_true] at h
    simp only [PyData.showableAll, Bool.and_eq_true]; exact ⟨nice_sh x h.1, nice_shA xs h.2⟩
end
mutual
theorem nice_nd : ∀ d : PyData, nice d = true → d.hasDict = false
  | .none, _ => by simp only [PyData.hasDict]
  | .bool _, _ => by simp only [PyData.hasDict]
  | .int i, h => by simp only [PyData.hasDict]
  | .str _, _ => by simp only [PyData.hasDict]
  | .list xs, h => by simp only [nice] at h; simp only [PyData.hasDict]; exact nice_ndA xs h
  | .tuple xs, h => by simp only [nice] at h; simp only [PyData.hasDict]; exact nice_ndA xs h
  | .dict _, h => by simp only [nice] at h; cases h
theorem nice_ndA : ∀ ds : List PyData, niceAll ds = true → PyData.hasDictAll ds = false
  | [], _ => by simp only [PyData.hasDictAll]
  | x :: xs, h => by
    simp only [niceAll, Bool.and_eq_true] at h
    simp only [PyData.hasDictAll, Bool.or_eq_false_iff]; exact ⟨nice_nd x h.1, nice_ndA xs h.2⟩
end
mutual
theorem nice_lay : ∀ d : PyData, nice d = true → d.canLay0 = true
  | .none, _ => by simp only [PyData.canLay0]
  | .bool _, _ => by simp only [PyData.canLay0]
  | .int i, h => by simp only [PyData.canLay0]
  | .str _, h => by simp only [nice] at h; simp only [PyData.canLay0]; exact h
  | .list xs, h => by simp only [nice] at h; simp only [PyData.canLay0]; exact nice_layA xs h
  | .tuple xs, h => by simp only [nice] at h; simp only [PyData.canLay0]; exact nice_layA xs h
  | .dict _, h => by simp only [nice] at h; cases h
theorem nice_layA : ∀ ds : List PyData, niceAll ds = true → PyData.canLayAll0 ds = true
  | [], _ => by simp only [PyData.canLayAll0]
  | x :: xs, h => by
    simp only [niceAll, Bool.and_eq_true] at h
    simp only [PyData.canLayAll0, Bool.and_eq_true]; exact ⟨nice_lay x h.1, nice_layA xs h.2⟩
end
mutual
theorem nice_short : ∀ d : PyData, nice d = true → d.leavesShort 1921 = true
  | .none, _ => by simp only [PyData.leavesShort]
  | .bool _, _ => by simp only [PyData.leavesShort]
  | .int i, h => by
    simp only [nice, decide_eq_true_eq] at h
    simp only [PyData.leavesShort, decide_eq_true_eq, PyData.shown_int]
    exact int_text_len_1921 h
  | .str x, h => by
    simp only [nice] at h
    simp only [PyData.leavesShort, List.all_eq_true, decide_eq_true_eq]
    intro c hc
    have h2 := Array.all_eq_true'.mp h c (by simpa using hc)
    have h3 : c < 0x110000 := of_decide_eq_true h2
    omega
  | .list xs, h => by simp only [nice] at h; simp only [PyData.leavesShort]; exact nice_shortA xs h
  | .tuple xs, h => by simp only [nice] at h; simp only [PyData.leavesShort]; exact nice_shortA xs h
  | .dict _, h => by simp only [nice] at h; cases h
theorem nice_shortA : ∀ ds : List PyData, niceAll ds = true → PyData.leavesShortAll 1921 ds = true
  | [], _ => by simp only [PyData.leavesShortAll]
  | x :: xs, h => by
    simp only [niceAll, Bool.and_eq_true] at h
    simp only [PyData.leavesShortAll, Bool.and_eq_true]; exact ⟨nice_short x h.1, nice_shortA xs h.2⟩
end
structure Okd (d : PyData) : Prop where
  nice : Gd.nice d = true
  dp : d.depth ≤ 60
  bulk : d.bulk ≤ 5000
theorem Okd.shows {d : PyData} (h : Okd d) : Shows d := ⟨nice_sh d h.nice, nice_nd d h.nice, h.dp, by
  have h1 := PyData.shown_le_bulk 1921 (by decide) d (nice_short d h.nice)
  have h2 := h.bulk
  rw [show sizeLine = 16777216 from by decide]
  omega⟩
theorem Okd.shaped {d : PyData} (h : Okd d) : SeqAt.shaped d = true := by
  unfold SeqAt.shaped
  rw [nice_lay d h.nice, Bool.true_and, decide_eq_true_eq]
  have := h.dp; omega
theorem nice_int {n : Nat} {i : Int} (h : Bd n i) (e : n ≤ 1920 := by decide) : nice (.int i) = true := by
  simp only [nice, decide_eq_true_eq]
  by_cases h0 : 0 < n
  · exact Nat.lt_of_lt_of_le (PySem.Flt.log2_lt_of h0 h) e
  · have : n = 0 := by omega
    subst this
    have : i.natAbs = 0 := by unfold Bd at h; omega
    rw [this]; decide
theorem niceAll_cons {d : PyData} {ds : List PyData} (h : nice d = true) (r : niceAll ds = true) : niceAll (d :: ds) = true := by simp only [niceAll, h, r, Bool.and_self]
theorem niceAll_nil : niceAll [] = true := by simp only [niceAll]
theorem nice_list {ds : List PyData} (r : niceAll ds = true) : nice (.list ds) = true := by simp only [nice]; exact r
theorem nice_tuple {ds : List PyData} (r : niceAll ds = true) : nice (.tuple ds) = true := by simp only [nice]; exact r
end Gd
namespace Gd
open PySem PySem.Spec PyProof.Rows L2
theorem at_mk {K : PySem.W.Frag} {h : Heap} {mg : Str → Option Value} {x : Str} {st : Stmt} (ps : List Str) {f : Addr} {oc : Value} {od an : Option Addr} {osl : Array (Option Value)} {kV doc pm cdv ct : Value}
    (X : K.In h) (G : h.Ns mainGlobals mg) (a : PySem.W.nsIn K mainGlobals x = some (some (.ref f)))
    (l : K.lookup f = some ⟨oc, od, .func (PySem.W.fnOf x x (defArgs st) (defBody st) (defScope st) .none kV doc pm an cdv ct), osl⟩) (c : PySem.W.codeIn K cdv x = true) (k : PySem.W.keepIn K (.ref f) = true)
    (b : ∀ (kV doc pm : Value) (an : Option Addr) (cdv ct : Value) (us : List Value), us.length = ps.length → bindArgs (PySem.W.fnOf x x (defArgs st) (defBody st) (defScope st) .none kV doc pm an cdv ct) ⟨us, []⟩ = pure (ps.zip us)) :
    At K mg x st ps := ⟨f, _, fun_mk l c k, PySem.W.mg_of X G a, (fun_mk (st := st) l c k).binds b⟩
theorem law_mk {P : Program} {w : World} {K : PySem.W.Frag} {h : Heap} {mg : Str → Option Value} {st : Stmt} {fa f : Addr} {oc : Value} {od an : Option Addr} {osl : Array (Option Value)} {kV doc pm cdv ct : Value} {n : Nat}
    (X : K.In h) (G : h.Ns mainGlobals mg) (hfa : mg "law" = some (.ref fa)) (a : PySem.W.nsIn K mainGlobals "law" = some (some (.ref f)))
    (l : K.lookup f = some ⟨oc, od, .func (PySem.W.fnOf "law" "law" (defArgs st) (defBody st) (defScope st) .none kV doc pm an cdv ct), osl⟩) (c : PySem.W.codeIn K cdv "law" = true) (k : PySem.W.keepIn K (.ref f) = true)
    (b : ∀ (s : Shared) (v : Value), BindsTo s (PySem.W.fnOf "law" "law" (defArgs st) (defBody st) (defScope st) .none kV doc pm an cdv ct) ⟨[v], []⟩ [("_law_script", v)])
    (H : ∀ (base : Heap) (f : Addr) (fd : FuncData), Fun K "law" "law" st f fd → FnG P w K mg base n f fd ["_law_script"] (spLaw K)) :
    ∃ fd : FuncData, (∀ (s : Shared) (v : Value), BindsTo s fd ⟨[v], []⟩ [("_law_script", v)]) ∧ ∀ base : Heap, K.In base → base.Ns mainGlobals mg → FnG P w K mg base n fa fd ["_law_script"] (spLaw K) := by
  have e := hfa.symm.trans (PySem.W.mg_of X G a)
  cases e
  exact ⟨_, b, fun base _ _ => H base _ _ (fun_mk l c k)⟩
end Gd
namespace Gd
open PySem PySem.Spec PyProof.Rows L2
def keyT (e : Int × Value) : Str := match e.2 with | .str k _ => k | _ => Str.empty
def TxE (w : World) (e : Int × Value) : Prop := ∃ k tk, e.2 = Value.str k tk ∧ e.1 = hashStr w k
structure TxAt (w : World) (l : List Str) (o : Obj) (es : Array (Int × Value)) (t : SetTable) : Prop where
  ex : o.ExactSet
  el : ∀ e ∈ es.toList, TxE w e
  nd : (es.toList.map keyT).Nodup
  me : ∀ k, k ∈ es.toList.map keyT ↔ k ∈ l
  sz : es.size ≤ l.length
  ft : t.fits es.size = true
  ri : Ris t.place.toList
  ld : w.params.followText "set-order" = true ∨ t.led = true
def TxSet (w : World) (h : Heap) (a : Addr) (l : List Str) : Prop := ∃ o es ep t, h.get? a = some o ∧ o.data = .set es ep t ∧ TxAt w l o es t
theorem TxSet.at {w : World} {h h' : Heap} {a : Addr} {l : List Str} (R : TxSet w h a l) (k : ∀ o, h.get? a = some o → h'.get? a = some o) : TxSet w h' a l :=
  let ⟨o, es, ep, t, ho, r⟩ := R; ⟨o, es, ep, t, k o ho, r⟩
section
variable {P : Program} {w : World} {A : Around} {E : Value → Shared → Prop} {s : Shared} {a : Addr} {l : List Str}
end
end Gd
namespace Gd
open PySem PySem.Spec PyProof.Rows L2
section
variable {P : Program} {w : World} {A : Around} {s : Shared} {E : Value → Shared → Prop}
end
end Gd
namespace Gd
open PySem PySem.Spec PyProof.Rows L2
section
variable {P : Program} {w : World} {A : Around} {E : Value → Shared → Prop} {s : Shared} {a : Addr} {l : List Str}
end
section
variable {X : Cx}
theorem vals_strs {vs : List Value} {ns : List Str} (h : StrsAre vs ns) : Vals (ns.map V.str) vs := by
  induction h with
  | nil => exact .nil
  | cons y t _ ih => exact .cons ⟨t, rfl⟩ ih
end
end Gd
namespace Gd
open PySem PySem.Spec PyProof.Rows L2
structure Own (K : PySem.W.Frag) (i : Nat) (g : Gh) (A0 A1 : Hp) (a : Addr) (B : Bag) (Γ : List VD) (acc : List PyData) (σ : L2.St) (H0 H : Hp) : Prop where
  to : To g A0 A1 H0 H
  fr : A1 a = none
  off : Off g a
  ev : EnvD K g H0 σ Γ
  at' : σ[i]? = some (some (.ref a))
  no : H0 a = none
  ls : ∃ zs, H a = some (.lst zs) ∧ RpAll K H0 zs acc
  on : On K g B H0 H
theorem Own.freeze {K : PySem.W.Frag} {i : Nat} {g : Gh} {A0 A1 : Hp} {a : Addr} {B : Bag} {Γ : List VD} {acc : List PyData} {σ : L2.St} {H0 H : Hp} (O : Own K i g A0 A1 a B Γ acc σ H0 H) :
    ∃ H1, To g A0 A1 H1 H ∧ EnvD K g H1 σ (Γ.set i (.da (.list acc))) ∧ On K g B H1 H := by
  obtain ⟨zs, hz, rz⟩ := O.ls
  have sm : Same H0 (upd H0 a (.lst zs)) := fun b o e => by
    rw [upd_ne fun z : b = a => by rw [z, O.no] at e; cases e]; exact e
  refine ⟨upd H0 a (.lst zs), ⟨O.to.ex.trans sm, fun b o f h1 h2 => ?_⟩, ?_, ⟨fun b o e => ?_, fun b l e => ?_⟩⟩
  · have hb : b ≠ a := fun z => by rw [z, O.fr] at h2; cases h2
    obtain ⟨p, q⟩ := O.to.un b o f h1 h2
    exact ⟨by rw [upd_ne hb]; exact p, q⟩
  · have e := (O.ev.mono sm).set (v := .ref a) (d := .da (.list acc)) i (Rp.lst upd_same (rz.mono sm))
    have es : σ.set i (some (.ref a)) = σ := by
      apply List.ext_getElem?
      intro j
      by_cases hj : i = j
      · subst hj
        rw [List.getElem?_set_self (List.getElem?_eq_some_iff.mp O.at').1, O.at']
      · rw [List.getElem?_set_ne hj]
    rw [es] at e; exact e
  · by_cases hb : b = a
    · subst hb; rw [upd_same] at e; rw [hz]; exact e
    · rw [upd_ne hb] at e; exact O.on.ex b o e
  · obtain ⟨p, q, r⟩ := O.on.bag b l e
    have hb : b ≠ a := fun z => O.off l (z ▸ e)
    have hl : l ≠ a := fun z => by rw [z, O.no] at r; cases r
    exact ⟨by rw [upd_ne hb]; exact p, q, by rw [upd_ne hl]; exact r⟩
structure EnO where
  nx : List VD → Bag → List PyData → Prop
  fx : List VD → Bag → Prop
  rt : PyData → Bag → Prop
  bk : List VD → Bag → List PyData → Prop := fun _ _ _ => False
  ct : List VD → Bag → List PyData → Prop := fun _ _ _ => False
  ro : List PyData → Bag → Prop := fun _ _ => False
structure GetsO (X : Cx) (i : Nat) (E : EnO) (g : Gh) (A0 A1 : Hp) (a : Addr) (S : Hp) (D : Ends) : Prop where
  nx : ∀ Γ B acc σ H0 H, E.nx Γ B acc → Own X.K i g A0 A1 a B Γ acc σ H0 H → Same S H0 → D.nx σ H
  fx : ∀ Γ B σ H0 H, E.fx Γ B → To g A0 A1 H0 H → EnvD X.K g H0 σ Γ → On X.K g B H0 H → D.nx σ H
  rt : ∀ r B v H0 H, E.rt r B → To g A0 A1 H0 H → On X.K g B H0 H → Rp X.K H0 v r → D.rt v H
  bk : ∀ Γ B acc σ H0 H, E.bk Γ B acc → Own X.K i g A0 A1 a B Γ acc σ H0 H → Same S H0 → D.bk σ H
  ct : ∀ Γ B acc σ H0 H, E.ct Γ B acc → Own X.K i g A0 A1 a B Γ acc σ H0 H → Same S H0 → D.ct σ H
  ro : ∀ Γ B acc σ H0 H, E.ro acc B → Own X.K i g A0 A1 a B Γ acc σ H0 H → Same S H0 → D.rt (.ref a) H
theorem GetsO.on {X : Cx} {i : Nat} {E : EnO} {g : Gh} {A0 A1 : Hp} {a : Addr} {S S' : Hp} {D : Ends} (G : GetsO X i E g A0 A1 a S D) (e : Same S S') : GetsO X i E g A0 A1 a S' D :=
  ⟨fun Γ B acc σ H0 H q w m => G.nx Γ B acc σ H0 H q w (e.trans m), G.fx, G.rt, fun Γ B acc σ H0 H q w m => G.bk Γ B acc σ H0 H q w (e.trans m), fun Γ B acc σ H0 H q w m => G.ct Γ B acc σ H0 H q w (e.trans m), fun Γ B acc σ H0 H q w m => G.ro Γ B acc σ H0 H q w (e.trans m)⟩
def OwJ (X : Cx) (i : Nat) (Γ : List VD) (B : Bag) (acc : List PyData) (ss : List Stmt) (E : EnO) : Prop :=
  ∀ g σ A0 A1 a H0 H, Own X.K i g A0 A1 a B Γ acc σ H0 H → ∀ D : Ends, GetsO X i E g A0 A1 a H0 D → WS X ss D σ H
def FJ (X : Cx) (Γ : List VD) (B : Bag) (e : Expr) (ds : List PyData) (B' : Bag) : Prop :=
  ∀ g σ H0 H, EnvD X.K g H0 σ Γ → On X.K g B H0 H → ∀ Q : VK,
    (∀ a zs H0' H', To g H0 H H0' H' → On X.K g B' H0' H' → RpAll X.K H0' zs ds → H' a = none → Q (.ref a) (upd H' a (.lst zs))) → WE X e σ H Q
section
variable {X : Cx} {i : Nat} {Γ : List VD} {B B1 B2 B' : Bag} {acc ds : List PyData} {e a b c : Expr} {es : List Expr} {d da db : VD} {y : PyData} {pos p p1 p2 p3 pos' : Pos} {rest ss s1 s2 : List Stmt} {E : EnO}
theorem fj_lst (h : AJ X Γ B es (ds.map .da) B1) (hl : ds.length ≤ 1000) : FJ X Γ B (.List es pos) ds B1 := fun g σ H0 H E O Q q =>
  ⟨_, pe_lst (wa es), h g σ H0 H E O _ fun vs H1 H' t o rs => by
    have rs := RvAll.dat rs
    exact ⟨by rw [rs.length]; exact Nat.le_of_lt (small1000 hl), fun p n => q p vs H1 H' t o rs n⟩⟩
theorem fj_lstD (h : AD X Γ B es ds B1) (hl : ds.length ≤ 1000 := by decide) : FJ X Γ B (.List es pos) ds B1 := fj_lst h hl
theorem sj_own {x : Str} {Es : En} (i : Nat) (nd : X.N.Nodup) (h : FJ X Γ B e ds B1) (hΓ : i < Γ.length)
    (k : OwJ X i (Γ.set i .no) B1 ds rest { nx := fun Γ' B' acc => Es.nx (Γ'.set i (.da (.list acc))) B', fx := Es.nx, rt := Es.rt, bk := fun Γ' B' acc => Es.bk (Γ'.set i (.da (.list acc))) B', ct := fun Γ' B' acc => Es.ct (Γ'.set i (.da (.list acc))) B' })
    (hi : X.N[i]? = some x := by rfl) (hx : Loc X.env.scope x := by first | exact Or.inl rfl | exact Or.inr rfl) (hs : swapsWith e (some (.Name x pos')) pos.line X.env = pure false := by rfl)
    (hf : X.fn x = true ∨ X.env.scope.names.lookup x = some .local := by first | exact Or.inl rfl | exact Or.inr rfl) : SJ X Γ B (.Assign [.Name x pos'] e pos :: rest) Es := fun g σ H0 H Ev O D G =>
  ⟨_, pss_cons (ps_set nd hi hx (we e) hs hf) (ws rest), h g σ H0 H Ev O _ fun a zs H1 H' t o r n => by
    have n1 : H1 a = none := o.ex.free n
    have off : Off g a := fun l z => by
      obtain ⟨_, q, _⟩ := o.bag a l z
      rw [n] at q; cases q
    have on : On X.K g B1 H1 (upd H' a (.lst zs)) := ⟨fun b u q => by
      rw [upd_ne (ne_of_none q n1)]; exact o.ex b u q, fun b l q => by
      obtain ⟨p1, p2, p3⟩ := o.bag b l q
      exact ⟨p1, by rw [upd_ne (ne_of_none p2 n)]; exact p2, p3⟩⟩
    have hi' : i < σ.length := by rw [Ev.len]; exact hΓ
    have ev : EnvD X.K g H1 (σ.set i (some (.ref a))) (Γ.set i .no) := (Ev.mono t.ex).set i (show Rv X.K g H1 (.ref a) .no from trivial)
    refine k g _ H1 H' a H1 _ ⟨⟨Same.refl _, fun b u f h1 h2 => ⟨h1, by rw [upd_ne (ne_of_none h2 n)]; exact h2⟩⟩, n, off, ev, List.getElem?_set_self hi', n1, ⟨zs, upd_same, r⟩, on⟩ D ⟨?_, ?_, ?_, ?_, ?_, ?_⟩
    · intro Γ' B' acc σ' H2 H2' q w _
      obtain ⟨H3, t3, e3, o3⟩ := w.freeze
      exact G.nx _ _ _ _ _ q (t.trans t3) e3 o3
    · intro Γ' B' σ' H2 H2' q t2 e2 o2
      exact G.nx _ _ _ _ _ q (t.trans t2) e2 o2
    · intro r B' v H2 H2' q t2 o2 rv
      exact G.rt _ _ _ _ _ q (t.trans t2) o2 rv
    · intro Γ' B' acc σ' H2 H2' q w _
      obtain ⟨H3, t3, e3, o3⟩ := w.freeze
      exact G.bk _ _ _ _ _ q (t.trans t3) e3 o3
    · intro Γ' B' acc σ' H2 H2' q w _
      obtain ⟨H3, t3, e3, o3⟩ := w.freeze
      exact G.ct _ _ _ _ _ q (t.trans t3) e3 o3
    · intro _ _ _ _ _ _ q; exact q.elim⟩
theorem ow_end (h : SJ X (Γ.set i (.da (.list acc))) B ss { nx := E.fx, rt := E.rt }) : OwJ X i Γ B acc ss E := fun g σ A0 A1 a H0 H w D G => by
  obtain ⟨H1, t, ev, o⟩ := w.freeze
  exact h g σ H1 H ev o D ⟨fun Γ' B' σ' H2 H2' q t2 e2 o2 => G.fx _ _ _ _ _ q (t.trans t2) e2 o2, fun r B' v H2 H2' q t2 o2 rv => G.rt _ _ _ _ _ q (t.trans t2) o2 rv, fun _ _ _ _ _ q => q.elim, fun _ _ _ _ _ q => q.elim⟩
theorem ow_nil (h : E.nx Γ B acc) : OwJ X i Γ B acc [] E := fun g σ A0 A1 a H0 H w D G => ⟨_, pss_nil, G.nx _ _ _ _ _ _ h w (Same.refl _)⟩
theorem Own.step {K : PySem.W.Frag} {g : Gh} {A0 A1 : Hp} {a : Addr} {σ : L2.St} {H0 H H0' H' : Hp} (w : Own K i g A0 A1 a B Γ acc σ H0 H) (t : To g H0 H H0' H') (o : On K g B1 H0' H') : Own K i g A0 A1 a B1 Γ acc σ H0' H' := by
  obtain ⟨zs, hz, rz⟩ := w.ls
  obtain ⟨p, q⟩ := t.un a _ w.off w.no hz
  exact ⟨w.to.trans t, w.fr, w.off, w.ev.mono t.ex, w.at', p, ⟨zs, q, rz.mono t.ex⟩, o⟩
theorem ow_app {x : Str} (nd : X.N.Nodup) (h : EJ X Γ B e (.da y) B1) (hl : acc.length < 1000) (k : OwJ X i Γ B1 (acc ++ [y]) rest E) (hi : X.N[i]? = some x := by rfl)
    (hv : Vis X.env.scope x := by first | exact Or.inl rfl | exact Or.inr (Or.inl rfl) | exact Or.inr (Or.inr rfl))
    (h1 : (x == ("__debug__" : Str)) = false := by decide) (h2 : (x == ("__classdict__" : Str)) = false := by decide)
    (hbase : attributeBase (.Name x p1) "append" X.env (eval (.Name x p1) X.env) = eval (.Name x p1) X.env := by rfl)
    (hfew : ((backTo p3 (starEach [e] X.env)).all (fun x => !x.1) && (backToKw p3 (keywordEach [] X.env)).all (fun x => x.1.isSome)
      && decide ([e].length + ([] : List Keyword).length + (if ([] : List Keyword).isEmpty then 0 else 1) < 30)) = true := by rfl)
    (hline : (p2.endLine == p3.line) = true := by rfl) (hst : starEach [e] X.env = [(false, eval e X.env)] := by rfl)
    (hs : swapsWith (.Call (.Attribute (.Name x p1) "append" p2) [e] [] p3) none pos.line X.env = pure false := by rfl) :
    OwJ X i Γ B acc (.Expr (.Call (.Attribute (.Name x p1) "append" p2) [e] [] p3) pos :: rest) E := fun g σ A0 A1 a H0 H w D G =>
  ⟨_, pss_cons (ps_expr (pe_bm PySem.F.plainAttrs_list PySem.F.slot_list_append PySem.F.type_list_append mt_append (pe_var hi hv h1 h2) (wa [e]) hbase hfew hline hst rfl) hs) (ws rest), by
    obtain ⟨zs, hz, rz⟩ := w.ls
    refine ⟨_, w.at', .inl ⟨rfl, _, SqL.of hz⟩, ?_⟩
    refine (aj_cons (ds := []) h aj_nil hst) g σ H0 H w.ev w.on _ fun vs H1 H' t o rs => ?_
    obtain ⟨v, rfl, rv⟩ := rv1 rs
    have w2 := w.step t o
    obtain ⟨zs2, hz2, rz2⟩ := w2.ls
    refine ⟨a, zs2, v, rfl, rfl, hz2, by rw [rz2.length]; exact small1000 (Nat.le_of_lt hl), ?_⟩
    refine k g σ A0 A1 a H1 _ ⟨⟨w2.to.ex, fun b u f q1 q2 => ?_⟩, w2.fr, w2.off, w2.ev, w2.at', w2.no, ⟨zs2 ++ [v], upd_same, rz2.app (.cons rv .nil)⟩, ⟨fun b u q => ?_, fun b l q => ?_⟩⟩ D (G.on t.ex)
    · obtain ⟨p, q⟩ := w2.to.un b u f q1 q2
      exact ⟨p, by rw [upd_ne (ne_of_none q2 w2.fr)]; exact q⟩
    · rw [upd_ne (ne_of_none q w2.no)]; exact w2.on.ex b u q
    · obtain ⟨p1, p2, p3⟩ := w2.on.bag b l q
      exact ⟨p1, by rw [upd_ne fun z : b = a => w2.off l (z ▸ q)]; exact p2, p3⟩⟩
end
end Gd
namespace Gd
open PySem PySem.Spec PyProof.Rows L2
section
variable {X : Cx} {Γ : List VD} {B B1 B2 B' : Bag} {e a b c : Expr} {es : List Expr} {d da db dc : VD} {pos p p' pos' : Pos} {rest ss s1 s2 : List Stmt} {E : En}
theorem RpAll.bools_of {K : PySem.W.Frag} {H : Hp} : ∀ {xs : List V} {ns : List Bool}, RpAll K H xs (ns.map PyData.bool) → xs = ns.map V.bl
  | [], [], _ => rfl
  | _ :: _, n :: ns, .cons h r => by
    cases h
    rw [RpAll.bools_of r]; rfl
theorem ej_all {bs : List Bool} (hc : X.calm = true) (hm : X.mg "all" = none) (ha : EJ X Γ B a (.da (.list (bs.map .bool))) B1) (hs : starEach [a] X.env = [(false, eval a X.env)] := by rfl) (hg : Gl X "all" := by rfl) :
    EJ X Γ B (.Call (.Name "all" p) [a] [] pos) (.da (.bool (bs.all id))) B1 :=
  ej_callB (cr_all hc) hm (aj_cons ha aj_nil hs) (fun g vs H0 H O r Q q => by
    obtain ⟨v, rfl, h⟩ := rv1 r
    obtain ⟨p, xs, rfl, hx, rs⟩ := rvL h
    rw [RpAll.bools_of rs] at hx
    exact ⟨p, bs, rfl, SqL.of (O.ex _ _ hx), q _ _ _ To.refl O (Rp.bl _)⟩) (hg := hg) (he := hs)
theorem RpAll.strs {K : PySem.W.Frag} {H : Hp} : ∀ ns : List Str, RpAll K H (ns.map V.str) (ns.map PyData.str)
  | [] => .nil
  | n :: ns => .cons (.str n) (RpAll.strs ns)
def Glob (K : PySem.W.Frag) (mg : Str → Option Value) (x : Str) (d : PyData) : Prop := ∃ v u, mg x = some u ∧ RelV v u ∧ ∀ H, Rp K H v d
theorem ej_glob {x : Str} {y : PyData} (G : Glob X.K X.mg x y) (hg : Gl X x := by rfl) (hd : (x == ("__debug__" : Str)) = false := by decide) : EJ X Γ B (.Name x pos) (.da y) B :=
  let ⟨_, _, hm, r, h⟩ := G; ej_c (pe_glob hg hm r hd) h
end
theorem sq_keep {K : PySem.W.Frag} {H : Hp} {a : Addr} {od : Option Addr} {its : Array Value} {n : Nat} {sl : Array (Option Value)} {xs : List V} (h : K.lookup a = some ⟨.type "tuple", od, .seq its n, sl⟩) (hz : its.size ≤ 60) (r : Vals xs its.toList) : SqT K H a xs :=
  .inr ⟨_, its, n, h, rfl, rfl, Nat.le_trans hz (by rw [sizeLine_eq]; decide), r⟩
end Gd
namespace Gd
open PySem PySem.Spec PyProof.Rows L2
section
variable {X : Cx} {Γ : List VD} {B B1 B2 B' : Bag} {e a b c : Expr} {es : List Expr} {d da db dc : VD} {pos p p' pos' : Pos} {rest ss s1 s2 : List Stmt} {E : En}
theorem shaped_ii (a b : Int) : SeqAt.shaped (.tuple [.int a, .int b]) = true := by
  unfold SeqAt.shaped
  have h1 : (PyData.tuple [.int a, .int b]).canLay0 = true := by simp only [PyData.canLay0, PyData.canLayAll0, Bool.and_self]
  rw [h1]; rfl
theorem eqv_ii (a b c d : Int) : PyData.eqv (.tuple [.int a, .int b]) (.tuple [.int c, .int d]) = (decide (a = c) && decide (b = d)) := by
  simp only [PyData.eqv, PyData.eqvAll, Bool.and_true]
  rw [← eqv_int, ← eqv_int]
  simp only [PyData.eqv]
end
end Gd
namespace Gd
open PySem PySem.Spec PyProof.Rows L2
section
variable {X : Cx} {Γ : List VD} {B B1 B2 B' : Bag} {a b : Expr} {pos : Pos}
theorem ej_inT {x : Str} {ss : List Str} (ha : EJ X Γ B a (.da (.str x)) B1) (hb : EJ X Γ B1 b (.da (.tuple (ss.map .str))) B2) (hm : behindInMarks .In b = false := by rfl) :
    EJ X Γ B (.Compare a [.In] [b] pos) (.da (.bool (ss.any fun s => decide (s = x)))) B2 :=
  ej_bin ha hb (fun _ _ h1 h2 => pe_cmpR op_in_seq h1 h2 hm) fun g v w H0 H O r1 r2 Q q => by
    obtain ⟨p, xs, rfl, hx, rs⟩ := rvT r2
    rw [rvS r1]
    have e := rs.strs_of
    subst e
    refine ⟨p, _, rfl, .inr (seqT O.ex hx), rfl, ?_, ?_⟩
    · rw [List.all_map]; exact List.all_eq_true.mpr fun _ _ => rfl
    · rw [if_neg (by decide), inV_strs]; exact q _ _ _ To.refl O (Rp.bl _)
end
end Gd
namespace Gd
open PySem PySem.Spec PyProof.Rows L2
theorem Cal.name {P : Program} {w : World} {K : PySem.W.Frag} {mg : Str → Option Value} {base : Heap} {x y : Str} {k : Nat} {R : Rel} {mg' : Str → Option Value} (e : mg x = mg y) (c : Cal P w K mg base x k R) : Cal P w K mg base y k R := by
  obtain ⟨f, fd, ps, F, hm, h⟩ := c
  exact ⟨f, fd, ps, F, e ▸ hm, h⟩
end Gd
namespace Lw
open PySem PySem.Spec PyProof.Rows L2 Gd Fr
open scoped Rat
structure Qz (n d : Nat) (q : Rat) : Prop where
  nu : Bd n q.num
  de : Bd d (q.den : Int)
theorem Qz.le {n d n' d' : Nat} {q : Rat} (h : Qz n d q) (e : n ≤ n') (f : d ≤ d') : Qz n' d' q := ⟨h.nu.le e, h.de.le f⟩
theorem num_ne {y : Rat} (h : y ≠ 0) : y.num ≠ 0 := fun z => h (Rat.num_eq_zero.mp z)
theorem bd_sum {a n : Nat} {i j : Int} (h : Bd a i) (k : Bd n j) (N : Nat) (h1 : a < N) (h2 : n < N) : Bd N (i + j) := by
  have := Int.natAbs_add_le i j
  have e1 : 2 ^ a ≤ 2 ^ (N - 1) := Nat.pow_le_pow_right (by decide) (by omega)
  have e2 : 2 ^ n ≤ 2 ^ (N - 1) := Nat.pow_le_pow_right (by decide) (by omega)
  have e3 : 2 ^ N = 2 ^ (N - 1) * 2 := by rw [← Nat.pow_succ]; congr 1; omega
  unfold Bd at *
  omega
theorem Qz.add {n d m c : Nat} {x y : Rat} (h : Qz n d x) (k : Qz m c y) (N : Nat) (h1 : n + c < N) (h2 : m + d < N) : Qz N (d + c) (x + y) := by
  rw [← add_div]
  have hne : (x.den : Int) * (y.den : Int) ≠ 0 := Int.mul_ne_zero (den_ne x) (den_ne y)
  have hb := bd_sum (h.nu.mul k.de) (k.nu.mul h.de) N h1 h2
  exact ⟨(divInt_bd hne hb (h.de.mul k.de)).1, (divInt_bd hne hb (h.de.mul k.de)).2⟩
theorem Qz.neg {n d : Nat} {x : Rat} (h : Qz n d x) : Qz n d (-x) := ⟨by rw [Rat.neg_num]; exact h.nu.neg, by rw [Rat.neg_den]; exact h.de⟩
theorem Qz.sub {n d m c : Nat} {x y : Rat} (h : Qz n d x) (k : Qz m c y) (N : Nat) (h1 : n + c < N) (h2 : m + d < N) : Qz N (d + c) (x - y) := by
  rw [Rat.sub_eq_add_neg]; exact h.add k.neg N h1 h2
theorem Qz.mul {n d m c : Nat} {x y : Rat} (h : Qz n d x) (k : Qz m c y) : Qz (n + m) (d + c) (x * y) := by
  rw [← mul_div]
  have hne : (x.den : Int) * (y.den : Int) ≠ 0 := Int.mul_ne_zero (den_ne x) (den_ne y)
  exact ⟨(divInt_bd hne (h.nu.mul k.nu) (h.de.mul k.de)).1, (divInt_bd hne (h.nu.mul k.nu) (h.de.mul k.de)).2⟩
theorem Qz.div {n d m c : Nat} {x y : Rat} (h : Qz n d x) (k : Qz m c y) (hy : y ≠ 0) : Qz (n + c) (d + m) (x / y) := by
  rw [← div_div x y hy]
  have hne : (x.den : Int) * y.num ≠ 0 := Int.mul_ne_zero (den_ne x) (num_ne hy)
  exact ⟨(divInt_bd hne (h.nu.mul k.de) (h.de.mul k.nu)).1, (divInt_bd hne (h.nu.mul k.de) (h.de.mul k.nu)).2⟩
theorem Qz.nat {a n : Nat} (h : a < 2 ^ n) : Qz n 1 (a : Rat) := ⟨by rw [Rat.num_natCast]; exact Bd.nat h, by rw [Rat.den_natCast]; unfold Bd; decide⟩
inductive R_reduced : Rel
  | mk (n d : Int) (B : Bag) (h : d ≠ 0) (hn : Bd 8900 d) : R_reduced [.da (.int n), .da (.int d)] B (fq (n /. d)) B
def absQ (x : Rat) : Rat := if x < 0 then -x else x
theorem Qz.abs {n d : Nat} {x : Rat} (h : Qz n d x) : Qz n d (absQ x) := by
  unfold absQ; split
  · exact h.neg
  · exact h
def pt (l m : Int) : Int := if l = 0 then 0 else if 2 * l < m then 1 else if 2 * l = m then 2 else 3
def absI (i : Int) : Int := if i < 0 then -i else i
theorem bd_pow {b : Nat} (k : Nat) (h : b < 2 ^ 6) : Bd (6 * k + 1) (((b ^ k : Nat) : Int)) := by
  unfold Bd
  rw [Int.natAbs_natCast, Nat.pow_succ, Nat.pow_mul]
  have := Nat.pow_le_pow_left (Nat.le_of_lt h) k
  have p : 0 < (2 ^ 6) ^ k := Nat.pow_pos (by decide)
  omega
def intAt (Γ : List VD) (i : Nat) : Int := match Γ[i]? with
  | some (.da (.int m)) => m
  | _ => 0
theorem pow_sq (b k : Nat) : ((b ^ k : Nat) : Int) * ((b ^ k : Nat) : Int) = ((b ^ (k + k) : Nat) : Int) := by rw [← Int.natCast_mul, ← Nat.pow_add]
theorem pow_up (b j k : Nat) : ((b ^ j : Nat) : Int) * ((b ^ k : Nat) : Int) = ((b ^ (j + k) : Nat) : Int) := by rw [← Int.natCast_mul, ← Nat.pow_add]
theorem half (m : Nat) : (m : Int) / 2 = ((m / 2 : Nat) : Int) := by omega
theorem turn_odd {j k m e : Nat} (h : j + k * m = e) (h1 : m % 2 = 1) : (j + k) + (k + k) * (m / 2) = e := by
  have : m = 2 * (m / 2) + 1 := by omega
  rw [this] at h
  generalize m / 2 = t at *
  grind
theorem turn_even {j k m e : Nat} (h : j + k * m = e) (h1 : ¬ m % 2 = 1) : j + (k + k) * (m / 2) = e := by
  have : m = 2 * (m / 2) := by omega
  rw [this] at h
  generalize m / 2 = t at *
  grind
theorem k_le {j k m e : Nat} (h : j + k * m = e) (h1 : 0 < m) : k ≤ e ∧ j ≤ e := by
  have : k * 1 ≤ k * m := Nat.mul_le_mul_left k h1
  omega
theorem j_end {j k m e : Nat} (h : j + k * m = e) (h1 : ¬ 0 < m) : j = e := by
  have : m = 0 := by omega
  subst this; omega
inductive R_pow : Rel
  | mk (b e : Nat) (B : Bag) (hb : b < 2 ^ 6) (he : e ≤ 20000) : R_pow [.da (.int b), .da (.int e)] B (.int ((b ^ e : Nat) : Int)) B
def pw (b : Nat) (e : Int) : Rat := if e < 0 then ((b ^ (-e).toNat : Nat) : Rat)⁻¹ else ((b ^ e.toNat : Nat) : Rat)
inductive R_bag : Rel
  | mk (ns : List Int) (B : Bag) (hl : ns.length ≤ 63) : R_bag [.scr ns] B (.list [.int 0, .int 1234567891, .int 0, .list (((ns.take 63).map absI).map .int)]) B
theorem cut_head (ns : List Int) (n : Nat) : cutP (ns.map PyData.int) none (some (n : Int)) = (ns.take n).map PyData.int := by
  unfold cutP
  rw [HT.sIx_none, HT.sIx_nat, List.drop_zero, List.length_map, Nat.sub_zero, ← List.map_take]
  congr 1
  by_cases h : n ≤ ns.length
  · rw [Nat.min_eq_left h]
  · rw [Nat.min_eq_right (by omega), List.take_length, List.take_of_length_le (by omega)]
def cell (B : Bag) : Int := ((B.cs.drop (HT.sIx B.cs.length 0 (some B.z))) ++ [0]).headD 0
def stir (B : Bag) : Bag :=
  if B.x = 0 then ⟨if 10 ^ 18 ≤ cell B then cell B else B.x, (B.y * 48271 + cell B % 2147483647 + 7919 * (B.z + 1)) % 2147483647, B.z + 1, B.cs⟩ else B
def low (B : Bag) : Int := (((B.y + 1) * 39373) % 1000000007 * (((B.y + 1) * 39373) % 1000000007) % 998244353 * 30011) % 998244353 / 7
def tkV (B : Bag) (m : Int) : Int := if 0 < (stir B).x then (stir B).x % m else low (stir B) % m
def tkB (B : Bag) (m : Int) : Bag := if 0 < (stir B).x then { stir B with x := (stir B).x / m } else stir B
theorem tkV_ge (B : Bag) {m : Int} (h : 0 < m) : 0 ≤ tkV B m := by
  unfold tkV; split <;> exact Int.emod_nonneg _ (Int.ne_of_gt h)
theorem tkV_lt (B : Bag) {m : Int} (h : 0 < m) : tkV B m < m := by
  unfold tkV; split <;> exact Int.emod_lt_of_pos _ h
def Bok (B : Bag) : Prop := B.cs.length ≤ 63
theorem stir_ok {B : Bag} (h : Bok B) : Bok (stir B) := by
  unfold stir; split <;> exact h
theorem tkB_ok {B : Bag} (h : Bok B) (m : Int) : Bok (tkB B m) := by
  unfold tkB; split <;> exact stir_ok h
inductive R_take : Rel
  | mk (B : Bag) (m : Int) (h : 0 < m) (hb : Bd 8000 m) (hc : Bok B) : R_take [.bag, .da (.int m)] B (.int (tkV B m)) (tkB B m)
theorem drop_cell (B : Bag) : atI (cutP (B.cs.map PyData.int) (some B.z) none ++ [PyData.int 0]) 0 = some (.int (cell B)) := by
  have e : cutP (B.cs.map PyData.int) (some B.z) none = (B.cs.drop (HT.sIx B.cs.length 0 (some B.z))).map PyData.int := by
    unfold cutP
    rw [HT.sIx_none, List.length_map, ← List.map_drop, List.take_of_length_le]
    rw [List.length_map, List.length_drop]; omega
  rw [e]
  unfold cell
  cases B.cs.drop (HT.sIx B.cs.length 0 (some B.z)) with
  | nil => rfl
  | cons c cs =>
    show atI (PyData.int c :: _) ((0 : Nat) : Int) = some (.int c)
    exact atI_nat rfl
def pick (ds : List PyData) (B : Bag) : PyData := ds.getD (tkV B ds.length).toNat .none
inductive R_some : Rel
  | mk (B : Bag) (ds : List PyData) (h : 0 < ds.length) (hl : ds.length ≤ 1000) (hc : Bok B) : R_some [.bag, .da (.list ds)] B (pick ds B) (tkB B ds.length)
theorem pick_at (ds : List PyData) (B : Bag) (h : 0 < ds.length) : atI ds (tkV B ds.length) = some (pick ds B) := by
  have h0 := tkV_ge B (m := ds.length) (by omega)
  have h1 := tkV_lt B (m := ds.length) (by omega)
  have e : tkV B ds.length = ((tkV B ds.length).toNat : Int) := by omega
  have hlt : (tkV B ds.length).toNat < ds.length := by omega
  conv => lhs; rw [e]
  refine atI_nat ?_
  unfold pick
  rw [List.getD_eq_getElem?_getD, List.getElem?_eq_getElem hlt]; rfl
inductive R_common : Rel
  | mk (n d : Int) (B : Bag) : R_common [.da (.int n), .da (.int d)] B (.int (Nat.gcd n.natAbs d.natAbs : Nat)) B
theorem absI_nat (n : Int) : (if n < 0 then -n else n) = (n.natAbs : Int) := by split <;> omega
theorem com_if {n d : Int} (h : d ≠ 0) : (bif decide (0 < d) then ((Nat.gcd n.natAbs d.natAbs : Nat) : Int) else -((Nat.gcd n.natAbs d.natAbs : Nat) : Int)) = com n d := by
  unfold com
  by_cases h1 : 0 < d
  · rw [decide_eq_true h1, if_neg (by omega)]; rfl
  · rw [decide_eq_false h1, if_pos (by omega)]; rfl
def wayList : List Str := ["even", "away", "up", "down", "zero"]
inductive R_ways : Rel
  | mk (B : Bag) : R_ways [] B (.list (wayList.map .str)) B
end Lw
namespace Lw
open PySem PySem.Spec PyProof.Rows L2 Gd Fr
open scoped Rat
theorem ltle {a b c : Rat} (h : a < b) (k : b ≤ c) : a < c := by grind
theorem lelt {a b c : Rat} (h : a ≤ b) (k : b < c) : a < c := by grind
theorem pw_eq (b : Nat) (e : Int) : pw b e = (b : Rat) ^ e := by
  unfold pw
  by_cases h : e < 0
  · rw [if_pos h]
    have e1 : e = -((-e).toNat : Int) := by omega
    conv => rhs; rw [e1]
    rw [Rat.zpow_neg, Rat.zpow_natCast, Rat.natCast_pow]
  · rw [if_neg h]
    have e1 : e = (e.toNat : Int) := by omega
    conv => rhs; rw [e1]
    rw [Rat.zpow_natCast, Rat.natCast_pow]
section
variable {b p : Nat} (h2 : 2 ≤ b)
include h2
theorem b_pos : (0 : Rat) < (b : Rat) := Rat.natCast_pos.mpr (by omega)
theorem pw_pos (e : Int) : 0 < pw b e := by rw [pw_eq]; exact Rat.zpow_pos (b_pos h2)
theorem pw_add (x y : Int) : pw b (x + y) = pw b x * pw b y := by
  rw [pw_eq, pw_eq, pw_eq]
  exact Rat.zpow_add (fun z => by have := b_pos h2; rw [z] at this; exact absurd this (by decide)) x y
omit h2 in
theorem pw_nat (n : Nat) : pw b (n : Int) = ((b ^ n : Nat) : Rat) := by
  unfold pw; rw [if_neg (by omega), Int.toNat_natCast]
omit h2 in
theorem pw_of {e : Int} (h : 0 ≤ e) : pw b e = ((b ^ e.toNat : Nat) : Rat) := by
  unfold pw; rw [if_neg (by omega)]
theorem pw_ge1 {e : Int} (h : 0 ≤ e) : 1 ≤ pw b e := by
  rw [pw_of h]
  have : 1 ≤ b ^ e.toNat := Nat.pow_pos (by omega)
  exact Rat.natCast_le_natCast.mpr this
theorem pw_mono {x y : Int} (h : x ≤ y) : pw b x ≤ pw b y := by
  have e : y = (y - x) + x := by omega
  rw [e, pw_add h2]
  have h1 := pw_ge1 h2 (e := y - x) (by omega)
  have := Rat.mul_le_mul_of_nonneg_right h1 (Rat.le_of_lt (pw_pos h2 x))
  rw [Rat.one_mul] at this; exact this
def IsE (b p : Nat) (low : Int) (q : Rat) (e : Int) : Prop := low ≤ e ∧ q < pw b (p + e) ∧ (e = low ∨ pw b (p + e - 1) ≤ q)
end
def Nq (b : Nat) (e : Int) (q : Rat) : Int := q.num * ((b ^ (-e).toNat : Nat) : Int)
def Dq (b : Nat) (e : Int) (q : Rat) : Int := (q.den : Int) * ((b ^ e.toNat : Nat) : Int)
def cQ (b : Nat) (e : Int) (q : Rat) : Int := Nq b e q / Dq b e q
def rQ (b : Nat) (e : Int) (q : Rat) : Int := Nq b e q % Dq b e q
def tQ (b : Nat) (e : Int) (q : Rat) : Rat := (rQ b e q : Rat) / (Dq b e q : Rat)
section
variable {b p : Nat} (h2 : 2 ≤ b)
include h2
theorem Dq_pos (e : Int) (q : Rat) : 0 < Dq b e q := Int.mul_pos (den_pos q) (Int.natCast_pos.mpr (Nat.pow_pos (by omega)))
theorem Dq_ne (e : Int) (q : Rat) : ((Dq b e q : Int) : Rat) ≠ 0 := fun z => by
  have := Dq_pos h2 e q
  have e0 : Dq b e q = 0 := Rat.intCast_inj.mp (z.trans (by rfl))
  omega
theorem unit_ND (e : Int) : pw b e * ((b ^ (-e).toNat : Nat) : Rat) = ((b ^ e.toNat : Nat) : Rat) := by
  by_cases h : e < 0
  · have h1 : e.toNat = 0 := by omega
    rw [h1, Nat.pow_zero]
    unfold pw; rw [if_pos h]
    have : ((b ^ (-e).toNat : Nat) : Rat) ≠ 0 := fun z => by
      have h3 : 0 < b ^ (-e).toNat := Nat.pow_pos (by omega)
      have := Rat.natCast_pos.mpr h3
      rw [z] at this; exact absurd this (by decide)
    rw [Rat.mul_comm, Rat.mul_inv_cancel _ this]; rfl
  · have h1 : (-e).toNat = 0 := by omega
    rw [h1, Nat.pow_zero, pw_of (by omega)]
    exact Rat.mul_one _
omit h2 in
theorem num_den (q : Rat) : q * ((q.den : Int) : Rat) = (q.num : Rat) := by
  have h := Rat.num_divInt_den q
  rw [Rat.divInt_eq_div] at h
  have hd : ((q.den : Int) : Rat) ≠ 0 := fun z => by
    have e0 : (q.den : Int) = 0 := Rat.intCast_inj.mp (z.trans (by rfl))
    exact den_ne q e0
  conv => lhs; lhs; rw [← h]
  exact Rat.div_mul_cancel hd
theorem ND (e : Int) (q : Rat) : q * (Dq b e q : Rat) = (Nq b e q : Rat) * pw b e := by
  unfold Dq Nq
  rw [Rat.intCast_mul, Rat.intCast_mul, ← num_den q, Rat.intCast_natCast, Rat.intCast_natCast, Rat.intCast_natCast, ← unit_ND h2 e]
  grind
theorem q_val (e : Int) (q : Rat) : q = ((cQ b e q : Rat) + tQ b e q) * pw b e := by
  have hne := Dq_ne h2 e q
  have h := ND h2 e q
  have hd := Int.emod_add_mul_ediv (Nq b e q) (Dq b e q)
  have hd' : (Nq b e q : Rat) = (rQ b e q : Rat) + (Dq b e q : Rat) * (cQ b e q : Rat) := by
    rw [← Rat.intCast_mul, ← Rat.intCast_add]
    exact congrArg _ hd.symm
  have ht : tQ b e q * (Dq b e q : Rat) = (rQ b e q : Rat) := Rat.div_mul_cancel hne
  have : q * (Dq b e q : Rat) = (((cQ b e q : Rat) + tQ b e q) * pw b e) * (Dq b e q : Rat) := by
    rw [h, hd', ← ht]; grind
  have h3 := congrArg (· / (Dq b e q : Rat)) this
  simp only [Rat.mul_div_cancel hne] at h3
  exact h3
theorem r_ge (e : Int) (q : Rat) : 0 ≤ rQ b e q := Int.emod_nonneg _ (Int.ne_of_gt (Dq_pos h2 e q))
theorem Dq_posQ (e : Int) (q : Rat) : (0 : Rat) < (Dq b e q : Rat) := Rat.intCast_lt_intCast.mpr (Dq_pos h2 e q)
theorem t_mul (e : Int) (q : Rat) : tQ b e q * (Dq b e q : Rat) = (rQ b e q : Rat) := Rat.div_mul_cancel (Dq_ne h2 e q)
theorem t_lt_iff (e : Int) (q : Rat) (m : Int) (k : Nat) (hk : 0 < k) : (k : Rat) * tQ b e q < (m : Rat) ↔ k * rQ b e q < m * Dq b e q := by
  rw [← Rat.mul_lt_mul_right (Dq_posQ h2 e q), Rat.mul_assoc, t_mul h2, ← Rat.intCast_natCast, ← Rat.intCast_mul, ← Rat.intCast_mul, Rat.intCast_lt_intCast]
theorem t_ge (e : Int) (q : Rat) : 0 ≤ tQ b e q := by
  rw [← Rat.not_lt]
  intro h
  have := (t_lt_iff h2 e q 0 1 (by decide)).mp (by rw [show ((1 : Nat) : Rat) = 1 from rfl, Rat.one_mul]; exact h)
  have := r_ge h2 e q
  omega
end
end Lw
namespace Lw
open PySem PySem.Spec PyProof.Rows L2 Gd Fr
open scoped Rat
theorem cast_lt {a c : Int} : (a : Rat) < (c : Rat) ↔ a < c := Rat.intCast_lt_intCast
theorem cast_le {a c : Int} : (a : Rat) ≤ (c : Rat) ↔ a ≤ c := Rat.intCast_le_intCast
section
variable {b p : Nat} (h2 : 2 ≤ b)
include h2
theorem c_ge {q : Rat} (h : 0 ≤ q) (e : Int) : 0 ≤ cQ b e q :=
  Int.ediv_nonneg (Int.mul_nonneg (Rat.num_nonneg.mpr h) (Int.natCast_nonneg _)) (Int.le_of_lt (Dq_pos h2 e q))
theorem c_le (e : Int) (q : Rat) : (cQ b e q : Rat) * pw b e ≤ q := by
  have hv := q_val h2 e q
  have := Rat.mul_le_mul_of_nonneg_right (show (cQ b e q : Rat) ≤ (cQ b e q : Rat) + tQ b e q by have := t_ge h2 e q; grind) (Rat.le_of_lt (pw_pos h2 e))
  rw [← hv] at this; exact this
theorem pw_p (n : Nat) (e : Int) : pw b (n + e) = (((b ^ n : Nat) : Int) : Rat) * pw b e := by rw [pw_add h2, pw_nat, Rat.intCast_natCast]
theorem c_lt {low e : Int} {q : Rat} (h : IsE b p low q e) : cQ b e q < ((b ^ p : Nat) : Int) := by
  have h1 := lelt (c_le h2 e q) h.2.1
  rw [pw_p h2, Rat.mul_lt_mul_right (pw_pos h2 e)] at h1
  exact cast_lt.mp h1
def Can (b p : Nat) (low C e : Int) : Prop := 0 ≤ C ∧ C < ((b ^ p : Nat) : Int) ∧ low ≤ e ∧ (e = low ∨ ((b ^ (p - 1) : Nat) : Int) ≤ C)
theorem isE_ex (low : Int) (q : Rat) : ∃ e, IsE b p low q e := by
  have step : ∀ n : Nat, q < pw b (p + (low + n)) → ∃ e, IsE b p low q e := by
    intro n
    induction n with
    | zero => intro h; exact ⟨low, Int.le_refl _, by rw [show (low + (0 : Nat) : Int) = low by omega] at h; exact h, .inl rfl⟩
    | succ n ih =>
      intro h
      by_cases h1 : q < pw b (p + (low + n))
      · exact ih h1
      · refine ⟨low + (n + 1 : Nat), by omega, h, .inr ?_⟩
        rw [show (p : Int) + (low + (n + 1 : Nat)) - 1 = p + (low + n) by omega]
        exact Rat.not_lt.mp h1
  refine step (q.num.natAbs + (-(p + low)).toNat) ?_
  have h1 : pw b (q.num.natAbs : Int) ≤ pw b (p + (low + (q.num.natAbs + (-(p + low)).toNat : Nat))) := pw_mono h2 (by omega)
  refine ltle ?_ h1
  rw [pw_nat]
  have h3 : q.num.natAbs < b ^ q.num.natAbs := Nat.lt_pow_self (by omega)
  by_cases hq : 0 ≤ q
  · have h4 : q ≤ (q.num : Rat) := by
      have hd := num_den q
      have h5 : (1 : Rat) ≤ ((q.den : Int) : Rat) := cast_le.mpr (show 1 ≤ (q.den : Int) by have := den_pos q; omega)
      have := Rat.mul_le_mul_of_nonneg_left h5 hq
      rw [hd, Rat.mul_one] at this; exact this
    refine lelt h4 ?_
    rw [← Rat.intCast_natCast]
    exact cast_lt.mpr (by omega)
  · rw [Rat.not_le] at hq
    have := Rat.natCast_pos.mpr (show 0 < b ^ q.num.natAbs by omega)
    exact ltle hq (Rat.le_of_lt this)
end
open Classical in
noncomputable def eQ (b p : Nat) (low : Int) (q : Rat) : Int := if h : ∃ e, IsE b p low q e then h.choose else low
theorem eQ_is {b p : Nat} (h2 : 2 ≤ b) (low : Int) (q : Rat) : IsE b p low q (eQ b p low q) := by
  have h := isE_ex (p := p) h2 low q
  unfold eQ; rw [dif_pos h]; exact h.choose_spec
def words (l : List Str) : PyData := .tuple (l.map .str)
end Lw
set_option exponentiation.threshold 4000
namespace Lw
open PySem PySem.Spec PyProof.Rows L2 Gd Fr
open scoped Rat
structure Fm (b p : Nat) (low high : Int) : Prop where
  b2 : 2 ≤ b
  b6 : b < 2 ^ 6
  p2 : 2 ≤ p
  p7 : p ≤ 120
  lo : -1200 ≤ low
  lh : low ≤ high
  hi : high ≤ 1200
  bp : b ^ p < 2 ^ 700
  bl : b ^ (-low).toNat < 2 ^ 2340
  bh : b ^ high.toNat < 2 ^ 2340
def fmP (b p : Nat) (low high : Int) : PyData := .tuple [.int b, .int p, .int low, .int high]
theorem ways {way : Str} (h : way ∈ wayList) : way = "even" ∨ way = "away" ∨ way = "up" ∨ way = "down" ∨ way = "zero" := by unfold wayList at h; simpa using h
theorem pw_bd {b : Nat} (h2 : 2 ≤ b) {e : Int} {n d : Nat} (hn : b ^ e.toNat < 2 ^ n) (hd : b ^ (-e).toNat < 2 ^ d) (h1 : 1 ≤ n) (h1' : 1 ≤ d) : Qz n d (pw b e) := by
  unfold pw
  by_cases h : e < 0
  · rw [if_pos h]
    have hp : 0 < b ^ (-e).toNat := Nat.pow_pos (by omega)
    refine ⟨?_, ?_⟩
    · rw [Rat.num_inv, Rat.num_natCast, Rat.den_natCast]
      have : (((b ^ (-e).toNat : Nat) : Int)).sign = 1 := Int.sign_eq_one_of_pos (by omega)
      rw [this]
      exact (show Bd 1 (1 * ((1 : Nat) : Int)) by unfold Bd; decide).le h1
    · rw [Rat.den_inv, Rat.num_natCast, if_neg (by omega), Int.natAbs_natCast]
      exact Bd.nat hd
  · rw [if_neg h]
    exact ⟨by rw [Rat.num_natCast]; exact Bd.nat hn, by rw [Rat.den_natCast]; exact (show Bd 1 ((1 : Nat) : Int) by unfold Bd; decide).le h1'⟩
section
variable {b p : Nat} {low high : Int} (F : Fm b p low high)
include F
theorem Fm.pow_lo {e : Int} (h : low ≤ e) : b ^ (-e).toNat < 2 ^ 2340 := Nat.lt_of_le_of_lt (Nat.pow_le_pow_right (by have := F.b2; omega) (by omega)) F.bl
theorem Fm.e_bd {q : Rat} {e : Int} {n d : Nat} (hq : Qz n d q) (h0 : 0 ≤ q) (hE : IsE b p low q e) : (q.den * b ^ e.toNat < 2 ^ n ∧ 0 < e ∧ low < e) ∨ (e ≤ 0 ∨ e = low) := by
  by_cases h : 0 < e ∧ low < e
  · refine .inl ⟨?_, h⟩
    have h3 := hE.2.2
    have h4 : pw b (p + e - 1) ≤ q := by
      rcases h3 with z | z
      · omega
      · exact z
    have h5 : pw b (e : Int) ≤ q := Rat.le_trans (pw_mono F.b2 (by have := F.p2; omega)) h4
    have hd0 : (0 : Rat) ≤ ((q.den : Int) : Rat) := cast_le.mpr (Int.le_of_lt (den_pos q))
    have h6 := Rat.mul_le_mul_of_nonneg_right h5 hd0
    rw [num_den, pw_of (by omega), ← Rat.intCast_natCast, ← Rat.intCast_mul] at h6
    have h7 := cast_le.mp h6
    have h8 := hq.nu
    unfold Bd at h8
    have h9 : (q.den : Int) * ((b ^ e.toNat : Nat) : Int) ≤ q.num := by rw [Int.mul_comm]; exact h7
    have h10 : ((q.den * b ^ e.toNat : Nat) : Int) ≤ q.num := by rw [Int.natCast_mul]; exact h9
    omega
  · exact .inr (by have := hE.1; omega)
end
section
variable {b p : Nat} (h2 : 2 ≤ b)
include h2
end
end Lw
set_option exponentiation.threshold 4000
namespace Lw
open PySem PySem.Spec PyProof.Rows L2 Gd Fr
open scoped Rat
section
variable {b p : Nat} {low e : Int} {q : Rat} (h2 : 2 ≤ b) (hp : 2 ≤ p)
include h2
include hp
end
end Lw
set_option exponentiation.threshold 20000
namespace Lw
open PySem PySem.Spec PyProof.Rows L2 Gd Fr
open scoped Rat
section
variable {b : Nat} (h2 : 2 ≤ b)
include h2
end
inductive Va where
  | nan
  | inf (s : Int)
  | num (s c e : Int)
def Va.l : Va → List PyData
  | .nan => [.str "nan"]
  | .inf s => [.str "inf", .int s]
  | .num s c e => [.str "num", .int s, .int c, .int e]
def Va.d (v : Va) : PyData := .tuple v.l
def Va.isNan : Va → Bool
  | .nan => true
  | _ => false
def Va.sg : Va → Int
  | .nan => 0
  | .inf s => s
  | .num s _ _ => s
def Va.wQ (b : Nat) : Va → Rat
  | .num s c e => ((if s = 1 then -c else c : Int) : Rat) * pw b e
  | _ => 0
def Vok (b p : Nat) (low high : Int) : Va → Prop
  | .nan => True
  | .inf s => s = 0 ∨ s = 1
  | .num s c e => (s = 0 ∨ s = 1) ∧ 0 ≤ c ∧ c < ((b ^ p : Nat) : Int) ∧ low ≤ e ∧ e ≤ high
end Lw
set_option exponentiation.threshold 20000
namespace Lw
open PySem PySem.Spec PyProof.Rows L2 Gd Fr
open scoped Rat
theorem cut2 (ds : List PyData) (n : Nat) : cutP ds (some (n : Int)) none = ds.drop n := by
  unfold cutP
  rw [HT.sIx_none, HT.sIx_nat]
  by_cases h : n ≤ ds.length
  · rw [Nat.min_eq_left h, List.take_of_length_le (by rw [List.length_drop]; omega)]
  · rw [Nat.min_eq_right (by omega), List.drop_length, List.take_nil, List.drop_of_length_le (by omega)]
theorem at1 {v : Va} (h : v.isNan = false) : atI v.l 1 = some (.int v.sg) := by cases v <;> first | rfl | cases h
end Lw
namespace Lw
open PySem PySem.Spec PyProof.Rows L2 Gd Fr
end Lw
namespace Lw
open PySem PySem.Spec PyProof.Rows L2 Gd Fr
end Lw
namespace Lw
open PySem PySem.Spec PyProof.Rows L2 Gd Fr
theorem nice_word {x : Str} (h : (x.cps.all fun c => c < 0x110000) = true) : nice (.str x) = true := by
  simp only [nice]; exact h
end Lw
set_option exponentiation.threshold 20000
namespace Lw
open PySem PySem.Spec PyProof.Rows L2 Gd Fr
open scoped Rat
abbrev F4 := Nat × Nat × Int × Int
def F4.d (t : F4) : PyData := fmP t.1 t.2.1 t.2.2.1 t.2.2.2
def F4.ok (t : F4) : Prop := Fm t.1 t.2.1 t.2.2.1 t.2.2.2
def fmB (t : F4) : Bool :=
  decide (2 ≤ t.1) && decide (t.1 < 2 ^ 6) && decide (2 ≤ t.2.1) && decide (t.2.1 ≤ 120) && decide (-1200 ≤ t.2.2.1) && decide (t.2.2.1 ≤ t.2.2.2) && decide (t.2.2.2 ≤ 1200) &&
    decide (t.1 ^ t.2.1 < 2 ^ 700) && decide (t.1 ^ (-t.2.2.1).toNat < 2 ^ 2340) && decide (t.1 ^ t.2.2.2.toNat < 2 ^ 2340)
theorem fm_of {t : F4} (h : fmB t = true) : t.ok := by
  unfold fmB at h
  simp only [Bool.and_eq_true, decide_eq_true_eq] at h
  obtain ⟨⟨⟨⟨⟨⟨⟨⟨⟨a1, a2⟩, a3⟩, a4⟩, a5⟩, a6⟩, a7⟩, a8⟩, a9⟩, a10⟩ := h
  exact ⟨a1, a2, a3, a4, a5, a6, a7, a8, a9, a10⟩
def pickF (ts : List F4) (B : Bag) : F4 := ts.getD (tkV B ts.length).toNat (2, 2, 0, 0)
theorem pick_fm (ts : List F4) (B : Bag) (h : 0 < ts.length) : pick (ts.map F4.d) B = (pickF ts B).d := by
  have h0 := tkV_ge B (m := ts.length) (by omega)
  have h1 := tkV_lt B (m := ts.length) (by omega)
  have hlt : (tkV B ts.length).toNat < ts.length := by omega
  unfold pick pickF
  rw [List.length_map, List.getD_eq_getElem?_getD, List.getD_eq_getElem?_getD, List.getElem?_map, List.getElem?_eq_getElem hlt]; rfl
theorem pickF_ok (ts : List F4) (B : Bag) (h : 0 < ts.length) (hok : ts.all fmB = true) : (pickF ts B).ok := by
  have h0 := tkV_ge B (m := ts.length) (by omega)
  have h1 := tkV_lt B (m := ts.length) (by omega)
  have hlt : (tkV B ts.length).toNat < ts.length := by omega
  unfold pickF
  rw [List.getD_eq_getElem?_getD, List.getElem?_eq_getElem hlt]
  exact fm_of (List.all_eq_true.mp hok _ (List.getElem_mem hlt))
def smallF : List F4 := [(2, 2, 0, 0), (2, 2, -3, 2), (2, 3, -4, 3), (4, 2, -2, 1), (10, 2, -2, 1), (6, 2, -1, 2), (2, 4, -2, 2)] ++ [(4, 2, 1, 3), (2, 3, 2, 5), (10, 2, -6, -5)]
def worldF : List F4 := ([(2, 24, -149, 104), (2, 11, -24, 5), (10, 7, -101, 90), (36, 3, -5, 4), (16, 6, -70, 57), (10, 34, -60, 40)] ++ [(2, 8, -133, 120), (20, 2, 0, 3), (10, 16, -98, 69), (2, 53, -120, 60), (10, 20, 5, 60)]) ++ [(2, 30, -90, -40), (14, 5, -9, 9), (22, 4, 1, 8)]
def farF : List F4 := [(2, 53, -1074, 971), (10, 16, -398, 369), (36, 120, -200, 200), (2, 120, -1200, 1080), (10, 100, -700, 700)] ++ [(2, 24, -1200, 1200), (2, 40, -300, 300), (10, 16, -300, 300)]
theorem small_ok : smallF.all fmB = true := by decide +kernel
theorem world_ok : worldF.all fmB = true := by decide +kernel
theorem far_ok : farF.all fmB = true := by decide +kernel
inductive R_fmt (f : Bag → F4) (g : Bag → Bag) : Rel
  | mk (B : Bag) (hc : Bok B) : R_fmt f g [.bag] B (f B).d (g B)
def wideV (B : Bag) : F4 := if 0 < tkV B 4 then pickF worldF (tkB B 4) else pickF farF (tkB B 4)
def wideB (B : Bag) : Bag := if 0 < tkV B 4 then tkB (tkB B 4) 14 else tkB (tkB B 4) 8
def smallV (B : Bag) : F4 := pickF smallF B
def smallB (B : Bag) : Bag := tkB B 10
theorem wideV_ok (B : Bag) : (wideV B).ok := by
  unfold wideV; split
  · exact pickF_ok _ _ (by decide) world_ok
  · exact pickF_ok _ _ (by decide) far_ok
theorem smallV_ok (B : Bag) : (smallV B).ok := pickF_ok _ _ (by decide) small_ok
theorem wideB_ok {B : Bag} (h : Bok B) : Bok (wideB B) := by unfold wideB; split <;> exact tkB_ok (tkB_ok h _) _
theorem smallB_ok {B : Bag} (h : Bok B) : Bok (smallB B) := tkB_ok h _
def Va.c : Va → Int
  | .num _ c _ => c
  | _ => 0
def Va.e : Va → Int
  | .num _ _ e => e
  | _ => 0
section
variable (b p : Nat) (low high : Int)
end
section
variable {b p : Nat} {low high : Int} (F : Fm b p low high)
include F
end
end Lw
set_option exponentiation.threshold 20000
namespace Lw
open PySem PySem.Spec PyProof.Rows L2 Gd Fr
open scoped Rat
end Lw
namespace Lw
open PySem PySem.Spec PyProof.Rows L2 Gd Fr
open scoped Rat
end Lw
namespace Lw
open PySem PySem.Spec PyProof.Rows L2 Gd Fr
open scoped Rat
end Lw
namespace Lw
open PySem PySem.Spec PyProof.Rows L2 Gd Fr
open scoped Rat
section
variable {b p : Nat} {low high : Int} (F : Fm b p low high)
include F
end
end Lw
set_option exponentiation.threshold 20000
namespace Lw
open PySem PySem.Spec PyProof.Rows L2 Gd Fr
open scoped Rat
structure Nd (D W : Nat) (d : PyData) : Prop where
  ni : nice d = true
  dp : d.depth ≤ D
  bk : d.bulk ≤ W
structure NdA (D W : Nat) (ds : List PyData) : Prop where
  ni : niceAll ds = true
  dp : PyData.depthAll ds ≤ D
  bk : PyData.bulkAll ds ≤ W
theorem NdA.nil {D W : Nat} : NdA D W [] := ⟨niceAll_nil, by simp only [PyData.depthAll]; omega, by simp only [PyData.bulkAll]; omega⟩
theorem NdA.cons {D W W' : Nat} {d : PyData} {ds : List PyData} (h : Nd D W d) (r : NdA D W' ds) : NdA D (W + 1 + W') (d :: ds) :=
  ⟨niceAll_cons h.ni r.ni, by have := h.dp; have := r.dp; simp only [PyData.depthAll]; omega, by have := h.bk; have := r.bk; simp only [PyData.bulkAll]; omega⟩
theorem NdA.le {D W D' W' : Nat} {ds : List PyData} (h : NdA D W ds) (e : D ≤ D') (f : W ≤ W') : NdA D' W' ds := ⟨h.ni, Nat.le_trans h.dp e, Nat.le_trans h.bk f⟩
theorem Nd.le {D W D' W' : Nat} {d : PyData} (h : Nd D W d) (e : D ≤ D') (f : W ≤ W') : Nd D' W' d := ⟨h.ni, Nat.le_trans h.dp e, Nat.le_trans h.bk f⟩
theorem Nd.list {D W : Nat} {ds : List PyData} (h : NdA D W ds) : Nd (D + 1) W (.list ds) := ⟨nice_list h.ni, by have := h.dp; simp only [PyData.depth]; omega, by have := h.bk; simp only [PyData.bulk]; omega⟩
theorem Nd.tuple {D W : Nat} {ds : List PyData} (h : NdA D W ds) : Nd (D + 1) W (.tuple ds) := ⟨nice_tuple h.ni, by have := h.dp; simp only [PyData.depth]; omega, by have := h.bk; simp only [PyData.bulk]; omega⟩
theorem Nd.int {n : Nat} {i : Int} (h : Bd n i) (e : n ≤ 1920 := by decide) : Nd 1 0 (.int i) := ⟨nice_int h e, by simp only [PyData.depth]; omega, by simp only [PyData.bulk]; omega⟩
theorem Nd.str {x : Str} (h : (x.cps.all fun c => c < 0x110000) = true) (h2 : x.cps.size ≤ 20) : Nd 1 20 (.str x) := ⟨nice_word h, by simp only [PyData.depth]; omega, by simp only [PyData.bulk]; exact h2⟩
theorem Nd.bool {x : Bool} : Nd 1 0 (.bool x) := ⟨by simp only [nice], by simp only [PyData.depth]; omega, by simp only [PyData.bulk]; omega⟩
theorem Nd.none : Nd 1 0 .none := ⟨by simp only [nice], by simp only [PyData.depth]; omega, by simp only [PyData.bulk]; omega⟩
section
variable {b p : Nat} {low high : Int} (F : Fm b p low high)
include F
end
section
variable (b p : Nat) (low high : Int)
end
end Lw
set_option exponentiation.threshold 20000
namespace Lw
open PySem PySem.Spec PyProof.Rows L2 Gd Fr
open scoped Rat
def Va.isZ : Va → Bool
  | .num _ c _ => decide (c = 0)
  | _ => false
section
variable {b p : Nat} {low high : Int} (F : Fm b p low high)
include F
end
def pickS (ss : List Str) (B : Bag) : Str := ss.getD (tkV B ss.length).toNat ""
theorem pick_str (ss : List Str) (B : Bag) (h : 0 < ss.length) : pick (ss.map .str) B = .str (pickS ss B) := by
  have h0 := tkV_ge B (m := ss.length) (by omega)
  have h1 := tkV_lt B (m := ss.length) (by omega)
  have hlt : (tkV B ss.length).toNat < ss.length := by omega
  unfold pick pickS
  rw [List.length_map, List.getD_eq_getElem?_getD, List.getD_eq_getElem?_getD, List.getElem?_map, List.getElem?_eq_getElem hlt]; rfl
theorem pickS_mem (ss : List Str) (B : Bag) (h : 0 < ss.length) : pickS ss B ∈ ss := by
  have h0 := tkV_ge B (m := ss.length) (by omega)
  have h1 := tkV_lt B (m := ss.length) (by omega)
  have hlt : (tkV B ss.length).toNat < ss.length := by omega
  unfold pickS
  rw [List.getD_eq_getElem?_getD, List.getElem?_eq_getElem hlt]
  exact List.getElem_mem hlt
section
variable (b p : Nat) (low high : Int)
end
section
variable {b p : Nat} {low high : Int} (F : Fm b p low high)
include F
end
end Lw
namespace Lw
open PySem PySem.Spec PyProof.Rows L2 Gd Fr
end Lw
set_option exponentiation.threshold 20000
namespace Lw
open PySem PySem.Spec PyProof.Rows L2 Gd Fr
open scoped Rat
section
variable (b p : Nat) (low high : Int)
end
end Lw
namespace Gd
open PySem PySem.Spec PyProof.Rows L2
section
variable {X : Cx} {i : Nat} {Γ : List VD} {B B1 B2 B' : Bag} {acc ds : List PyData} {e a b c : Expr} {es : List Expr} {d da db : VD} {y : PyData} {pos p p1 p2 p3 pos' : Pos} {rest ss s1 s2 : List Stmt} {E : EnO} {Es : En}
theorem Own.set {K : PySem.W.Frag} {g : Gh} {A0 A1 : Hp} {a : Addr} {σ : L2.St} {H0 H : Hp} (w : Own K i g A0 A1 a B Γ acc σ H0 H) (j : Nat) (hij : j ≠ i) {v : V} (r : Rv K g H0 v d) : Own K i g A0 A1 a B (Γ.set j d) acc (σ.set j (some v)) H0 H :=
  ⟨w.to, w.fr, w.off, w.ev.set j r, by rw [List.getElem?_set_ne hij]; exact w.at', w.no, w.ls, w.on⟩
theorem ow_forL (j : Nat) {x : Str} {px : Pos} (nd : X.N.Nodup) (hc : X.calm = true) (hij : j ≠ i) (P : Nat → List VD → Bag → List PyData → Prop) (hi : EJ X Γ B e (.da (.list ds)) B1) (h0 : P 0 Γ B1 acc)
    (hs : ∀ k y Γ' B' acc', ds[k]? = some y → P k Γ' B' acc' → OwJ X i (Γ'.set j (.da y)) B' acc' s1 { nx := P (k + 1), fx := fun _ _ => False, ct := P (k + 1), rt := E.rt })
    (hd : ∀ Γ' B' acc', P ds.length Γ' B' acc' → OwJ X i Γ' B' acc' rest E) (hN : X.N[j]? = some x := by rfl) (hx : Loc X.env.scope x := by first | exact Or.inl rfl | exact Or.inr rfl)
    (hf : X.fn x = true ∨ X.env.scope.names.lookup x = some .local := by first | exact Or.inl rfl | exact Or.inr rfl)
    (hp : PassesOwn (model X.prog X.w) X.A X.env X.xe := by exact PassesOwn.never) (hq : ∀ x, foldedSetIterable e X.env x = pure x := by intro _; rfl) :
    OwJ X i Γ B acc (.For (.Name x px) e s1 [] pos :: rest) E := fun g σ A0 A1 a H0 H w D G =>
  ⟨_, pss_cons (ps_for hp hc (pi_list (we e)) (pg_name nd hN hx hf) (ws s1) hq) (ws rest), hi g σ H0 H w.ev w.on _ fun v H1 H' t o r => by
    obtain ⟨q, xs, rfl, hxs, rs⟩ := rvL r
    have w1 := w.step t o
    refine ⟨q, rfl, ⟨xs, SqL.of (o.ex _ _ hxs)⟩, ?_⟩
    refine for_list (xs := xs) (fun k σ' H'' => ∃ Γ' B' acc' H2, P k Γ' B' acc' ∧ Same H1 H2 ∧ Own X.K i g A0 A1 a B' Γ' acc' σ' H2 H'') ⟨Γ, B1, acc, H1, h0, Same.refl _, w1⟩ ?_ ?_ ?_
    · rintro k σ' H'' _ ⟨Γ', B', acc', H2, _, sm, w2⟩
      exact SqL.of (w2.on.ex _ _ (sm _ _ hxs))
    · rintro k y σ' H'' hy ⟨Γ', B', acc', H2, hP, sm, w2⟩
      obtain ⟨d, hdi, rd⟩ := rs.get hy
      exact hs k d Γ' B' acc' hdi hP g _ A0 A1 a H2 H'' (w2.set j hij (Rp.mono sm rd)) _ ⟨fun Γ3 B3 acc3 σ3 H3 H3' q w3 m => ⟨Γ3, B3, acc3, H3, q, sm.trans m, w3⟩, fun _ _ _ _ _ q => q.elim, fun r B3 v H3 H3' q t3 o3 rv => G.rt r B3 v H3 H3' q t3 o3 rv,
        fun _ _ _ _ _ _ q => q.elim, fun Γ3 B3 acc3 σ3 H3 H3' q w3 m => ⟨Γ3, B3, acc3, H3, q, sm.trans m, w3⟩, fun _ _ _ _ _ _ q => q.elim⟩
    · rintro σ' H'' ⟨Γ', B', acc', H2, hP, sm, w2⟩
      rw [rs.length] at hP
      exact hd Γ' B' acc' hP g σ' A0 A1 a H2 H'' w2 D (G.on (t.ex.trans sm))⟩
theorem ow_forT (j : Nat) {x : Str} {px : Pos} (nd : X.N.Nodup) (hc : X.calm = true) (hij : j ≠ i) (P : Nat → List VD → Bag → List PyData → Prop) (hi : EJ X Γ B e (.da (.tuple ds)) B1) (h0 : P 0 Γ B1 acc)
    (hs : ∀ k y Γ' B' acc', ds[k]? = some y → P k Γ' B' acc' → OwJ X i (Γ'.set j (.da y)) B' acc' s1 { nx := P (k + 1), fx := fun _ _ => False, ct := P (k + 1), rt := E.rt })
    (hd : ∀ Γ' B' acc', P ds.length Γ' B' acc' → OwJ X i Γ' B' acc' rest E) (hN : X.N[j]? = some x := by rfl) (hx : Loc X.env.scope x := by first | exact Or.inl rfl | exact Or.inr rfl)
    (hf : X.fn x = true ∨ X.env.scope.names.lookup x = some .local := by first | exact Or.inl rfl | exact Or.inr rfl)
    (hp : PassesOwn (model X.prog X.w) X.A X.env X.xe := by exact PassesOwn.never) (hq : ∀ x, foldedSetIterable e X.env x = pure x := by intro _; rfl) :
    OwJ X i Γ B acc (.For (.Name x px) e s1 [] pos :: rest) E := fun g σ A0 A1 a H0 H w D G =>
  ⟨_, pss_cons (ps_for hp hc (pi_tup (we e)) (pg_name nd hN hx hf) (ws s1) hq) (ws rest), hi g σ H0 H w.ev w.on _ fun v H1 H' t o r => by
    obtain ⟨q, xs, rfl, hxs, rs⟩ := rvT r
    have w1 := w.step t o
    refine ⟨q, rfl, ⟨xs, seqT o.ex hxs⟩, ?_⟩
    refine for_tup (xs := xs) (fun k σ' H'' => ∃ Γ' B' acc' H2, P k Γ' B' acc' ∧ Same H1 H2 ∧ Own X.K i g A0 A1 a B' Γ' acc' σ' H2 H'') ⟨Γ, B1, acc, H1, h0, Same.refl _, w1⟩ ?_ ?_ ?_
    · rintro k σ' H'' _ ⟨Γ', B', acc', H2, _, sm, w2⟩
      exact seqT w2.on.ex (seqT sm hxs)
    · rintro k y σ' H'' hy ⟨Γ', B', acc', H2, hP, sm, w2⟩
      obtain ⟨d, hdi, rd⟩ := rs.get hy
      exact hs k d Γ' B' acc' hdi hP g _ A0 A1 a H2 H'' (w2.set j hij (Rp.mono sm rd)) _ ⟨fun Γ3 B3 acc3 σ3 H3 H3' q w3 m => ⟨Γ3, B3, acc3, H3, q, sm.trans m, w3⟩, fun _ _ _ _ _ q => q.elim, fun r B3 v H3 H3' q t3 o3 rv => G.rt r B3 v H3 H3' q t3 o3 rv,
        fun _ _ _ _ _ _ q => q.elim, fun Γ3 B3 acc3 σ3 H3 H3' q w3 m => ⟨Γ3, B3, acc3, H3, q, sm.trans m, w3⟩, fun _ _ _ _ _ _ q => q.elim⟩
    · rintro σ' H'' ⟨Γ', B', acc', H2, hP, sm, w2⟩
      rw [rs.length] at hP
      exact hd Γ' B' acc' hP g σ' A0 A1 a H2 H'' w2 D (G.on (t.ex.trans sm))⟩
end
end Gd
namespace Gd
open PySem PySem.Spec PyProof.Rows L2
section
variable {X : Cx} {i : Nat} {Γ : List VD} {B B1 B2 B3 : Bag} {e0 e2 e3 : Expr} {d0 d2 d3 : PyData} {pos pl pt2 : Pos} {rest : List Stmt} {Es : En}
end
end Gd
set_option exponentiation.threshold 20000
namespace Lw
open PySem PySem.Spec PyProof.Rows L2 Gd Fr
open scoped Rat
theorem NdA.all {D W : Nat} : ∀ {ds : List PyData}, (∀ d ∈ ds, Nd D W d) → NdA D ((W + 1) * ds.length) ds
  | [], _ => NdA.nil
  | d :: ds, h => by
    have := NdA.cons (h d List.mem_cons_self) (NdA.all fun e he => h e (List.mem_cons_of_mem _ he))
    exact this.le (Nat.le_refl _) (by rw [List.length_cons, Nat.mul_succ]; omega)
theorem _root_.Gd.pgN {X : Cx} {x : Str} {pos : Pos} (i : Nat) (nd : X.N.Nodup) (hi : X.N[i]? = some x := by rfl) (hx : Loc X.env.scope x := by first | exact Or.inl rfl | exact Or.inr rfl)
    (hf : X.fn x = true ∨ X.env.scope.names.lookup x = some .local := by first | exact .inl rfl | exact .inr rfl) : PG X (.Name x pos) (gName i) := pg_name nd hi hx hf
theorem cutN (ds : List PyData) (n : Nat) (h : n ≤ ds.length) : cutP ds none (some (n : Int)) = ds.take n := by
  unfold cutP
  rw [HT.sIx_none, HT.sIx_nat, List.drop_zero, Nat.sub_zero, Nat.min_eq_left h]
end Lw
namespace Gd
open PySem PySem.Spec PyProof.Rows L2
section
variable {X : Cx} {i : Nat} {Γ : List VD} {B B1 B2 B' : Bag} {acc ds ys : List PyData} {e a b c : Expr} {es : List Expr} {d da db : VD} {y : PyData} {pos p p1 p2 p3 pos' : Pos} {rest ss s1 s2 : List Stmt} {E : EnO} {Es : En}
section
variable {elt : Expr} {scope : Scope} {j : Nat} {x : Str} {px : Pos}
end
end
end Gd
set_option exponentiation.threshold 20000
namespace Lw
open PySem PySem.Spec PyProof.Rows L2 Gd Fr
open scoped Rat
end Lw
set_option exponentiation.threshold 20000
namespace Lw
open PySem PySem.Spec PyProof.Rows L2 Gd Fr
open scoped Rat
theorem gap_mul (x : Rat) (f : Int) : (x - (f : Rat)) * ((x.den : Int) : Rat) = ((x.num - f * (x.den : Int) : Int) : Rat) := by
  have h := num_den x
  rw [Rat.intCast_sub, Rat.intCast_mul, ← h]; grind
theorem denQ_pos (x : Rat) : (0 : Rat) < ((x.den : Int) : Rat) := Rat.intCast_pos.mpr (den_pos x)
theorem fl (x : Rat) : ∃ g : Rat, x = ((x.num / (x.den : Int) : Int) : Rat) + g ∧ 0 ≤ g ∧ g < 1 ∧ x - ((x.num / (x.den : Int) : Int) : Rat) = g := by
  refine ⟨x - ((x.num / (x.den : Int) : Int) : Rat), by grind, ?_, ?_, rfl⟩
  · have h := gap_mul x (x.num / (x.den : Int))
    have h1 := Int.emod_add_mul_ediv x.num (x.den : Int)
    have h2 := Int.emod_nonneg x.num (Int.ne_of_gt (den_pos x))
    have h3 : (0 : Rat) ≤ (x - ((x.num / (x.den : Int) : Int) : Rat)) * ((x.den : Int) : Rat) := by
      rw [h]; exact Rat.intCast_nonneg.mpr (by rw [Int.mul_comm]; omega)
    refine Rat.not_lt.mp fun z => ?_
    have := (Rat.mul_lt_mul_right (denQ_pos x)).mpr z
    rw [Rat.zero_mul] at this
    exact absurd (ltle this h3) Rat.lt_irrefl
  · have h := gap_mul x (x.num / (x.den : Int))
    have h1 := Int.emod_add_mul_ediv x.num (x.den : Int)
    have h2 := Int.emod_lt_of_pos x.num (den_pos x)
    refine (Rat.mul_lt_mul_right (denQ_pos x)).mp ?_
    rw [h, Rat.one_mul]
    exact cast_lt.mpr (by rw [Int.mul_comm]; omega)
end Lw
set_option exponentiation.threshold 20000
namespace Lw
open PySem PySem.Spec PyProof.Rows L2 Gd Fr
open scoped Rat
end Lw
set_option exponentiation.threshold 20000
namespace Lw
open PySem PySem.Spec PyProof.Rows L2 Gd Fr
open scoped Rat
section
variable (b p : Nat) (low high : Int)
end
end Lw
set_option exponentiation.threshold 20000
namespace Lw
open PySem PySem.Spec PyProof.Rows L2 Gd Fr
open scoped Rat
section
variable (b p : Nat) (low high : Int)
end
section
variable {b p : Nat} {low high : Int} (F : Fm b p low high)
include F
end
end Lw
namespace Gd
open PySem PySem.Spec PyProof.Rows L2
section
variable {X : Cx} {i : Nat} {Γ : List VD} {B B1 B2 B' : Bag} {acc ds ys : List PyData} {e a b c : Expr} {es : List Expr} {d da db : VD} {y : PyData} {pos p p1 p2 p3 pos' : Pos} {rest ss s1 s2 : List Stmt} {E : EnO} {Es : En}
theorem call_reprN : CallR X (.builtin "repr") (fun xs H Q => xs = [.non] ∧ Q (.str "None") H) := by
  intro pins s σ H xs us Q I r h
  obtain ⟨rfl, q⟩ := h
  obtain ⟨u, rfl, rfl⟩ := vals1 r
  exact PySem.P.repr_of_none ⟨.str _, H, I.tok _, ⟨_, rfl⟩, q⟩
theorem ej_reprN (hm : X.mg "repr" = none) (ha : EJ X Γ B a (.da .none) B1) (hs : starEach [a] X.env = [(false, eval a X.env)] := by rfl) (hg : Gl X "repr" := by rfl) :
    EJ X Γ B (.Call (.Name "repr" p) [a] [] pos) (.da (.str "None")) B1 :=
  ej_callB call_reprN hm (aj_cons ha aj_nil hs) (fun gh vs H0 H O r Q q => by
    obtain ⟨v, rfl, h⟩ := rv1 r
    have h : Rp X.K H0 v .none := h
    cases h
    exact ⟨rfl, q _ _ _ To.refl O (Rp.str _)⟩) (hg := hg) (he := hs)
end
end Gd
namespace Gd
open PySem PySem.Spec PyProof.Rows L2
mutual
def niceB : PyData → Bool
  | .none => true
  | .bool _ => true
  | .int i => decide (Nat.log2 i.natAbs < 12900)
  | .str x => x.cps.all fun c => c < 0x110000
  | .list xs => niceBAll xs
  | .tuple xs => niceBAll xs
  | .dict _ => false
def niceBAll : List PyData → Bool
  | [] => true
  | x :: xs => niceB x && niceBAll xs
end
theorem big_lt {i : Int} (h : Nat.log2 i.natAbs < 12900) : i.natAbs < 10 ^ 4300 := Nat.lt_of_lt_of_le (lt_of_log2 h) pow_lo
section
variable {prog : Program} {w : World} {A : Around} {E : Value → Shared → Prop} {s : Shared} {h₀ : Heap}
end
mutual
theorem niceB_lay : ∀ d : PyData, niceB d = true → d.canLay0 = true ∧ d.leavesShort 4301 = true
  | .none, _ => ⟨by simp only [PyData.canLay0], by simp only [PyData.leavesShort]⟩
  | .bool _, _ => ⟨by simp only [PyData.canLay0], by simp only [PyData.leavesShort]⟩
  | .int i, h => ⟨by simp only [PyData.canLay0], by
    simp only [niceB, decide_eq_true_eq] at h
    simp only [PyData.leavesShort, decide_eq_true_eq, PyData.shown_int]; rw [PySem.ofString_length]
    exact int_text_length_le10 (k := 4300) (by decide) (big_lt h)⟩
  | .str x, h => by
    simp only [niceB] at h
    refine ⟨by simp only [PyData.canLay0]; exact h, ?_⟩
    simp only [PyData.leavesShort, List.all_eq_true, decide_eq_true_eq]; intro c hc
    have h3 : c < 0x110000 := of_decide_eq_true (Array.all_eq_true'.mp h c (by simpa using hc))
    omega
  | .list xs, h => by simp only [niceB] at h; simp only [PyData.canLay0, PyData.leavesShort]; exact niceB_layA xs h
  | .tuple xs, h => by simp only [niceB] at h; simp only [PyData.canLay0, PyData.leavesShort]; exact niceB_layA xs h
  | .dict _, h => by simp only [niceB] at h; cases h
theorem niceB_layA : ∀ ds : List PyData, niceBAll ds = true → PyData.canLayAll0 ds = true ∧ PyData.leavesShortAll 4301 ds = true
  | [], _ => ⟨by simp only [PyData.canLayAll0], by simp only [PyData.leavesShortAll]⟩
  | x :: xs, h => by
    simp only [niceBAll, Bool.and_eq_true] at h
    have a := niceB_lay x h.1
    have c := niceB_layA xs h.2
    simp only [PyData.canLayAll0, PyData.leavesShortAll, Bool.and_eq_true]; exact ⟨⟨a.1, c.1⟩, a.2, c.2⟩
end
structure OkB (d : PyData) : Prop where
  nice : niceB d = true
  dp : d.depth ≤ 60
  bulk : d.bulk ≤ 2000
theorem OkB.shaped {d : PyData} (h : OkB d) : SeqAt.shaped d = true := by
  unfold SeqAt.shaped
  rw [(niceB_lay d h.nice).1, Bool.true_and, decide_eq_true_eq]; have := h.dp; omega
theorem OkB.len {d : PyData} (h : OkB d) : d.shown.length ≤ sizeLine := by
  have h1 := PyData.shown_le_bulk 4301 (by decide) d (niceB_lay d h.nice).2
  have h2 := h.bulk
  rw [show sizeLine = 16777216 from by decide]; omega
section
variable {X : Cx} {i : Nat} {Γ : List VD} {B B1 B2 B' : Bag} {e a b c : Expr} {es : List Expr} {y : PyData} {pos p : Pos}
end
end Gd
set_option exponentiation.threshold 20000
namespace Lw
open PySem PySem.Spec PyProof.Rows L2 Gd Fr
open scoped Rat
mutual
theorem niceB_of : ∀ d : PyData, nice d = true → niceB d = true
  | .none, _ => by simp only [niceB]
  | .bool _, _ => by simp only [niceB]
  | .int i, h => by
    simp only [nice, decide_eq_true_eq] at h
    simp only [niceB, decide_eq_true_eq]
    omega
  | .str _, h => by simp only [nice] at h; simp only [niceB]; exact h
  | .list xs, h => by simp only [nice] at h; simp only [niceB]; exact niceB_ofA xs h
  | .tuple xs, h => by simp only [nice] at h; simp only [niceB]; exact niceB_ofA xs h
  | .dict _, h => by simp only [nice] at h; cases h
theorem niceB_ofA : ∀ ds : List PyData, niceAll ds = true → niceBAll ds = true
  | [], _ => by simp only [niceBAll]
  | x :: xs, h => by
    simp only [niceAll, Bool.and_eq_true] at h
    simp only [niceBAll, Bool.and_eq_true]
    exact ⟨niceB_of x h.1, niceB_ofA xs h.2⟩
end
structure NdB (D W : Nat) (d : PyData) : Prop where
  ni : niceB d = true
  dp : d.depth ≤ D
  bk : d.bulk ≤ W
structure NdBA (D W : Nat) (ds : List PyData) : Prop where
  ni : niceBAll ds = true
  dp : PyData.depthAll ds ≤ D
  bk : PyData.bulkAll ds ≤ W
theorem Nd.b {D W : Nat} {d : PyData} (h : Nd D W d) : NdB D W d := ⟨niceB_of d h.ni, h.dp, h.bk⟩
theorem NdBA.nil {D W : Nat} : NdBA D W [] := ⟨by simp only [niceBAll], by simp only [PyData.depthAll]; omega, by simp only [PyData.bulkAll]; omega⟩
theorem NdBA.cons {D W W' : Nat} {d : PyData} {ds : List PyData} (h : NdB D W d) (r : NdBA D W' ds) : NdBA D (W + 1 + W') (d :: ds) :=
  ⟨by simp only [niceBAll, h.ni, r.ni, Bool.and_self], by have := h.dp; have := r.dp; simp only [PyData.depthAll]; omega, by have := h.bk; have := r.bk; simp only [PyData.bulkAll]; omega⟩
theorem NdB.le {D W D' W' : Nat} {d : PyData} (h : NdB D W d) (e : D ≤ D') (f : W ≤ W') : NdB D' W' d := ⟨h.ni, Nat.le_trans h.dp e, Nat.le_trans h.bk f⟩
theorem NdB.list {D W : Nat} {ds : List PyData} (h : NdBA D W ds) : NdB (D + 1) W (.list ds) := ⟨by simp only [niceB]; exact h.ni, by have := h.dp; simp only [PyData.depth]; omega, by have := h.bk; simp only [PyData.bulk]; omega⟩
theorem NdB.tuple {D W : Nat} {ds : List PyData} (h : NdBA D W ds) : NdB (D + 1) W (.tuple ds) := ⟨by simp only [niceB]; exact h.ni, by have := h.dp; simp only [PyData.depth]; omega, by have := h.bk; simp only [PyData.bulk]; omega⟩
theorem NdB.int {n : Nat} {i : Int} (h : Bd n i) (e : n ≤ 12900 := by decide) : NdB 1 0 (.int i) := ⟨by
  simp only [niceB, decide_eq_true_eq]
  by_cases h0 : 0 < n
  · exact Nat.lt_of_lt_of_le (PySem.Flt.log2_lt_of h0 h) e
  · have : n = 0 := by omega
    subst this
    have : i.natAbs = 0 := by unfold Bd at h; omega
    rw [this]; decide, by simp only [PyData.depth]; omega, by simp only [PyData.bulk]; omega⟩
theorem NdB.okb {D W : Nat} {d : PyData} (h : NdB D W d) (e : D ≤ 60 := by decide) (f : W ≤ 2000 := by decide) : OkB d := ⟨h.ni, Nat.le_trans h.dp e, Nat.le_trans h.bk f⟩
def Vcan (b p : Nat) (low high : Int) : Va → Prop
  | .num s c e => (s = 0 ∨ s = 1) ∧ Can b p low c e ∧ e ≤ high
  | .inf s => s = 0 ∨ s = 1
  | .nan => True
theorem Vcan.ok {b p : Nat} {low high : Int} {v : Va} (h : Vcan b p low high v) : Vok b p low high v := by
  cases v with
  | nan => trivial
  | inf s => exact h
  | num s c e => exact ⟨h.1, h.2.1.1, h.2.1.2.1, h.2.1.2.2.1, h.2.2⟩
end Lw
set_option exponentiation.threshold 20000
namespace Lw
open PySem PySem.Spec PyProof.Rows L2 Gd Fr
open scoped Rat
section
variable {b p : Nat} {low high : Int} (F : Fm b p low high)
include F
end
end Lw
namespace Gd
open PySem PySem.Spec PyProof.Rows L2
section
variable {X : Cx} {Γ : List VD} {B B1 B2 : Bag} {e c elt : Expr} {scope : Scope} {acc : List PyData} {pos pos' : Pos} {rest : List Stmt} {E : En} {d : VD}
theorem lcI_step {K : PySem.W.Frag} {g : Gh} {H1 H' : Hp} {A : Addr} {H2 H'' H3 H3' : Hp} (off : Off g A) (I : LcI K g H1 H' A acc B1 H2 H'') (t : To g H2 H'' H3 H3') (o : On K g B2 H3 H3') : LcI K g H1 H' A acc B2 H3 H3' := by
  obtain ⟨zs, h1, h2⟩ := I.at'
  obtain ⟨h3, h4⟩ := t.un A _ off I.no h1
  exact ⟨I.to.trans t, I.new, h3, ⟨zs, h4, h2.mono t.ex⟩, o⟩
theorem wipe2 {σ : L2.St} {j1 j2 : Nat} {v1 v2 : Option V} (h : j1 ≠ j2) : ((wipe σ [j1, j2]).set j1 v1).set j2 v2 = (σ.set j1 v1).set j2 v2 := by
  show ((((σ.set j2 none).set j1 none).set j1 v1).set j2 v2) = _
  rw [List.set_set, List.set_comm none v1 (Ne.symm h), List.set_set]
theorem wipe2w {σ : L2.St} {j1 j2 : Nat} {v1 v2 : Option V} (h : j1 ≠ j2) : wipe ((σ.set j1 v1).set j2 v2) [j1, j2] = wipe σ [j1, j2] := by
  show ((((σ.set j1 v1).set j2 v2).set j2 none).set j1 none) = (σ.set j2 none).set j1 none
  rw [List.set_set, List.set_comm v1 none h, List.set_set]
end
end Gd
set_option exponentiation.threshold 20000
namespace Lw
open PySem PySem.Spec PyProof.Rows L2 Gd Fr
open scoped Rat
section
variable {b p : Nat} {low high : Int} (F : Fm b p low high)
include F
end
end Lw
namespace Gd
open PySem PySem.Spec PyProof.Rows L2
section
variable {X : Cx} {Γ : List VD} {B B1 B2 : Bag} {e c elt a b : Expr} {scope : Scope} {acc : List PyData} {pos pos' : Pos} {rest : List Stmt} {E : En} {d : VD}
theorem lc_turnF {j : Nat} {g : Gh} {H1 H' : Hp} {A : Addr} {H'' H2 : Hp} {σ : L2.St} {v : V} {y z : PyData} {f : Bool} {Nx : Hp → Prop} (off : Off g A) (Ev : EnvD X.K g H1 σ Γ) (I : LcI X.K g H1 H' A acc B H2 H'') (r : Rp X.K H2 v y)
    (hz : acc.length < 1000) (ht : Blk X scope fun Y => TJ Y (Γ.set j (.da y)) B c f B) (he : f = true → Blk X scope fun Y => EJ Y (Γ.set j (.da y)) B elt (.da z) B)
    (k : ∀ H3 H3', LcI X.K g H1 H' A (if f = true then acc ++ [z] else acc) B H3 H3' → Nx H3') :
    gName j v (wipe σ [j]) H'' fun σ2 H2 => wipe σ2 [j] = wipe σ [j] ∧ WTB X scope c σ2 H2 fun b H3 => if b = true then WB X scope elt σ2 H3 fun y H4 => ∃ acc, H4 A = some (.lst acc) ∧ acc.length < sizeLine ∧ Nx (upd H4 A (.lst (acc ++ [y]))) else Nx H3 := by
  refine ⟨wipe1, ?_⟩
  intro s hH C cl fp
  have ev := wipe_env (Ev.mono I.to.ex) r (j := j)
  refine ht s hH C cl fp g _ H2 H'' ev I.on _ fun H3 H3' t o => ?_
  have J := lcI_step off I t o
  cases f with
  | false => exact k _ _ J
  | true =>
    refine iteT ?_
    intro s hH C cl fp
    refine he rfl s hH C cl fp g _ H3 H3' (ev.mono t.ex) J.on _ fun w H4 H4' t2 o2 rw' => ?_
    obtain ⟨zs, h1, h2, J2⟩ := lcI_app off J t2 o2 rw'
    exact ⟨zs, h1, by rw [h2]; exact small1000 (Nat.le_of_lt hz), k _ _ J2⟩
theorem rj_lcF1 {α : Type} {j : Nat} (L : List α) (D z : α → PyData) (f : α → Bool) (hi : EJ X Γ B e (.da (.list (L.map D))) B1) (hz : L.length ≤ 1000)
    (ht : ∀ a ∈ L, Blk X scope fun Y => TJ Y (Γ.set j (.da (D a))) B1 c (f a) B1) (he : ∀ a ∈ L, f a = true → Blk X scope fun Y => EJ Y (Γ.set j (.da (D a))) B1 elt (.da (z a)) B1) :
    RJ X Γ B (tLc (iList X.K (WE X e)) (gName j) (WTB X scope c) (WB X scope elt) [j]) (.da (.list ((L.filter f).map z))) B1 := fun g σ H0 H Ev O Q' q =>
  hi g σ H0 H Ev O _ fun v H1 H' t o r => by
    obtain ⟨p, xs, rfl, hxs, rs⟩ := rvL r
    refine ⟨p, rfl, ⟨xs, SqL.of (o.ex _ _ hxs)⟩, fun A hA => ?_⟩
    obtain ⟨off, I0⟩ := lcI_start o hA
    refine lc_list (xs := xs) (fun i H'' => ∃ H2, LcI X.K g H1 H' A (((L.take i).filter f).map z) B1 H2 H'') ⟨_, I0⟩ ?_ ?_ ?_
    · rintro i H'' _ ⟨H2, I⟩
      exact SqL.of (I.on.ex _ _ (I.to.ex _ _ hxs))
    · rintro i w H'' hw ⟨H2, I⟩
      obtain ⟨y, hy, ry⟩ := rs.get hw
      rw [List.getElem?_map] at hy
      obtain ⟨a, ha, rfl⟩ := Option.map_eq_some_iff.mp hy
      have hm := List.mem_of_getElem? ha
      have hlt : i < L.length := (List.getElem?_eq_some_iff.mp ha).1
      have hle : ((((L.take i).filter f).map z).length) < 1000 := by
        rw [List.length_map]
        have h1 := List.length_filter_le f (L.take i)
        rw [List.length_take] at h1
        omega
      refine lc_turnF off (Ev.mono t.ex) I (ry.mono I.to.ex) hle (ht a hm) (he a hm) fun H3 H3' J => ⟨H3, ?_⟩
      rw [List.take_add_one, ha, List.filter_append, List.map_append]
      cases hf : f a with
      | true =>
        rw [hf] at J
        simpa [hf] using J
      | false =>
        rw [hf] at J
        simpa [hf] using J
    · rintro H'' ⟨H2, I⟩
      rw [rs.length, List.length_map, List.take_length] at I
      obtain ⟨H3, t3, o3, r3⟩ := lcI_end off t I
      exact q _ H3 H'' t3 o3 r3
theorem ej_lcF1 {j : Nat} {x : Str} {px : Pos} (nd : X.N.Nodup) (hc : X.calm = true) (ok : BlkOk X.N X.env.scope scope [(x, j)])
    (hg : ∀ (s : Shared) (H : Hp) (C : Addr) (cl : List (Str × Addr)) (fp : List Addr), PG (X.blk s H scope (compEnvC scope cl C X.env) fp) (.Name x px) (gName j))
    (r : RJ X Γ B (tLc (iList X.K (WE X e)) (gName j) (WTB X scope c) (WB X scope elt) [j]) d B1) (hq : ∀ x, foldedSetIterable e X.env x = pure x := by intro _; rfl) :
    EJ X Γ B (.ListComp elt [⟨.Name x px, e, [c], 0⟩] scope pos) d B1 :=
  ej_of (pe_lc (own := [(x, j)]) hc nd (pi_list (we e)) ok hg (fun s H C cl fp => pts_one (wtb scope c s H C cl fp)) (wb scope elt) hq) r
end
end Gd
set_option exponentiation.threshold 20000
namespace Lw
open PySem PySem.Spec PyProof.Rows L2 Gd Fr
open scoped Rat
section
variable {b p : Nat} {low high : Int} (F : Fm b p low high)
include F
end
end Lw
namespace Gd
open PySem PySem.Spec PyProof.Rows L2
section
variable {P : Program} {w : World} {A : Around} {s : Shared} {E : Value → Shared → Prop}
end
section
variable {X : Cx}
end
end Gd
namespace Gd
open PySem PySem.Spec PyProof.Rows L2
section
variable {X : Cx} {Γ : List VD} {B B1 B2 : Bag} {e c elt a b : Expr} {scope : Scope} {acc : List PyData} {pos pos' p p' : Pos} {rest : List Stmt} {E : En} {d : VD}
theorem rj_lcF1T {α : Type} {j : Nat} (L : List α) (D z : α → PyData) (f : α → Bool) (hi : EJ X Γ B e (.da (.tuple (L.map D))) B1) (hz : L.length ≤ 1000)
    (ht : ∀ a ∈ L, Blk X scope fun Y => TJ Y (Γ.set j (.da (D a))) B1 c (f a) B1) (he : ∀ a ∈ L, f a = true → Blk X scope fun Y => EJ Y (Γ.set j (.da (D a))) B1 elt (.da (z a)) B1) :
    RJ X Γ B (tLc (iTup X.K (WE X e)) (gName j) (WTB X scope c) (WB X scope elt) [j]) (.da (.list ((L.filter f).map z))) B1 := fun g σ H0 H Ev O Q' q =>
  hi g σ H0 H Ev O _ fun v H1 H' t o r => by
    obtain ⟨p, xs, rfl, hxs, rs⟩ := rvT r
    refine ⟨p, rfl, ⟨xs, seqT o.ex hxs⟩, fun A hA => ?_⟩
    obtain ⟨off, I0⟩ := lcI_start o hA
    refine lc_tup (xs := xs) (fun i H'' => ∃ H2, LcI X.K g H1 H' A (((L.take i).filter f).map z) B1 H2 H'') ⟨_, I0⟩ ?_ ?_ ?_
    · rintro i H'' _ ⟨H2, I⟩
      exact seqT I.on.ex (seqT I.to.ex hxs)
    · rintro i w H'' hw ⟨H2, I⟩
      obtain ⟨y, hy, ry⟩ := rs.get hw
      rw [List.getElem?_map] at hy
      obtain ⟨a, ha, rfl⟩ := Option.map_eq_some_iff.mp hy
      have hm := List.mem_of_getElem? ha
      have hlt : i < L.length := (List.getElem?_eq_some_iff.mp ha).1
      have hle : ((((L.take i).filter f).map z).length) < 1000 := by
        rw [List.length_map]
        have h1 := List.length_filter_le f (L.take i)
        rw [List.length_take] at h1
        omega
      refine lc_turnF off (Ev.mono t.ex) I (ry.mono I.to.ex) hle (ht a hm) (he a hm) fun H3 H3' J => ⟨H3, ?_⟩
      rw [List.take_add_one, ha, List.filter_append, List.map_append]
      cases hf : f a with
      | true =>
        rw [hf] at J
        simpa [hf] using J
      | false =>
        rw [hf] at J
        simpa [hf] using J
    · rintro H'' ⟨H2, I⟩
      rw [rs.length, List.length_map, List.take_length] at I
      obtain ⟨H3, t3, o3, r3⟩ := lcI_end off t I
      exact q _ H3 H'' t3 o3 r3
theorem ej_lcF1T {j : Nat} {x : Str} {px : Pos} (nd : X.N.Nodup) (hc : X.calm = true) (ok : BlkOk X.N X.env.scope scope [(x, j)])
    (hg : ∀ (s : Shared) (H : Hp) (C : Addr) (cl : List (Str × Addr)) (fp : List Addr), PG (X.blk s H scope (compEnvC scope cl C X.env) fp) (.Name x px) (gName j))
    (r : RJ X Γ B (tLc (iTup X.K (WE X e)) (gName j) (WTB X scope c) (WB X scope elt) [j]) d B1) (hq : ∀ x, foldedSetIterable e X.env x = pure x := by intro _; rfl) :
    EJ X Γ B (.ListComp elt [⟨.Name x px, e, [c], 0⟩] scope pos) d B1 :=
  ej_of (pe_lc (own := [(x, j)]) hc nd (pi_tup (we e)) ok hg (fun s H C cl fp => pts_one (wtb scope c s H C cl fp)) (wb scope elt) hq) r
end
end Gd
set_option exponentiation.threshold 20000
namespace Lw
open PySem PySem.Spec PyProof.Rows L2 Gd Fr
open scoped Rat
def flagAll : List Str := ["by", "inexact", "invalid", "over", "tiny"]
end Lw
set_option exponentiation.threshold 20000
namespace Lw
open PySem PySem.Spec PyProof.Rows L2 Gd Fr
open scoped Rat
section
variable {b p : Nat} {low high : Int} (F : Fm b p low high)
include F
end
end Lw
set_option exponentiation.threshold 20000
namespace Lw
open PySem PySem.Spec PyProof.Rows L2 Gd Fr
open scoped Rat
section
variable {X : Cx} {Γ : List VD} {B B1 B2 : Bag} {a b : Expr} {pos : Pos}
end
end Lw
namespace Gd
open PySem PySem.Spec PyProof.Rows L2
section
variable {P : Program} {w : World} {K : PySem.W.Frag} {mg : Str → Option Value} {base : Heap} {x : Str}
def CalE (P : Program) (w : World) (K : PySem.W.Frag) (mg : Str → Option Value) (base : Heap) (x : Str) (k : Nat) (Pre : List VD → Bag → Prop) (Post : List VD → Bag → PyData → Bag → Prop) : Prop :=
  ∃ R : Rel, Cal P w K mg base x k R ∧ ∀ Γ B, Pre Γ B → ∃ r B', R Γ B r B' ∧ Post Γ B r B'
theorem Cal.e {k : Nat} {R : Rel} (c : Cal P w K mg base x k R) {Pre : List VD → Bag → Prop} {Post : List VD → Bag → PyData → Bag → Prop} (h : ∀ Γ B, Pre Γ B → ∃ r B', R Γ B r B' ∧ Post Γ B r B') : CalE P w K mg base x k Pre Post := ⟨R, c, h⟩
end
section
variable {X : Cx} {Γ : List VD} {B B1 B2 : Bag} {a b c : Expr} {d : VD} {pos : Pos}
end
end Gd
namespace Gd
open PySem PySem.Spec PyProof.Rows L2
section
variable {X : Cx} {i : Nat} {Γ : List VD} {B B1 B2 B' : Bag} {ds : List PyData} {e a b c : Expr} {es : List Expr} {pos p p1 p2 p3 pos' : Pos} {rest ss s1 s2 : List Stmt} {E : En}
end
end Gd
set_option exponentiation.threshold 20000
namespace Lw
open PySem PySem.Spec PyProof.Rows L2 Gd Fr
open scoped Rat
end Lw
namespace Lw
open PySem PySem.Spec PyProof.Rows L2 Gd Fr
def thing (r : PyData) : Prop := ∃ (t : F4) (y : PyData), r = .tuple [t.d, y] ∧ t.ok ∧ (y = .none ∨ ∃ v : Va, y = v.d ∧ Vok t.1 t.2.1 t.2.2.1 t.2.2.2 v)
end Lw
namespace Gd
open PySem PySem.Spec PyProof.Rows L2
section
variable {X : Cx} {Γ : List VD} {B B1 B2 : Bag} {a b c : Expr} {es : List Expr} {pos p : Pos}
end
end Gd
set_option exponentiation.threshold 20000
namespace Gd
open PySem PySem.Spec PyProof.Rows L2
section
variable {X : Cx} {Γ : List VD} {B B1 B2 : Bag} {c : Expr} {pos : Pos} {rest s1 s2 : List Stmt} {E : En}
end
end Gd
namespace Lw
open PySem PySem.Spec PyProof.Rows L2 Gd Fr
open scoped Rat
end Lw
set_option exponentiation.threshold 20000
namespace Lw
open PySem PySem.Spec PyProof.Rows L2 Gd Fr
open scoped Rat
def fmI (b p : Nat) : Int := ((b : Int) - 1) * ((b ^ (p - 1) : Nat) : Int)
def mostI (b p : Nat) (low high : Int) : Int := ((b ^ p : Nat) : Int) + (high - low) * fmI b p
def rkS (b p : Nat) (low high : Int) : Va → Int
  | .num _ c e => c + (e - low) * fmI b p
  | _ => mostI b p low high
def rkI (b p : Nat) (low high : Int) (v : Va) : Int := if v.sg = 1 then -rkS b p low high v else rkS b p low high v
variable {b p : Nat} {low high : Int} (F : Fm b p low high)
include F
end Lw
namespace Gd
open PySem PySem.Spec PyProof.Rows L2
section
variable {X : Cx} {Γ : List VD} {B B1 B2 : Bag} {a b c e : Expr} {pos p pos' : Pos} {rest : List Stmt} {E : En} {elt : Expr} {scope : Scope} {j : Nat} {x : Str} {px : Pos} {d : VD}
theorem call_reprL : CallR X (.builtin "repr") (fun xs H Q => ∃ b, xs = [.bl b] ∧ Q (.str (if b then "True" else "False")) H) := by
  intro pins s σ H xs us Q I r h
  obtain ⟨b, rfl, q⟩ := h
  obtain ⟨u, rfl, rfl⟩ := vals1 r
  exact PySem.P.repr_of_bool ⟨.str _, H, I.tok _, ⟨_, rfl⟩, q⟩
theorem ej_reprL {b : Bool} (hm : X.mg "repr" = none) (ha : EJ X Γ B a (.da (.bool b)) B1) (hs : starEach [a] X.env = [(false, eval a X.env)] := by rfl) (hg : Gl X "repr" := by rfl) :
    EJ X Γ B (.Call (.Name "repr" p) [a] [] pos) (.da (.str (if b then "True" else "False"))) B1 :=
  ej_callB call_reprL hm (aj_cons ha aj_nil hs) (fun gh vs H0 H O r Q q => by
    obtain ⟨v, rfl, h⟩ := rv1 r
    exact ⟨b, by rw [rvB h], q _ _ _ To.refl O (Rp.str _)⟩) (hg := hg) (he := hs)
theorem ej_reprI {i : Int} (hi : i.natAbs.log2 < 1920) (hm : X.mg "repr" = none) (ha : EJ X Γ B a (.da (.int i)) B1) (hs : starEach [a] X.env = [(false, eval a X.env)] := by rfl) (hg : Gl X "repr" := by rfl) :
    EJ X Γ B (.Call (.Name "repr" p) [a] [] pos) (.da (.str (toString i))) B1 :=
  ej_callB SkE.call_repr_int hm (aj_cons ha aj_nil hs) (fun gh vs H0 H O r Q q => by
    obtain ⟨v, rfl, h⟩ := rv1 r
    exact ⟨i, by rw [rvI h], hi, q _ _ _ To.refl O (Rp.str _)⟩) (hg := hg) (he := hs)
end
end Gd
namespace Gd
open PySem PySem.Spec PyProof.Rows L2
section
variable {X : Cx} {Γ : List VD} {B B1 B2 : Bag} {a b c e : Expr} {pos p pos' : Pos} {rest s1 : List Stmt} {E : En}
end
end Gd
set_option exponentiation.threshold 20000
namespace Lw
open PySem PySem.Spec PyProof.Rows L2 Gd Fr
open scoped Rat
noncomputable instance instVa : DecidableEq Va := fun x y => Classical.propDecidable (x = y)
section
variable {b p : Nat} {low high : Int} (F : Fm b p low high)
include F
end
inductive R_alikeA : Rel
  | mk (d : PyData) (B : Bag) (h : Okd d) (hb : boxed d = true ∨ d = .none ∨ (∃ b, d = .bool b) ∨ ∃ i, d = .int i) : R_alikeA [.da d, .da d] B (.bool true) B
end Lw
namespace Gd
open PySem PySem.Spec PyProof.Rows L2
section
variable {X : Cx} {Γ : List VD} {B B1 B2 : Bag} {a b c e : Expr} {pos p pos' : Pos} {rest s1 : List Stmt} {E : En}
end
end Gd
set_option exponentiation.threshold 20000
namespace Lw
open PySem PySem.Spec PyProof.Rows L2 Gd Fr
open scoped Rat
section
variable {b p : Nat} {low high : Int} (F : Fm b p low high)
include F
end
section
variable {b p : Nat} {low high : Int} (F : Fm b p low high)
include F
end
end Lw
set_option exponentiation.threshold 20000
namespace Lw
open PySem PySem.Spec PyProof.Rows L2 Gd Fr
open scoped Rat
def exQ (b p : Nat) (low high : Int) (x : Rat) : Prop := rQ b (eQ b p low (absQ x)) (absQ x) = 0 ∧ eQ b p low (absQ x) ≤ high
section
variable {b p : Nat} {low high : Int} (F : Fm b p low high)
include F
end
end Lw
namespace Lw
open PySem PySem.Spec PyProof.Rows L2 Gd Fr
end Lw
namespace Gd
open PySem PySem.Spec PyProof.Rows L2
theorem lc_zip {K : PySem.W.Frag} {a b : Addr} {xs ys : List V} {g : TG} {tt : TT} {te : TE} {vs : List Nat} {σ : L2.St} {H1 : Hp} {D : Addr} {Qd : Hp → Prop} (hl : xs.length = ys.length) (Pv : Nat → Hp → Prop) (h0 : Pv 0 (upd H1 D (.lst []))) (hq : ∀ i H, Pv i H → SqL K H a xs ∧ SqL K H b ys)
    (hs : ∀ i x y T H, xs[i]? = some x → ys[i]? = some y → Pv i H → H T = none → g (.ref T) (wipe σ vs) (upd H T (.tup [x, y])) fun σ2 H2 => wipe σ2 vs = wipe σ vs ∧ tt σ2 H2 fun b H3 =>
      if b = true then te σ2 H3 fun y H4 => ∃ acc, H4 D = some (.lst acc) ∧ acc.length < sizeLine ∧ Pv (i + 1) (upd H4 D (.lst (acc ++ [y]))) else Pv (i + 1) H3) (hd : ∀ H, Pv xs.length H → Qd H) :
    ∃ W : Nat → Nat → Hp → Prop, (∃ m, W 0 m (upd H1 D (.lst []))) ∧ ∀ i m H, W i m H →
      ((Itz K a b).stop i H ∧ Qd H) ∨ ((Itz K a b).go i H ∧ ∃ Nx : Hp → Prop, (∀ H', Nx H' → ∃ m', m' < m ∧ W (i + 1) m' H') ∧ ∀ x H', (Itz K a b).yld i H x H' → g x (wipe σ vs) H' fun σ2 H2 => wipe σ2 vs = wipe σ vs ∧ tt σ2 H2 fun b H3 =>
        if b = true then te σ2 H3 fun y H4 => ∃ acc, H4 D = some (.lst acc) ∧ acc.length < sizeLine ∧ Nx (upd H4 D (.lst (acc ++ [y]))) else Nx H3) := by
  refine ⟨fun i m H => m = xs.length - i ∧ i ≤ xs.length ∧ Pv i H, ⟨xs.length, rfl, Nat.zero_le _, h0⟩, ?_⟩
  rintro i m H ⟨rfl, hi, p⟩
  obtain ⟨qx, qy⟩ := hq i H p
  by_cases hlt : i < xs.length
  · have hx : xs[i]? = some xs[i] := List.getElem?_eq_getElem hlt
    have hlt2 : i < ys.length := by omega
    have hy : ys[i]? = some ys[i] := List.getElem?_eq_getElem hlt2
    refine .inr ⟨⟨xs, ys, _, _, qx, qy, hx, hy⟩, fun H => Pv (i + 1) H, fun H' p' => ⟨xs.length - (i + 1), by omega, rfl, hlt, p'⟩, fun v H' y => ?_⟩
    obtain ⟨T, x', y', rfl, hT, rfl, f1, f2⟩ := y
    exact hs i x' y' T H (f1 xs qx) (f2 ys qy) p hT
  · have e : i = xs.length := by omega
    subst e
    exact .inl ⟨⟨xs, ys, qx, qy, Or.inl (Nat.le_refl _)⟩, hd H p⟩
section
variable {X : Cx} {Γ : List VD} {B B1 B2 : Bag} {a b c e elt : Expr} {scope : Scope} {pos p pos' : Pos} {rest s1 : List Stmt} {E : En} {d : VD}
theorem ej_lcFZ {j1 j2 : Nat} {x1 x2 : Str} {ts : List Expr} {kt : Nat} {pt pz pc : Pos} (nd : X.N.Nodup) (hc : X.calm = true) (hm : X.mg "zip" = none) (ok : BlkOk X.N X.env.scope scope [(x1, j1), (x2, j2)])
    (hg : ∀ (s : Shared) (H : Hp) (C : Addr) (cl : List (Str × Addr)) (fp : List Addr), PG (X.blk s H scope (compEnvC scope cl C X.env) fp) (.Tuple ts kt pt) (gTup X.K 2 (gNames [j1, j2])))
    (r : RJ X Γ B (tLc (iZip X.K (WA X [a, b])) (gTup X.K 2 (gNames [j1, j2])) (WTB X scope c) (WB X scope elt) [j1, j2]) d B1)
    (hq : ∀ x, foldedSetIterable (.Call (.Name "zip" pz) [a, b] [] pc) X.env x = pure x := by intro _; rfl) (hst1 : starEach [a, b] X.env = (false, eval a X.env) :: starEach [b] X.env := by rfl) (hpl : (backTo pc (starEach [b] X.env)).any (·.1) = false := by rfl) (hgl : Gl X "zip" := by rfl) :
    EJ X Γ B (.ListComp elt [⟨.Tuple ts kt pt, .Call (.Name "zip" pz) [a, b] [] pc, [c], 0⟩] scope pos) d B1 :=
  ej_of (pe_lc (own := [(x1, j1), (x2, j2)]) hc nd (pi_zip hgl hm (wa [a, b]) hst1 hpl) ok hg (fun s H C cl fp => pts_one (wtb scope c s H C cl fp)) (wb scope elt) hq) r
end
end Gd
set_option exponentiation.threshold 20000
namespace Lw
open PySem PySem.Spec PyProof.Rows L2 Gd Fr
open scoped Rat
section
variable {b p : Nat} {low high : Int} (F : Fm b p low high)
include F
end
end Lw
namespace Lw
end Lw
namespace Gd
open PySem PySem.Spec PyProof.Rows L2
def tyN : PyData → Option String
  | .none => some "NoneType"
  | .bool _ => some "bool"
  | .int _ => some "int"
  | .str _ => some "str"
  | .list _ => some "list"
  | .tuple _ => some "tuple"
  | .dict _ => some "dict"
section
variable {X : Cx} {Γ : List VD} {B B1 B2 : Bag} {e c elt a b : Expr} {scope : Scope} {acc : List PyData} {pos pos' p p' : Pos} {rest : List Stmt} {E : En} {d : VD}
theorem rp_ty {K : PySem.W.Frag} {H0 H : Hp} (ex : Same H0 H) {v : V} {y : PyData} {t : String} (r : Rp K H0 v y) (h : tyN y = some t) : TyX K H v (.type t) := by
  cases r with
  | non => cases h; exact .base .non
  | bl b => cases h; exact .base (.bl b)
  | int i => cases h; exact .base (.int i)
  | str x => cases h; exact .base (.str x)
  | lst hx _ => cases h; exact .base (.lst (ex _ _ hx))
  | tup hx _ =>
    cases h
    rcases hx with (hh | ⟨ob, hh⟩) | hh
    · exact .base (.tup (ex _ _ hh))
    · exact .fTuple (ex _ _ hh)
    · obtain ⟨ob, its, n, h1, h2, _⟩ := hh; exact .kTuple h1 h2
  | dct hx => cases h; exact .base (.dK (ex _ _ hx))
  | dctT kvs hx => cases h; exact .base (.dT (ex _ _ hx))
theorem ej_isi {x : Str} {T t : String} {r : Bool} {y : PyData} (hm : X.mg "isinstance" = none) (hmT : X.mg x = none) (ha : EJ X Γ B a (.da y) B1) (ht : tyN y = some t := by rfl) (hk : kitB t T = some r := by decide +kernel)
    (hv : bootBuiltins x = some (.type T) := by decide +kernel) (hgT : Gl X x := by rfl) (hn : x ≠ "__name__" := by decide) (hdb : (x == ("__debug__" : Str)) = false := by decide)
    (hs : starEach [a, .Name x p'] X.env = (false, eval a X.env) :: starEach [.Name x p'] X.env := by rfl) (hs2 : starEach [.Name x p'] X.env = (false, eval (.Name x p') X.env) :: starEach [] X.env := by rfl)
    (hpl : (backTo pos (starEach [.Name x p'] X.env)).any (·.1) = false := by rfl) (hg : Gl X "isinstance" := by rfl) :
    EJ X Γ B (.Call (.Name "isinstance" p) [a, .Name x p'] [] pos) (.da (.bool r)) B1 := fun g σ H0 H Ev O Q q =>
  ⟨_, pe_callB call_isi hg hm (by decide +kernel) (pa_cons (we a) (pa_cons (pe_bltn (v := .ty T) hgT hmT hv rfl hn hdb) pa_nil hs2) hs) (by decide) (by decide) hs hpl,
   ha g σ H0 H Ev O _ fun v H1 H' t1 o rv => ⟨v, .ty T, .type t, .type T, r, rfl, .ty T, rp_ty o.ex rv ht, kit_ty hk, q _ _ _ t1 o (Rp.bl r)⟩⟩
end
end Gd
set_option exponentiation.threshold 20000
namespace Lw
open PySem PySem.Spec PyProof.Rows L2 Gd Fr
open scoped Rat
noncomputable instance exQ_dec (b p : Nat) (low high : Int) (x : Rat) : Decidable (exQ b p low high x) := by unfold exQ; infer_instance
section
variable {b p : Nat} {low high : Int} {b' p' : Nat} {low' high' : Int} (F : Fm b p low high) (F' : Fm b' p' low' high')
include F F'
end
end Lw
set_option exponentiation.threshold 20000
namespace Lw
open PySem PySem.Spec PyProof.Rows L2 Gd Fr
open scoped Rat
end Lw
set_option exponentiation.threshold 20000
namespace Lw
open PySem PySem.Spec PyProof.Rows L2 Gd Fr
open scoped Rat
end Lw
namespace Gd
open PySem PySem.Spec PyProof.Rows L2
section
variable {X : Cx} {Γ : List VD} {B B1 B2 B3 : Bag} {e c elt a b o i f : Expr} {scope : Scope} {acc : List PyData} {pos pos' p p' : Pos} {rest : List Stmt} {E : En} {d : VD}
end
end Gd
namespace Gd
open PySem PySem.Spec PyProof.Rows L2
section
variable {X : Cx} {Γ : List VD} {B B1 B2 : Bag} {a b c e : Expr} {pos p pos' : Pos} {rest s1 : List Stmt} {E : En}
end
end Gd
set_option exponentiation.threshold 20000
namespace Lw
open PySem PySem.Spec PyProof.Rows L2 Gd Fr
open scoped Rat
section
variable {b p : Nat} {low high : Int} (F : Fm b p low high)
include F
end
end Lw
namespace Lw
open PySem PySem.Spec PyProof.Rows L2 Gd Fr
open scoped Rat
end Lw
namespace Fr
open Gd PySem
open scoped Rat
end Fr
namespace Gd
open PySem PySem.Spec PyProof.Rows L2
section
variable {X : Cx} {Γ : List VD} {B B1 B2 B3 B' : Bag} {e a b c : Expr} {es : List Expr} {d da db dc : VD} {pos p pos' apos : Pos} {rest ss s1 s2 : List Stmt} {E : En}
end
end Gd
namespace Lw
open PySem PySem.Spec PyProof.Rows L2 Gd Fr
open scoped Rat
end Lw
namespace Gd
open PySem PySem.Spec PyProof.Rows L2
section
variable {X : Cx}
end
section
variable {X : Cx} {Γ : List VD} {B B1 B2 B3 B' : Bag} {e a b c : Expr} {es : List Expr} {d da db dc : VD} {pos p pos' apos : Pos} {kp : Pos} {rest ss s1 s2 : List Stmt} {E : En}
end
end Gd
namespace Gd
open PySem PySem.Spec PyProof.Rows L2
section
variable {X : Cx} {Γ : List VD} {B B1 B2 : Bag} {e c elt : Expr} {scope : Scope} {acc : List PyData} {pos pos' : Pos} {rest : List Stmt} {E : En} {d : VD}
end
end Gd
set_option exponentiation.threshold 20000
namespace Lw
open PySem PySem.Spec PyProof.Rows L2 Gd Fr
open scoped Rat
theorem qz_i {n : Nat} {i : Int} (h : Bd n i) : Qz n 1 (i : Rat) := ⟨by rw [Rat.num_intCast]; exact h, by rw [Rat.den_intCast]; unfold Bd; decide⟩
def lisD (t : Bool) (ds : List PyData) : PyData := if t = true then .list ds else .tuple ds
end Lw
namespace Gd
open PySem PySem.Spec PyProof.Rows L2
section
variable {P : Program} {w : World} {A : Around} {s : Shared} {E : Value → Shared → Prop}
end
section
variable {X : Cx} {Γ : List VD} {B B1 B2 B' : Bag} {e a b c : Expr} {es : List Expr} {d da db dc : VD} {pos p p' pos' : Pos} {rest ss s1 s2 : List Stmt} {E : En}
end
end Gd
namespace Gd
open PySem PySem.Spec PyProof.Rows L2
mutual
def lfree : PyData → Bool
  | .none => true
  | .bool _ => true
  | .int _ => true
  | .str _ => true
  | .list _ => false
  | .tuple xs => lfreeAll xs
  | .dict _ => true
def lfreeAll : List PyData → Bool
  | [] => true
  | x :: xs => lfree x && lfreeAll xs
end
def without (H : Hp) (a : Addr) : Hp := fun b => if b = a then none else H b
section
variable {K : PySem.W.Frag} {H : Hp} {a : Addr} {zs : List V}
theorem seqT_without (hz : H a = some (.lst zs)) {b : Addr} {xs : List V} (h : SqT K H b xs) : SqT K (without H a) b xs := by
  rcases h with (hh | ⟨ob, hh⟩) | hh
  · refine .inl (.inl ?_)
    have hb : b ≠ a := fun z => by rw [z, hz] at hh; cases hh
    unfold without; rw [if_neg hb]; exact hh
  · refine .inl (.inr ⟨ob, ?_⟩)
    have hb : b ≠ a := fun z => by rw [z, hz] at hh; cases hh
    unfold without; rw [if_neg hb]; exact hh
  · exact .inr hh
mutual
theorem Rp.without (hz : H a = some (.lst zs)) : ∀ {v : V} {d : PyData}, lfree d = true → Rp K H v d → Rp K (without H a) v d
  | _, _, _, .non => .non
  | _, _, _, .bl b => .bl b
  | _, _, _, .int i => .int i
  | _, _, _, .str x => .str x
  | _, _, h, .lst _ _ => by simp only [lfree] at h; cases h
  | _, _, h, .tup q r => .tup (seqT_without hz q) (RpAll.without hz (by simp only [lfree] at h; exact h) r)
  | _, _, _, .dct q => .dct (by
    unfold Gd.without
    rw [if_neg (fun z => by rw [z, hz] at q; cases q)]; exact q)
  | _, _, _, .dctT kvs q => .dctT kvs (by
    unfold Gd.without
    rw [if_neg (fun z => by rw [z, hz] at q; cases q)]; exact q)
theorem RpAll.without (hz : H a = some (.lst zs)) : ∀ {vs : List V} {ds : List PyData}, lfreeAll ds = true → RpAll K H vs ds → RpAll K (without H a) vs ds
  | _, _, _, .nil => .nil
  | _, _, h, .cons q r => by
    simp only [lfreeAll, Bool.and_eq_true] at h
    exact .cons (Rp.without hz h.1 q) (RpAll.without hz h.2 r)
end
end
theorem Own.thaw {K : PySem.W.Frag} {i : Nat} {g : Gh} {A0 A1 : Hp} {a : Addr} {B B1 : Bag} {Γ : List VD} {acc : List PyData} {σ : L2.St} {H0 H : Hp} (O : Own K i g A0 A1 a B Γ acc σ H0 H) {zs : List V} (hz : H a = some (.lst zs)) (rz : RpAll K H0 zs acc)
    {H2 H' : Hp} (t : To g (upd H0 a (.lst zs)) H H2 H') (o : On K g B1 H2 H') :
    Own K i g A0 A1 a B1 Γ acc σ (without H2 a) H' ∧ Same H0 (without H2 a) ∧ H2 a = some (.lst zs) := by
  have h2 : H2 a = some (.lst zs) := t.ex _ _ upd_same
  have sm : Same H0 (without H2 a) := fun b u e => by
    have hb : b ≠ a := fun z => by rw [z, O.no] at e; cases e
    unfold without; rw [if_neg hb]
    exact t.ex _ _ (by rw [upd_ne hb]; exact e)
  refine ⟨⟨⟨O.to.ex.trans sm, fun b u f q1 q2 => ?_⟩, O.fr, O.off, O.ev.mono sm, O.at', ?_, ⟨zs, o.ex _ _ h2, rz.mono sm⟩, ⟨fun b u e => ?_, fun b l e => ?_⟩⟩, sm, h2⟩
  · have hb : b ≠ a := fun z => by rw [z, O.fr] at q2; cases q2
    obtain ⟨p1, p2⟩ := O.to.un b u f q1 q2
    obtain ⟨p3, p4⟩ := t.un b u f (by rw [upd_ne hb]; exact p1) p2
    exact ⟨by unfold Gd.without; rw [if_neg hb]; exact p3, p4⟩
  · unfold without; rw [if_pos rfl]
  · unfold without at e
    by_cases hb : b = a
    · rw [if_pos hb] at e; cases e
    · rw [if_neg hb] at e; exact o.ex _ _ e
  · obtain ⟨p1, p2, p3⟩ := o.bag b l e
    obtain ⟨_, _, q3⟩ := O.on.bag b l e
    have hb : b ≠ a := fun z => O.off l (z ▸ e)
    have hl : l ≠ a := fun z => by rw [z, O.no] at q3; cases q3
    -- the bag's list stays where it stood
    refine ⟨by unfold Gd.without; rw [if_neg hb]; exact p1, p2, by unfold Gd.without; rw [if_neg hl]; exact p3⟩
def OEJ (X : Cx) (i : Nat) (Γ : List VD) (B : Bag) (acc : List PyData) (e : Expr) (y : PyData) (B' : Bag) : Prop :=
  ∀ g σ A0 A1 a H0 H, Own X.K i g A0 A1 a B Γ acc σ H0 H → ∀ Q : VK, (∀ v H0' H', Own X.K i g A0 A1 a B' Γ acc σ H0' H' → Same H0 H0' → Rp X.K H0' v y → Q v H') → WE X e σ H Q
section
variable {X : Cx} {i : Nat} {Γ : List VD} {B B1 B2 B' : Bag} {acc ds : List PyData} {e e2 a b c : Expr} {es : List Expr} {d da db : VD} {y y2 : PyData} {pos p p1 p2 p3 pos' : Pos} {rest ss s1 s2 : List Stmt} {E : EnO}
theorem oe_ej (h : EJ X Γ B e (.da y) B1) : OEJ X i Γ B acc e y B1 := fun g σ A0 A1 a H0 H w Q q =>
  h g σ H0 H w.ev w.on _ fun v H1 H' t o r => q v H1 H' (w.step t o) t.ex r
theorem oe_fz (h : EJ X (Γ.set i (.da (.list acc))) B e (.da y) B1) (hy : lfree y = true) : OEJ X i Γ B acc e y B1 := fun g σ A0 A1 a H0 H w Q q => by
  obtain ⟨zs, hz, rz⟩ := w.ls
  have sm : Same H0 (upd H0 a (.lst zs)) := fun b o e => by
    rw [upd_ne fun z : b = a => by rw [z, w.no] at e; cases e]; exact e
  have ev : EnvD X.K g (upd H0 a (.lst zs)) σ (Γ.set i (.da (.list acc))) := by
    have e := (w.ev.mono sm).set (v := .ref a) (d := .da (.list acc)) i (Rp.lst upd_same (rz.mono sm))
    have es : σ.set i (some (.ref a)) = σ := by
      apply List.ext_getElem?
      intro j
      by_cases hj : i = j
      · subst hj
        rw [List.getElem?_set_self (List.getElem?_eq_some_iff.mp w.at').1, w.at']
      · rw [List.getElem?_set_ne hj]
    rw [es] at e; exact e
  have on : On X.K g B (upd H0 a (.lst zs)) H := ⟨fun b o e => by
    by_cases hb : b = a
    · subst hb; rw [upd_same] at e; rw [hz]; exact e
    · rw [upd_ne hb] at e; exact w.on.ex b o e, fun b l e => by
    obtain ⟨p, q, r⟩ := w.on.bag b l e
    have hb : b ≠ a := fun z => w.off l (z ▸ e)
    have hl : l ≠ a := fun z => by rw [z, w.no] at r; cases r
    exact ⟨by rw [upd_ne hb]; exact p, q, by rw [upd_ne hl]; exact r⟩⟩
  refine h g σ _ H ev on _ fun v H2 H' t o r => ?_
  obtain ⟨w2, s2, h2⟩ := w.thaw hz rz t o
  exact q v _ H' w2 s2 (Rp.without h2 hy r)
theorem ow_ins {x : Str} {k0 : Nat} (nd : X.N.Nodup) (h : OEJ X i Γ B acc e (.int (k0 : Int)) B1) (hh : OEJ X i Γ B1 acc e2 y B2) (hl : acc.length < 1000) (hk : k0 < 100000) (k : OwJ X i Γ B2 (acc.take k0 ++ [y] ++ acc.drop k0) rest E) (hi : X.N[i]? = some x := by rfl)
    (hv : Vis X.env.scope x := by first | exact Or.inl rfl | exact Or.inr (Or.inl rfl) | exact Or.inr (Or.inr rfl))
    (h1 : (x == ("__debug__" : Str)) = false := by decide) (h2 : (x == ("__classdict__" : Str)) = false := by decide)
    (hbase : attributeBase (.Name x p1) "insert" X.env (eval (.Name x p1) X.env) = eval (.Name x p1) X.env := by rfl)
    (hfew : ((backTo p3 (starEach [e, e2] X.env)).all (fun x => !x.1) && (backToKw p3 (keywordEach [] X.env)).all (fun x => x.1.isSome)
      && decide ([e, e2].length + ([] : List Keyword).length + (if ([] : List Keyword).isEmpty then 0 else 1) < 30)) = true := by rfl)
    (hline : (p2.endLine == p3.line) = true := by rfl) (hst : starEach [e, e2] X.env = (false, eval e X.env) :: starEach [e2] X.env := by rfl) (hst2 : starEach [e2] X.env = (false, eval e2 X.env) :: starEach [] X.env := by rfl)
    (hpl : (backTo p3 (starEach [e2] X.env)).any (·.1) = false := by rfl)
    (hs : swapsWith (.Call (.Attribute (.Name x p1) "insert" p2) [e, e2] [] p3) none pos.line X.env = pure false := by rfl) :
    OwJ X i Γ B acc (.Expr (.Call (.Attribute (.Name x p1) "insert" p2) [e, e2] [] p3) pos :: rest) E := fun g σ A0 A1 a H0 H w D G =>
  ⟨_, pss_cons (ps_expr (pe_bm PySem.F.plainAttrs_list PySem.F.slot_list_insert PySem.F.type_list_insert mt_insert (pe_var hi hv h1 h2) (pa_cons (we e) (pa_cons (we e2) pa_nil hst2) hst) hbase hfew hline hst hpl) hs) (ws rest), by
    obtain ⟨zs, hz, rz⟩ := w.ls
    refine ⟨_, w.at', .inl ⟨rfl, _, SqL.of hz⟩, ?_⟩
    refine h g σ A0 A1 a H0 H w _ fun v0 H1 H1' w1 sm1 rv0 => ?_
    refine hh g σ A0 A1 a H1 H1' w1 _ fun v H2 H' w2 sm2 rv => ?_
    cases rv0
    obtain ⟨zs2, hz2, rz2⟩ := w2.ls
    refine ⟨a, zs2, (k0 : Int), v, rfl, rfl, hz2, by rw [rz2.length]; exact small1000 (Nat.le_of_lt hl), by omega, by omega, ?_⟩
    rw [Int.toNat_natCast]
    refine k g σ A0 A1 a H2 _ ⟨⟨w2.to.ex, fun b u f q1 q2 => ?_⟩, w2.fr, w2.off, w2.ev, w2.at', w2.no, ⟨_, upd_same, ((rz2.take k0).app (.cons rv .nil)).app (rz2.drop k0)⟩, ⟨fun b u q => ?_, fun b l q => ?_⟩⟩ D (G.on (sm1.trans sm2))
    · obtain ⟨p, q⟩ := w2.to.un b u f q1 q2
      exact ⟨p, by rw [upd_ne (ne_of_none q2 w2.fr)]; exact q⟩
    · rw [upd_ne (ne_of_none q w2.no)]; exact w2.on.ex b u q
    · obtain ⟨p1, p2, p3⟩ := w2.on.bag b l q
      exact ⟨p1, by rw [upd_ne fun z : b = a => w2.off l (z ▸ q)]; exact p2, p3⟩⟩
end
end Gd
namespace Gd
open PySem PySem.Spec PyProof.Rows L2
abbrev Post := PyData → Bag → Prop
def EX (X : Cx) (Γ : List VD) (B : Bag) (e : Expr) (Φ : Post) : Prop :=
  ∀ g σ H0 H, EnvD X.K g H0 σ Γ → On X.K g B H0 H → ∀ Q : VK,
    (∀ v H0' H' y B', Φ y B' → To g H0 H H0' H' → On X.K g B' H0' H' → Rp X.K H0' v y → Q v H') → WE X e σ H Q
def AX (X : Cx) (Γ : List VD) (B : Bag) (es : List Expr) (Φ : List VD → Bag → Prop) : Prop :=
  ∀ g σ H0 H, EnvD X.K g H0 σ Γ → On X.K g B H0 H → ∀ Q : List V → Hp → Prop,
    (∀ vs H0' H' ds B', Φ ds B' → To g H0 H H0' H' → On X.K g B' H0' H' → RvAll X.K g H0' vs ds → Q vs H') → WA X es σ H Q
def DefSpX (K : PySem.W.Frag) (Pre : List VD → Bag → Prop) (Po : List VD → Bag → Post) : Sp := fun vs H Q _ =>
  ∃ g Γ B H0, RvAll K g H0 vs Γ ∧ On K g B H0 H ∧ Pre Γ B ∧
    ∀ v H0' H' r B', Po Γ B r B' → To g H0 H H0' H' → On K g B' H0' H' → Rp K H0' v r → Q v H'
def CalX (P : Program) (w : World) (K : PySem.W.Frag) (mg : Str → Option Value) (base : Heap) (x : Str) (k : Nat) (Pre : List VD → Bag → Prop) (Po : List VD → Bag → Post) : Prop :=
  ∃ f fd ps, FnG P w K mg base k f fd ps (DefSpX K Pre Po) ∧ mg x = some (.ref f) ∧ PySem.W.keepIn K (.ref f) = true ∧ Binds K fd ps []
theorem calx_at {P : Program} {w : World} {K : PySem.W.Frag} {mg : Str → Option Value} {base : Heap} {x : Str} {st : Stmt} {N ps : List Str} {k : Nat} {Pre : List VD → Bag → Prop} {Po : List VD → Bag → Post}
    (T : At K mg x st ps) (S : FnScope N ps (defScope st)) (len : ∀ Γ B, Pre Γ B → Γ.length = ps.length)
    (body : ∀ (f : Addr) (cdv : Value) (A : Around) (out : List Env) (s : Shared) (H : Hp) (E : XK),
      Gx k (cxOf CX0 P w K mg base N x (defScope st) f cdv A out s H E).nox → ∀ Γ B, Pre Γ B →
      SJ (cxOf CX0 P w K mg base N x (defScope st) f cdv A out s H E).nox (Γ ++ List.replicate (N.length - ps.length) .no) B (defBody st)
        { nx := fun _ B2 => Po Γ B .none B2, rt := fun d B2 => Po Γ B d B2 }) : CalX P w K mg base x (k + 1) Pre Po := by
  obtain ⟨f, fd, F, hm, hb⟩ := T
  have hpl : ps.length ≤ N.length := by
    have := congrArg List.length S.pre
    rw [List.length_take] at this; omega
  refine ⟨f, fd, ps, fnG_of F S ?_ ?_, hm, F.kp, hb⟩
  · rintro vs H Q E ⟨g, Γ, B, H0, a, b, c, d⟩
    rw [a.length]; exact len _ _ c
  · intro cdv A out s H vs Q E G ⟨g, Γ, B, H0, a, b, c, d⟩
    have hl := len _ _ c
    have E0' := start_env (N := N) a (by rw [hl]; exact hpl)
    rw [hl] at E0'
    refine body f cdv A out s H E G Γ B c g _ H0 H E0' b _ ⟨?_, ?_, ?_, ?_⟩
    · intro Γ2 B2 σ H1 H' z t _ o
      exact d _ _ _ _ _ z t o .non
    · intro r2 B2 v H1 H' z t o rv
      exact d _ _ _ _ _ z t o rv
    · intro _ _ _ _ _ z; exact z.elim
    · intro _ _ _ _ _ z; exact z.elim
theorem Cal.x {P : Program} {w : World} {K : PySem.W.Frag} {mg : Str → Option Value} {base : Heap} {x : Str} {k : Nat} {R : Rel} {Pre : List VD → Bag → Prop} {Po : List VD → Bag → Post}
    (c : Cal P w K mg base x k R) (h : ∀ Γ B, Pre Γ B → ∃ r B', R Γ B r B' ∧ Po Γ B r B') : CalX P w K mg base x k Pre Po := by
  obtain ⟨f, fd, ps, F, h1, h2, h3⟩ := c
  have im : ∀ vs H Q E, DefSpX K Pre Po vs H Q E → DefSp K R vs H Q E := by
    rintro vs H Q E ⟨g, Γ, B, H0, a, b, c, d⟩
    obtain ⟨r, B', hR, hP⟩ := h Γ B c
    exact ⟨g, Γ, B, H0, r, B', a, b, hR, fun v H0' H' t o rv => d v H0' H' r B' hP t o rv⟩
  exact ⟨f, fd, ps, ⟨fun vs H Q E q => F.len vs H Q E (im _ _ _ _ q), fun A o s H ar us vs Q E q1 q2 q3 q4 q5 q => F.run A o s H ar us vs Q E q1 q2 q3 q4 q5 (im _ _ _ _ q)⟩, h1, h2, h3⟩
section
variable {X : Cx} {Γ : List VD} {B B1 B2 B' : Bag} {e a b c : Expr} {es : List Expr} {d da db : VD} {y : PyData} {pos p pos' : Pos} {rest ss s1 s2 : List Stmt} {E : En} {Φ : Post} {Ω : List VD → Bag → Prop} {Ψ : Bool → Bag → Prop}
theorem ex_ej (h : EJ X Γ B e (.da y) B1) (hΦ : Φ y B1) : EX X Γ B e Φ := fun g σ H0 H Ev O Q q => h g σ H0 H Ev O Q fun v H1 H' t o r => q v H1 H' y B1 hΦ t o r
theorem ex_mono {Φ' : Post} (h : EX X Γ B e Φ) (m : ∀ y B', Φ y B' → Φ' y B') : EX X Γ B e Φ' := fun g σ H0 H Ev O Q q => h g σ H0 H Ev O Q fun v H1 H' y B' hy t o r => q v H1 H' y B' (m _ _ hy) t o r
theorem ax_aj {ds : List VD} (h : AJ X Γ B es ds B1) (hΩ : Ω ds B1) : AX X Γ B es Ω := fun g σ H0 H Ev O Q q => h g σ H0 H Ev O Q fun v H1 H' t o r => q v H1 H' ds B1 hΩ t o r
theorem ax_nil (h : Ω [] B) : AX X Γ B [] Ω := fun g σ H0 H _ O Q q => ⟨_, pa_nil, q [] H0 H [] B h To.refl O trivial⟩
theorem ax_cons (h : EX X Γ B e fun y B1 => AX X Γ B1 es fun ds B2 => Ω (.da y :: ds) B2) (hs : starEach (e :: es) X.env = (false, eval e X.env) :: starEach es X.env := by rfl) : AX X Γ B (e :: es) Ω := fun g σ H0 H E O Q q =>
  ⟨_, pa_cons (we e) (wa es) hs, h g σ H0 H E O _ fun v H1 H' y B1 hy t o rv => hy g σ H1 H' (E.mono t.ex) o _ fun vs H2 H'' ds B2 hd t2 o2 rs => q (v :: vs) H2 H'' _ _ hd (t.trans t2) o2 ⟨Rp.mono t2.ex rv, rs⟩⟩
theorem ax_bag (i : Nat) {x : Str} (r : AX X Γ B es fun ds B2 => Ω (.bag :: ds) B2) (h : Γ[i]? = some .bag := by rfl) (hN : X.N[i]? = some x := by rfl)
    (hv : Vis X.env.scope x := by first | exact Or.inl rfl | exact Or.inr (Or.inl rfl) | exact Or.inr (Or.inr rfl))
    (h1 : (x == ("__debug__" : Str)) = false := by decide) (h2 : (x == ("__classdict__" : Str)) = false := by decide)
    (hs : starEach (.Name x pos :: es) X.env = (false, eval (.Name x pos) X.env) :: starEach es X.env := by rfl) : AX X Γ B (.Name x pos :: es) Ω := fun g σ H0 H E O Q q =>
  ⟨_, pa_cons (we (.Name x pos)) (wa es) hs, (ej_bag (B := B) i h hN hv h1 h2) g σ H0 H E O _ fun v H1 H' t o rv => r g σ H1 H' (E.mono t.ex) o _ fun vs H2 H'' ds B2 hd t2 o2 rs => q (v :: vs) H2 H'' _ _ hd (t.trans t2) o2 ⟨rv.mono t2.ex, rs⟩⟩
theorem ex_call {x : Str} {k : Nat} {Pre : List VD → Bag → Prop} {Po : List VD → Bag → Post} (c : CalX X.prog X.w X.K X.mg X.base x k Pre Po) (g : Gx k X) (ha : AX X Γ B (e :: es) fun ds B1 => Pre ds B1 ∧ ∀ r B', Po ds B1 r B' → Φ r B')
    (hg : Gl X x := by rfl) (hdb : (x == ("__debug__" : Str)) = false := by decide) (he : starEach (e :: es) X.env = (false, eval e X.env) :: starEach es X.env := by rfl)
    (hpl : (backTo pos (starEach es X.env)).any (·.1) = false := by rfl) : EX X Γ B (.Call (.Name x p) (e :: es) [] pos) Φ := by
  obtain ⟨f, fd, ps, F, hm, hk, hb⟩ := c
  intro gh σ H0 H E O Q q
  refine ⟨fun σ H Q => WA X (e :: es) σ H fun vs H1 => DefSpX X.K Pre Po vs H1 Q E0, ⟨fun pins s σ H Q I h => ?_⟩, ?_⟩
  · refine wpAny_Call_Name_kw (ld_glob I hg hm ?_ hdb)
    refine PySem.W.callWith_K (h₀ := X.base) I.ok.mod.kin hk (thn ((wa (e :: es)).run pos pins s σ H _ I h) ?_) he hpl
    rintro us s1 ⟨vs, H1, I1, r1, q1⟩
    exact ⟨I1.kIn, runG F g hb I1 r1 q1⟩
  · refine ha gh σ H0 H E O _ fun vs H1 H' ds B1 hd t o rs => ?_
    exact ⟨gh, ds, B1, H1, rs, o, hd.1, fun v H2 H'' r B2 hr t2 o2 rv => q v H2 H'' _ _ (hd.2 _ _ hr) (t.trans t2) o2 rv⟩
theorem ex_callD {x : Str} {k : Nat} {R : Rel} (c : Cal X.prog X.w X.K X.mg X.base x k R) (g : Gx k X) (ha : AX X Γ B (e :: es) fun ds B1 => ∃ r B', R ds B1 r B' ∧ Φ r B')
    (hg : Gl X x := by rfl) (hdb : (x == ("__debug__" : Str)) = false := by decide) (he : starEach (e :: es) X.env = (false, eval e X.env) :: starEach es X.env := by rfl)
    (hpl : (backTo pos (starEach es X.env)).any (·.1) = false := by rfl) : EX X Γ B (.Call (.Name x p) (e :: es) [] pos) Φ := by
  obtain ⟨f, fd, ps, F, hm, hk, hb⟩ := c
  intro gh σ H0 H E O Q q
  refine ⟨fun σ H Q => WA X (e :: es) σ H fun vs H1 => DefSp X.K R vs H1 Q E0, ⟨fun pins s σ H Q I h => ?_⟩, ?_⟩
  · refine wpAny_Call_Name_kw (ld_glob I hg hm ?_ hdb)
    refine PySem.W.callWith_K (h₀ := X.base) I.ok.mod.kin hk (thn ((wa (e :: es)).run pos pins s σ H _ I h) ?_) he hpl
    rintro us s1 ⟨vs, H1, I1, r1, q1⟩
    exact ⟨I1.kIn, runG F g hb I1 r1 q1⟩
  · refine ha gh σ H0 H E O _ fun vs H1 H' ds B1 hd t o rs => ?_
    obtain ⟨r, B2, hR, hΦ⟩ := hd
    exact ⟨gh, ds, B1, H1, r, B2, rs, o, hR, fun v H2 H'' t2 o2 rv => q v H2 H'' _ _ hΦ (t.trans t2) o2 rv⟩
theorem ex_tup {k} (h : AX X Γ B es fun ds B1 => ∃ ys : List PyData, ds = ys.map .da ∧ ys.length ≤ 1000 ∧ Φ (.tuple ys) B1) : EX X Γ B (.Tuple es k pos) Φ := fun g σ H0 H Ev O Q q =>
  ⟨_, pe_tup (wa es), h g σ H0 H Ev O _ fun vs H1 H' ds B1 hd t o rs => by
    obtain ⟨ys, rfl, hl, hΦ⟩ := hd
    have rs := RvAll.dat rs
    refine ⟨by rw [rs.length]; exact Nat.le_of_lt (small1000 hl), fun n hn => ?_⟩
    obtain ⟨t2, o2⟩ := laid (o := .tup vs) o hn
    exact q _ _ _ _ _ hΦ (t.trans t2) o2 (Rp.tup (SqT.of upd_same) (rs.mono t2.ex))⟩
theorem ex_lst (h : AX X Γ B es fun ds B1 => ∃ ys : List PyData, ds = ys.map .da ∧ ys.length ≤ 1000 ∧ Φ (.list ys) B1) : EX X Γ B (.List es pos) Φ := fun g σ H0 H Ev O Q q =>
  ⟨_, pe_lst (wa es), h g σ H0 H Ev O _ fun vs H1 H' ds B1 hd t o rs => by
    obtain ⟨ys, rfl, hl, hΦ⟩ := hd
    have rs := RvAll.dat rs
    refine ⟨by rw [rs.length]; exact Nat.le_of_lt (small1000 hl), fun n hn => ?_⟩
    obtain ⟨t2, o2⟩ := laid (o := .lst vs) o hn
    exact q _ _ _ _ _ hΦ (t.trans t2) o2 (Rp.lst upd_same (rs.mono t2.ex))⟩
theorem ex_bin {r : R2} (ha : EX X Γ B a fun y B1 => EX X Γ B1 b fun z B2 => ∃ u, Φ u B2 ∧ ∀ g v w H0 H, On X.K g B2 H0 H → Rp X.K H0 v y → Rp X.K H0 w z → ∀ Q : VK, (∀ z H0' H', To g H0 H H0' H' → On X.K g B2 H0' H' → Rp X.K H0' z u → Q z H') → r v w H Q)
    (hp : ∀ t u, PE X a t → PE X b u → PE X e (tOp r t u)) : EX X Γ B e Φ := fun g σ H0 H E O Q q =>
  ⟨_, hp _ _ (we a) (we b), ha g σ H0 H E O _ fun v H1 H' y B1 hy t o rv => hy g σ H1 H' (E.mono t.ex) o _ fun w H2 H'' z B2 hz t2 o2 rw' => by
    obtain ⟨u, hu, hr⟩ := hz
    exact hr g v w H2 H'' o2 (rv.mono t2.ex) rw' Q fun z H3 H3' t3 o3 r3 => q z H3 H3' u B2 hu ((t.trans t2).trans t3) o3 r3⟩
theorem sj_setX (i : Nat) {x : Str} (nd : X.N.Nodup) (h : EX X Γ B e fun y B1 => SJ X (Γ.set i (.da y)) B1 rest E) (hi : X.N[i]? = some x := by rfl)
    (hx : Loc X.env.scope x := by first | exact Or.inl rfl | exact Or.inr rfl) (hs : swapsWith e (some (.Name x pos')) pos.line X.env = pure false := by rfl)
    (hf : X.fn x = true ∨ X.env.scope.names.lookup x = some .local := by first | exact Or.inl rfl | exact Or.inr rfl) : SJ X Γ B (.Assign [.Name x pos'] e pos :: rest) E := fun g σ H0 H Ev O D G =>
  ⟨_, pss_cons (ps_set nd hi hx (we e) hs hf) (ws rest), h g σ H0 H Ev O _ fun v H1 H' y B1 k t o r => k g _ H1 H' ((Ev.mono t.ex).set i r) o D (G.on t)⟩
theorem sj_retX (h : EX X Γ B e E.rt) : SJ X Γ B (.Return (some e) pos :: rest) E := fun g σ H0 H Ev O D G =>
  ⟨_, pss_cons (ps_ret (we e)) (ws rest), h g σ H0 H Ev O _ fun v H1 H' y B1 hy t o r => G.rt _ B1 v H1 H' hy t o r⟩
end
section
variable {X : Cx} {i : Nat} {Γ : List VD} {B B1 B2 B' : Bag} {acc ds : List PyData} {e e2 a b c : Expr} {es : List Expr} {d da db : VD} {y y2 : PyData} {pos p p1 p2 p3 pos' : Pos} {rest ss s1 s2 : List Stmt} {E : EnO} {Φ : Post}
end
def RX (X : Cx) (Γ : List VD) (B : Bag) (t : TE) (Φ : Post) : Prop :=
  ∀ g σ H0 H, EnvD X.K g H0 σ Γ → On X.K g B H0 H → ∀ Q : VK, (∀ v H0' H' y B', Φ y B' → To g H0 H H0' H' → On X.K g B' H0' H' → Rp X.K H0' v y → Q v H') → t σ H Q
theorem ex_of {X : Cx} {Γ : List VD} {B : Bag} {e : Expr} {t : TE} {Φ : Post} (h : PE X e t) (r : RX X Γ B t Φ) : EX X Γ B e Φ := fun g σ H0 H E O Q q => ⟨t, h, r g σ H0 H E O Q q⟩
section
variable {X : Cx} {Γ : List VD} {B B1 B2 B' : Bag} {e a : Expr} {elt : Expr} {scope : Scope} {j : Nat} {x : Str} {px : Pos} {ds ys : List PyData} {pos pos' : Pos} {rest : List Stmt} {E : En} {Φ : Post}
theorem lc_turnX {g : Gh} {H1 H' : Hp} {A : Addr} {acc : List PyData} {H'' H2 : Hp} {σ : L2.St} {v : V} {y : PyData} {Nx : Hp → Prop} {Θ : Post} (off : Off g A) (Ev : EnvD X.K g H1 σ Γ) (I : LcI X.K g H1 H' A acc B1 H2 H'') (r : Rp X.K H2 v y)
    (hz : acc.length < 1000) (he : Blk X scope fun Y => EX Y (Γ.set j (.da y)) B1 elt Θ) (k : ∀ z B2 H3 H3', Θ z B2 → LcI X.K g H1 H' A (acc ++ [z]) B2 H3 H3' → Nx H3') :
    gName j v (wipe σ [j]) H'' fun σ2 H2 => wipe σ2 [j] = wipe σ [j] ∧ tYes σ2 H2 fun b H3 => if b = true then WB X scope elt σ2 H3 fun y H4 => ∃ acc, H4 A = some (.lst acc) ∧ acc.length < sizeLine ∧ Nx (upd H4 A (.lst (acc ++ [y]))) else Nx H3 := by
  refine ⟨wipe1, ?_⟩
  unfold tYes
  refine iteT ?_
  intro s hH C cl fp
  refine he s hH C cl fp g _ H2 H'' (wipe_env (Ev.mono I.to.ex) r) I.on _ fun w H3 H3' z B2 hz' t o rw' => ?_
  obtain ⟨zs, h1, h2, J⟩ := lcI_app off I t o rw'
  exact ⟨zs, h1, by rw [h2]; exact small1000 (Nat.le_of_lt hz), k _ _ _ _ hz' J⟩
theorem rx_lcR {n : Nat} (I : Nat → List PyData → Bag → Prop) (ha : AJ X Γ B [a] [.da (.int (n : Int))] B1) (h0 : I 0 [] B1) (hn : n ≤ 1000)
    (hs : ∀ (k : Nat) acc B', k < n → acc.length = k → I k acc B' → Blk X scope fun Y => EX Y (Γ.set j (.da (.int (k : Int)))) B' elt fun z B2 => I (k + 1) (acc ++ [z]) B2)
    (hd : ∀ acc B', acc.length = n → I n acc B' → Φ (.list acc) B') :
    RX X Γ B (tLc (iRng1 (WA X [a])) (gName j) tYes (WB X scope elt) [j]) Φ := fun g σ H0 H Ev O Q q =>
  ha g σ H0 H Ev O _ fun vs H1 H' t o r => by
    obtain ⟨v, rfl, h⟩ := rv1 r
    refine ⟨(n : Int), by rw [rvI h], by omega, by omega, fun A hA => ?_⟩
    obtain ⟨off, I0⟩ := lcI_start o hA
    rw [Int.toNat_natCast]
    refine lc_range (lo := 0) (n := n) (fun i H'' => ∃ H2 acc B', acc.length = i ∧ I i acc B' ∧ LcI X.K g H1 H' A acc B' H2 H'') ⟨_, [], _, rfl, h0, I0⟩ ?_ ?_
    · rintro i H'' hlt ⟨H2, acc, B', hl, hI, J⟩
      rw [Int.zero_add]
      exact lc_turnX off (Ev.mono t.ex) J (Rp.int _) (by omega) (hs i acc B' hlt hl hI) fun z B2 H3 H3' hz J => ⟨H3, _, B2, by rw [List.length_append, List.length_singleton, hl], hz, J⟩
    · rintro H'' ⟨H2, acc, B', hl, hI, J⟩
      obtain ⟨H3, t3, o3, r3⟩ := lcI_end off t J
      exact q _ H3 H'' _ _ (hd acc B' hl hI) t3 o3 r3
theorem ex_lcR {pr pe : Pos} (nd : X.N.Nodup) (hc : X.calm = true) (hm : X.mg "range" = none) (ok : BlkOk X.N X.env.scope scope [(x, j)])
    (hg : ∀ (s : Shared) (H : Hp) (C : Addr) (cl : List (Str × Addr)) (fp : List Addr), PG (X.blk s H scope (compEnvC scope cl C X.env) fp) (.Name x px) (gName j))
    (r : RX X Γ B (tLc (iRng1 (WA X [a])) (gName j) tYes (WB X scope elt) [j]) Φ) (hgl : Gl X "range" := by rfl)
    (hq : ∀ x, foldedSetIterable (.Call (.Name "range" pr) [a] [] pe) X.env x = pure x := by intro _; rfl) (hst : starEach [a] X.env = [(false, eval a X.env)] := by rfl) :
    EX X Γ B (.ListComp elt [⟨.Name x px, .Call (.Name "range" pr) [a] [] pe, [], 0⟩] scope pos) Φ :=
  ex_of (pe_lc (own := [(x, j)]) hc nd (pi_range1 hgl hm (wa [a]) hst) ok hg (fun _ _ _ _ _ => pts_nil) (wb scope elt) hq) r
theorem sj_setLcRX (i : Nat) {pr pe : Pos} {y : Str} {py : Pos} (nd : X.N.Nodup) (hc : X.calm = true) (hm : X.mg "range" = none) (ok : BlkOk X.N X.env.scope scope [(x, j)])
    (hg : ∀ (s : Shared) (H : Hp) (C : Addr) (cl : List (Str × Addr)) (fp : List Addr), PG (X.blk s H scope (compEnvC scope cl C X.env) fp) (.Name x px) (gName j))
    (hsw : swapsWith (.ListComp elt [⟨.Name x px, .Call (.Name "range" pr) [a] [] pe, [], 0⟩] scope pos) (some (.Name y py)) pos'.line X.env = pure true)
    (r : RX X Γ B (tLc (iRng1 (WA X [a])) (gName j) tYes (WB X scope elt) [j]) fun z B1 => SJ X (Γ.set i (.da z)) B1 rest E)
    (hy : X.N[i]? = some y := by rfl) (hyl : X.env.scope.names.lookup y = some .local := by rfl) (hgl : Gl X "range" := by rfl)
    (hq : ∀ x, foldedSetIterable (.Call (.Name "range" pr) [a] [] pe) X.env x = pure x := by intro _; rfl) (hst : starEach [a] X.env = [(false, eval a X.env)] := by rfl) :
    SJ X Γ B (.Assign [.Name y py] (.ListComp elt [⟨.Name x px, .Call (.Name "range" pr) [a] [] pe, [], 0⟩] scope pos) pos' :: rest) E := fun g σ H0 H Ev O D G =>
  ⟨_, pss_cons (ps_setLc (i := i) (own := [(x, j)]) hc nd hy hyl hsw (pi_range1 hgl hm (wa [a]) hst) ok hg (fun _ _ _ _ _ => pts_nil) (wb scope elt) hq) (ws rest),
    r g σ H0 H Ev O _ fun v H1 H' z B1 k t o rv => k g _ H1 H' ((Ev.mono t.ex).set i rv) o D (G.on t)⟩
end
end Gd
namespace Gd
open PySem PySem.Spec PyProof.Rows L2
section
variable {X : Cx} {Γ : List VD} {B B1 B2 B' : Bag} {e a b c : Expr} {es : List Expr} {d da db : VD} {y : PyData} {pos p pos' : Pos} {rest ss s1 s2 : List Stmt} {E : En} {Φ : Post} {Ω : List VD → Bag → Prop} {Ψ : Bool → Bag → Prop}
theorem ex_callTy {x : Str} {T : String} {r : List V → Hp → VK → Prop} (hc : CallR X (.type T) r) (hm : X.mg x = none) (ha : AX X Γ B (e :: es) Ω)
    (hr : ∀ g vs H0 H ds B1, Ω ds B1 → On X.K g B1 H0 H → RvAll X.K g H0 vs ds → ∀ Q : VK, (∀ z H0' H' y B2, Φ y B2 → To g H0 H H0' H' → On X.K g B2 H0' H' → Rp X.K H0' z y → Q z H') → r vs H Q)
    (hv : bootBuiltins x = some (.type T) := by decide +kernel) (hg : Gl X x := by rfl) (hn : x ≠ "__name__" := by decide) (hdb : (x == ("__debug__" : Str)) = false := by decide)
    (hpl : (backTo pos (starEach es X.env)).any (·.1) = false := by rfl) (he : starEach (e :: es) X.env = (false, eval e X.env) :: starEach es X.env := by rfl) :
    EX X Γ B (.Call (.Name x p) (e :: es) [] pos) Φ := fun g σ H0 H E O Q q =>
  ⟨_, pe_callTy hc hg hm hv (wa (e :: es)) hn hdb he hpl, ha g σ H0 H E O _ fun vs H1 H' ds B1 hd t o rs => hr g vs H1 H' ds B1 hd o rs Q fun z H2 H'' y B2 hy t2 o2 rz => q z H2 H'' y B2 hy (t.trans t2) o2 rz⟩
theorem ax_one (h : EX X Γ B e fun y B1 => Ω [.da y] B1) (hs : starEach [e] X.env = [(false, eval e X.env)] := by rfl) : AX X Γ B [e] Ω := ax_cons (ex_mono h fun y B1 hy => ax_nil hy) hs
theorem ex_tupleL (hm : X.mg "tuple" = none) (h : EX X Γ B a fun y B1 => ∃ ds, y = .list ds ∧ Φ (.tuple ds) B1) (hs : starEach [a] X.env = [(false, eval a X.env)] := by rfl) (hg : Gl X "tuple" := by rfl) :
    EX X Γ B (.Call (.Name "tuple" p) [a] [] pos) Φ :=
  ex_callTy (Ω := fun ds B1 => ∃ ls, ds = [.da (.list ls)] ∧ Φ (.tuple ls) B1) call_tuple_of hm (ax_one (ex_mono h fun y B1 ⟨ds, e, k⟩ => ⟨ds, by rw [e], k⟩) hs) (fun g vs H0 H ds B1 hd O r Q q => by
    obtain ⟨ls, rfl, k⟩ := hd
    obtain ⟨v, rfl, h⟩ := rv1 r
    obtain ⟨p, xs, rfl, hx, rs⟩ := rvL h
    refine ⟨p, xs, rfl, .inl ⟨SqL.of (O.ex _ _ hx), fun n hn => ?_⟩⟩
    obtain ⟨t2, o2⟩ := laid (o := .tup xs) O hn
    exact q _ _ _ _ _ k t2 o2 (Rp.tup (SqT.of upd_same) (rs.mono t2.ex))) (hg := hg) (he := hs)
end
end Gd
set_option exponentiation.threshold 20000
namespace Lw
open PySem PySem.Spec PyProof.Rows L2 Gd Fr
open scoped Rat
theorem lay_all {ds : List PyData} (h : ∀ d ∈ ds, d.canLay0 = true) : PyData.canLayAll0 ds = true := by
  induction ds with
  | nil => simp only [PyData.canLayAll0]
  | cons d ds ih => simp only [PyData.canLayAll0, h d List.mem_cons_self, ih fun x hx => h x (List.mem_cons_of_mem _ hx), Bool.and_self]
theorem depth_all {n : Nat} {ds : List PyData} (h : ∀ d ∈ ds, d.depth ≤ n) : PyData.depthAll ds ≤ n := by
  induction ds with
  | nil => exact Nat.zero_le _
  | cons d ds ih =>
    show max d.depth (PyData.depthAll ds) ≤ n
    exact Nat.max_le.mpr ⟨h d List.mem_cons_self, ih fun x hx => h x (List.mem_cons_of_mem _ hx)⟩
def Sh (n : Nat) (d : PyData) : Prop := d.canLay0 = true ∧ d.depth ≤ n
theorem Sh.shaped {n : Nat} {d : PyData} (h : Sh n d) (hn : n ≤ 64 := by decide) : SeqAt.shaped d = true := by
  unfold SeqAt.shaped
  rw [h.1, Bool.true_and, decide_eq_true_eq]
  exact Nat.le_trans h.2 hn
theorem Sh.lst {n : Nat} {ds : List PyData} (h : ∀ d ∈ ds, Sh n d) : Sh (n + 1) (.list ds) :=
  ⟨by simp only [PyData.canLay0]; exact lay_all fun d hd => (h d hd).1, by show PyData.depthAll ds + 1 ≤ n + 1; have := depth_all fun d hd => (h d hd).2; omega⟩
theorem Sh.tup {n : Nat} {ds : List PyData} (h : ∀ d ∈ ds, Sh n d) : Sh (n + 1) (.tuple ds) :=
  ⟨by simp only [PyData.canLay0]; exact lay_all fun d hd => (h d hd).1, by show PyData.depthAll ds + 1 ≤ n + 1; have := depth_all fun d hd => (h d hd).2; omega⟩
theorem Sh.int (i : Int) : Sh 0 (.int i) := ⟨by simp only [PyData.canLay0], Nat.le_refl _⟩
theorem Sh.str {x : Str} (h : PyData.strOk x = true) : Sh 0 (.str x) := ⟨by simp only [PyData.canLay0]; exact h, Nat.le_refl _⟩
theorem Sh.mono {n m : Nat} {d : PyData} (h : Sh n d) (e : n ≤ m) : Sh m d := ⟨h.1, Nat.le_trans h.2 e⟩
inductive Te where
  | nan
  | inf (s : Int)
  | x (q : Rat) (s : Int)
def Te.d : Te → PyData
  | .nan => .tuple [.str "nan"]
  | .inf s => .tuple [.str "inf", .int s]
  | .x q s => .tuple [.str "x", fq q, .int s]
def Te.isNan : Te → Bool
  | .nan => true
  | _ => false
def Te.sg : Te → Int
  | .nan => 0
  | .inf s => s
  | .x _ s => s
def Te.q : Te → Rat
  | .x q _ => q
  | _ => 0
end Lw
namespace Lw
open PySem PySem.Spec PyProof.Rows L2 Gd Fr
def Pre_mixed (Γ : List VD) (B : Bag) : Prop := ∃ t ds, Γ = [.bag, .da (lisD t ds)] ∧ ds.length ≤ 200 ∧ lfreeAll ds = true ∧ Bok B
def Post_mixed (Γ : List VD) (_ : Bag) (r : PyData) (B' : Bag) : Prop := Bok B' ∧ ∀ t ds, Γ = [.bag, .da (lisD t ds)] → ∃ ds', r = .list ds' ∧ ds'.Perm ds
end Lw
set_option exponentiation.threshold 20000
namespace Lw
open PySem PySem.Spec PyProof.Rows L2 Gd Fr
open scoped Rat
def Pre_bag (Γ : List VD) (B : Bag) : Prop := Γ = [.bag] ∧ Bok B
theorem F4.inj {t u : F4} (h : t.d = u.d) : t = u := by
  obtain ⟨a, b, c, d⟩ := t
  obtain ⟨a', b', c', d'⟩ := u
  have h : fmP a b c d = fmP a' b' c' d' := h
  unfold fmP at h
  injection h with h
  injection h with h1 h
  injection h with h2 h
  injection h with h3 h
  injection h with h4 h
  injection h1 with h1
  injection h2 with h2
  injection h3 with h3
  injection h4 with h4
  have h1 : a = a' := by omega
  have h2 : b = b' := by omega
  subst h1; subst h2; subst h3; subst h4; rfl
section
variable {b p : Nat} {low high : Int} (F : Fm b p low high)
include F
end
end Lw
namespace Lw
open Gd
end Lw
set_option exponentiation.threshold 20000
namespace Lw
open PySem PySem.Spec PyProof.Rows L2 Gd Fr
open scoped Rat
end Lw
namespace Gd
open PySem PySem.Spec PyProof.Rows L2
section
variable {X : Cx} {Γ : List VD} {B B1 B2 : Bag} {e c elt : Expr} {scope : Scope} {acc : List PyData} {pos pos' : Pos} {rest : List Stmt} {E : En} {d : VD}
theorem wj_andF (h : TJ X Γ B e false B1) : WJ X Γ B (.BoolOp .And (e :: a :: es) pos) false B1 := fun g σ H0 H E O Q q =>
  ⟨_, pw_and (wt e) (ww _), h g σ H0 H E O _ fun H1 H' t o => iteF (q H1 H' t o)⟩
end
end Gd
set_option exponentiation.threshold 20000
namespace Lw
open PySem PySem.Spec PyProof.Rows L2 Gd Fr
open scoped Rat
end Lw
namespace Lw
open PySem PySem.Spec PyProof.Rows L2 Gd Fr
open scoped Rat
end Lw
namespace Gd
open PySem PySem.Spec PyProof.Rows L2
section
variable {X : Cx} {Γ : List VD} {B B1 B2 : Bag} {e c elt : Expr} {scope : Scope} {acc : List PyData} {pos pos' : Pos} {rest : List Stmt} {E : En} {d : VD} {Φ : Post}
end
end Gd
set_option exponentiation.threshold 20000
namespace Lw
open PySem PySem.Spec PyProof.Rows L2 Gd Fr
open scoped Rat
end Lw
set_option exponentiation.threshold 20000
namespace Lw
open PySem PySem.Spec PyProof.Rows L2 Gd Fr
open scoped Rat
def Fl (fl : List Str) : Prop := fl = [] ∨ fl = (["invalid"] : List Str) ∨ fl = (["inexact", "over"] : List Str) ∨ fl = (["inexact", "tiny"] : List Str) ∨ fl = (["inexact"] : List Str)
theorem Fl.sh {fl : List Str} (h : Fl fl) : SeqAt.shaped (words fl) = true := by
  rcases h with rfl | rfl | rfl | rfl | rfl <;> decide +kernel
theorem Fl.eqv {fl : List Str} (h : Fl fl) : PyData.eqv (words fl) (.tuple []) = decide (fl = []) := by
  rcases h with rfl | rfl | rfl | rfl | rfl <;> rfl
end Lw
namespace Gd
open PySem PySem.Spec PyProof.Rows L2
section
variable {prog : Program} {w : World} {A : Around} {E : Value → Shared → Prop} {s : Shared}
end
section
variable {X : Cx} {Γ : List VD} {B B1 B2 : Bag} {a b c e : Expr} {pos p pos' : Pos} {rest s1 : List Stmt} {E : En}
end
end Gd
namespace Gd
open PySem PySem.Spec PyProof.Rows L2
section
variable {X : Cx} {Γ : List VD} {B B1 B2 B3 B' : Bag} {e a b c : Expr} {es : List Expr} {d da db dc : VD} {pos p pos' apos p1 p2 p3 : Pos} {rest ss s1 s2 : List Stmt} {E : En}
theorem wj_orT {x : Expr} (h : TJ X Γ B e true B1) : WJ X Γ B (.BoolOp .Or (e :: x :: es) pos) true B1 := fun g σ H0 H E O Q q =>
  ⟨_, pw_or (wt e) (ww _), h g σ H0 H E O _ fun H1 H' t o => iteT (q H1 H' t o)⟩
end
end Gd
set_option exponentiation.threshold 20000
namespace Lw
open PySem PySem.Spec PyProof.Rows L2 Gd Fr
open scoped Rat
inductive Sp where
  | none
  | span (u v : Va)
def Sp.d : Sp → PyData
  | .none => .tuple [.str "none"]
  | .span u v => .tuple [.str "span", u.d, v.d]
def Sp.ok (b p : Nat) (low high : Int) : Sp → Prop
  | .none => True
  | .span u v => (Vcan b p low high u ∧ u.isNan = false) ∧ Vcan b p low high v ∧ v.isNan = false
def apI (b p : Nat) (low high : Int) : Sp → Int
  | .none => 0
  | .span u v => rkI b p low high v - rkI b p low high u
inductive Wd (b p : Nat) (low high : Int) (L : List Sp) : PyData → Prop
  | none (h : ∀ s ∈ L, apI b p low high s < 2) : Wd b p low high L .none
  | some (i : Nat) (x : Sp) (hi : L[i]? = .some x) (h2 : 2 ≤ apI b p low high x) (h3 : ∀ s ∈ L, apI b p low high s ≤ apI b p low high x) (h4 : ∀ j y, j < i → L[j]? = .some y → apI b p low high y < apI b p low high x) : Wd b p low high L (.int (i : Nat))
theorem Wd.one {b p : Nat} {low high : Int} {L : List Sp} {d e : PyData} (h : Wd b p low high L d) (h' : Wd b p low high L e) : d = e := by
  cases h with
  | none h =>
    cases h' with
    | none _ => rfl
    | some i x hi h2 _ _ => have := h x (List.mem_of_getElem? hi); omega
  | some i x hi h2 h3 h4 =>
    cases h' with
    | none h => have := h x (List.mem_of_getElem? hi); omega
    | some j y hj g2 g3 g4 =>
      have a1 := h3 y (List.mem_of_getElem? hj)
      have a2 := g3 x (List.mem_of_getElem? hi)
      rcases Nat.lt_trichotomy i j with z | z | z
      · have := g4 i x z hi; omega
      · rw [z]
      · have := h4 j y z hj; omega
noncomputable def wdP (b p : Nat) (low high : Int) (L : List Sp) : PyData := by
  classical exact if h : ∃ d, Wd b p low high L d then h.choose else .none
theorem Wd.is {b p : Nat} {low high : Int} {L : List Sp} {d : PyData} (h : Wd b p low high L d) : wdP b p low high L = d := by
  have hx : ∃ d, Wd b p low high L d := ⟨d, h⟩
  unfold wdP
  rw [dif_pos hx]
  exact hx.choose_spec.one h
theorem cutT (ds : List PyData) (n : Nat) : cutP ds none (some (n : Int)) = ds.take n := by
  unfold cutP
  rw [HT.sIx_none, HT.sIx_nat, Nat.sub_zero, List.drop_zero]
  by_cases h : n ≤ ds.length
  · rw [Nat.min_eq_left h]
  · rw [Nat.min_eq_right (by omega), List.take_length, List.take_of_length_le (by omega)]
theorem pick_ex {α : Type} (xs : List α) (f : α → PyData) (B : Bag) (h : 0 < xs.length) : ∃ x ∈ xs, pick (xs.map f) B = f x := by
  have h0 := tkV_ge B (m := (xs.map f).length) (by rw [List.length_map]; omega)
  have h1 := tkV_lt B (m := (xs.map f).length) (by rw [List.length_map]; omega)
  have hlt : (tkV B (xs.map f).length).toNat < xs.length := by rw [List.length_map] at h1 ⊢; rw [List.length_map] at h0; omega
  refine ⟨xs[(tkV B (xs.map f).length).toNat], List.getElem_mem hlt, ?_⟩
  unfold pick
  rw [List.getD_eq_getElem?_getD, List.getElem?_map, List.getElem?_eq_getElem hlt]
  rfl
end Lw
namespace PySem
end PySem
namespace Gd
open PySem PySem.Spec PyProof.Rows L2
end Gd
namespace Gd
open PySem PySem.Spec PyProof.Rows L2
end Gd
namespace Gd
open PySem PySem.Spec PyProof.Rows L2
section
variable {X : Cx} {Γ : List VD} {B B1 : Bag} {a : Expr} {p p' kp pos : Pos}
end
end Gd
set_option exponentiation.threshold 20000
namespace Lw
open PySem PySem.Spec PyProof.Rows L2 Gd Fr
open scoped Rat
def plT : Va → Int × Int × Int
  | .nan => (2, 0, 0)
  | .inf s => if s = 0 then (1, 0, 0) else (-2, 0, 0)
  | .num s c e => if s = 0 then (0, e, c) else (-1, -e, -c)
def t3 (x : Int × Int × Int) : PyData := .tuple [.int x.1, .int x.2.1, .int x.2.2]
end Lw
set_option exponentiation.threshold 20000
namespace Lw
open PySem PySem.Spec PyProof.Rows L2 Gd Fr
open scoped Rat
section
variable {b p : Nat} {low high : Int} (F : Fm b p low high)
include F
end
section
variable {b p : Nat} {low high : Int} (F : Fm b p low high)
include F
end
end Lw
set_option exponentiation.threshold 20000
namespace Gd
open PySem PySem.Spec PyProof.Rows L2
section
variable {X : Cx} {Γ : List VD} {B B1 B2 B' : Bag} {e a b c : Expr} {pos : Pos}
end
end Gd
set_option exponentiation.threshold 20000
namespace Lw
open PySem PySem.Spec PyProof.Rows L2 Gd Fr
open scoped Rat
def lex3 (x y : Int × Int × Int) : Prop := x.1 < y.1 ∨ (x.1 = y.1 ∧ (x.2.1 < y.2.1 ∨ (x.2.1 = y.2.1 ∧ x.2.2 < y.2.2)))
instance (x y : Int × Int × Int) : Decidable (lex3 x y) := by unfold lex3; infer_instance
theorem lex3_asym {x y : Int × Int × Int} (h : lex3 x y) : ¬ lex3 y x := by unfold lex3 at *; omega
section
variable {b p : Nat} {low high : Int} (F : Fm b p low high)
include F
end
section
variable {b p : Nat} {low high : Int} (F : Fm b p low high)
include F
end
end Lw
namespace Lw
open PySem PySem.Spec PyProof.Rows L2 Gd Fr
end Lw
namespace Lw
open PySem PySem.Spec PyProof.Rows L2 Gd Fr
end Lw
namespace Lw
open PySem PySem.Spec PyProof.Rows L2 Gd Fr
end Lw
namespace Lw
open PySem PySem.Spec PyProof.Rows L2 Gd Fr
open scoped Rat
end Lw
namespace Lw
open PySem PySem.Spec PyProof.Rows L2 Gd Fr
open scoped Rat
end Lw
namespace Lw
open PySem PySem.Spec PyProof.Rows L2 Gd Fr
end Lw
set_option exponentiation.threshold 20000
namespace Gd
open PySem PySem.Spec PyProof.Rows L2
section
variable {X : Cx} {Γ : List VD} {B B1 B2 B' : Bag} {e a b c : Expr} {pos p : Pos}
end
end Gd
set_option exponentiation.threshold 20000
namespace Lw
open PySem PySem.Spec PyProof.Rows L2 Gd Fr
open scoped Rat
section
variable {b p : Nat} (h2 : 2 ≤ b)
include h2
end
section
variable {b p : Nat} (h2 : 2 ≤ b)
include h2
end
end Lw
set_option exponentiation.threshold 20000
namespace Lw
open PySem PySem.Spec PyProof.Rows L2 Gd Fr
open scoped Rat
structure RtOk (b : Nat) (low : Int) (q : Rat) (n d : Nat) : Prop where
  h0 : 0 < q
  hq : Qz n d q
  hn : n ≤ 8800
  hd : d ≤ 8800
  hL : q.den * b ^ (2 * low).toNat < 2 ^ 8800
section
variable {b p : Nat} {low high : Int} (F : Fm b p low high)
include F
end
end Lw
set_option exponentiation.threshold 20000
namespace Lw
open PySem PySem.Spec PyProof.Rows L2 Gd Fr
open scoped Rat
section
variable {b : Nat} (h2 : 2 ≤ b)
include h2
end
end Lw
set_option exponentiation.threshold 20000
namespace Lw
open PySem PySem.Spec PyProof.Rows L2 Gd Fr
open scoped Rat
section
variable {b p : Nat} {low high : Int} (F : Fm b p low high)
include F
end
section
variable (b p : Nat) (low high : Int)
end
end Lw
set_option exponentiation.threshold 20000
namespace Gd
open PySem PySem.Spec PyProof.Rows L2
section
variable {X : Cx} {Γ : List VD} {B B1 B2 B' : Bag} {e a b c : Expr} {pos p : Pos} {rest s1 : List Stmt} {E : En} {Φ : Post}
theorem sj_forLX (j : Nat) {x : Str} {px : Pos} (nd : X.N.Nodup) (hc : X.calm = true)
    (hi : EX X Γ B e fun y B1 => ∃ ds, y = .list ds ∧ ∃ P : Nat → List VD → Bag → Prop, P 0 Γ B1 ∧
      (∀ i y Γ' B', ds[i]? = some y → P i Γ' B' → SJ X (Γ'.set j (.da y)) B' s1 { nx := P (i + 1), ct := P (i + 1), bk := fun Γ' B' => SJ X Γ' B' rest E, rt := E.rt }) ∧ (∀ Γ' B', P ds.length Γ' B' → SJ X Γ' B' rest E))
    (hN : X.N[j]? = some x := by rfl) (hx : Loc X.env.scope x := by first | exact Or.inl rfl | exact Or.inr rfl)
    (hf : X.fn x = true ∨ X.env.scope.names.lookup x = some .local := by first | exact Or.inl rfl | exact Or.inr rfl)
    (hp : PassesOwn (model X.prog X.w) X.A X.env X.xe := by exact PassesOwn.never) (hq : ∀ x, foldedSetIterable e X.env x = pure x := by intro _; rfl) :
    SJ X Γ B (.For (.Name x px) e s1 [] pos :: rest) E := fun g σ H0 H Ev O D G =>
  ⟨_, pss_cons (ps_for hp hc (pi_list (we e)) (pg_name nd hN hx hf) (ws s1) hq) (ws rest), hi g σ H0 H Ev O _ fun v H1 H' yy B1 hy t o r => by
    obtain ⟨ds, rfl, P, h0, hs, hd⟩ := hy
    obtain ⟨p, xs, rfl, hxs, rs⟩ := rvL (g := g) r
    refine ⟨p, rfl, ⟨xs, SqL.of (o.ex _ _ hxs)⟩, ?_⟩
    refine for_list (xs := xs) (fun i σ' H'' => ∃ Γ' B' H2, P i Γ' B' ∧ To g H1 H' H2 H'' ∧ EnvD X.K g H2 σ' Γ' ∧ On X.K g B' H2 H'') ⟨Γ, B1, H1, h0, To.refl, Ev.mono t.ex, o⟩ ?_ ?_ ?_
    · rintro i σ' H'' _ ⟨Γ', B', H2, _, t2, _, o2⟩
      exact SqL.of (o2.ex _ _ (t2.ex _ _ hxs))
    · rintro i y σ' H'' hy ⟨Γ', B', H2, hP, t2, e2, o2⟩
      obtain ⟨d, hdi, rd⟩ := rs.get hy
      refine hs i d Γ' B' hdi hP g _ H2 H'' (e2.set j (Rp.mono t2.ex rd)) o2 _ ⟨?_, ?_, ?_, ?_⟩
      · intro Γ3 B3 σ3 H3 H3' q t3 e3 o3
        exact ⟨Γ3, B3, H3, q, t2.trans t3, e3, o3⟩
      · intro r B3 v H3 H3' q t3 o3 rv
        exact (G.on (t.trans t2)).rt r B3 v H3 H3' q t3 o3 rv
      · intro Γ3 B3 σ3 H3 H3' q t3 e3 o3
        exact q g σ3 H3 H3' e3 o3 D (G.on ((t.trans t2).trans t3))
      · intro Γ3 B3 σ3 H3 H3' q t3 e3 o3
        exact ⟨Γ3, B3, H3, q, t2.trans t3, e3, o3⟩
    · rintro σ' H'' ⟨Γ', B', H2, hP, t2, e2, o2⟩
      rw [rs.length] at hP
      exact hd Γ' B' hP g σ' H2 H'' e2 o2 D (G.on (t.trans t2))⟩
end
end Gd
set_option exponentiation.threshold 20000
namespace Lw
open PySem PySem.Spec PyProof.Rows L2 Gd Fr
open scoped Rat
end Lw
namespace Lw
open PySem PySem.Spec PyProof.Rows L2 Gd Fr
open scoped Rat
end Lw
namespace Lw
open PySem PySem.Spec PyProof.Rows L2 Gd Fr
open scoped Rat
end Lw
set_option exponentiation.threshold 20000
namespace Lw
open PySem PySem.Spec PyProof.Rows L2 Gd Fr
open scoped Rat
structure Sz (b p : Nat) (low high : Int) (P H J : Nat) : Prop where
  hP : b ^ p < 2 ^ P
  hH : b ^ high.toNat < 2 ^ H
  hL : b ^ (-low).toNat < 2 ^ J
  pj : P + H ≤ J
  p1 : 1 ≤ P
  h1 : 1 ≤ H
section
variable {b p : Nat} {low high : Int} {P H J : Nat} (F : Fm b p low high) (Z : Sz b p low high P H J)
include F Z
theorem Sz.pw {e : Int} (h : low ≤ e) (h' : e ≤ high) : Qz H J (pw b e) := by
  have b2 := F.b2
  refine pw_bd b2 ?_ ?_ Z.h1 (by have := Z.pj; have := Z.p1; omega)
  · exact Nat.lt_of_le_of_lt (Nat.pow_le_pow_right (by omega) (by omega)) Z.hH
  · exact Nat.lt_of_le_of_lt (Nat.pow_le_pow_right (by omega) (by omega)) Z.hL
theorem Sz.c {c : Int} (h0 : 0 ≤ c) (h1 : c < ((b ^ p : Nat) : Int)) : Qz P 1 (c : Rat) := by
  have := Z.hP
  exact ⟨by rw [Rat.num_intCast]; unfold Bd; omega, by rw [Rat.den_intCast]; unfold Bd; decide⟩
theorem Sz.half {q : Rat} (h0 : 0 ≤ q) (hq : Qz (J + 540) (J + 540) q) : Qz (P + 2 + (J + 540)) (2 + J) (((2 * cQ b (eQ b p low q) q + 1 : Int) : Rat) / 2 * Lw.pw b (eQ b p low q)) := by
  have b2 := F.b2
  have pj := Z.pj; have p1 := Z.p1; have z1 := Z.h1
  have hE := eQ_is (p := p) b2 low q
  have c0 := c_ge b2 h0 (eQ b p low q)
  have c1 := c_lt b2 hE
  have ebd := F.e_bd hq h0 hE
  have el := hE.1
  generalize eQ b p low q = e at *
  have hu : Qz (J + 540) J (Lw.pw b e) := by
    refine pw_bd b2 ?_ ?_ (by omega) (by omega)
    · have h3 : 2 ^ H ≤ 2 ^ (J + 540) := Nat.pow_le_pow_right (by decide) (by omega)
      rcases ebd with ⟨h, _, _⟩ | h | h
      · exact Nat.lt_of_le_of_lt (Nat.le_mul_of_pos_left _ q.den_pos) h
      · have : e.toNat = 0 := by omega
        rw [this, Nat.pow_zero]; exact Nat.one_lt_two_pow (by omega)
      · have h5 : b ^ e.toNat ≤ b ^ high.toNat := Nat.pow_le_pow_right (by omega) (by have := F.lh; omega)
        have := Z.hH
        omega
    · exact Nat.lt_of_le_of_lt (Nat.pow_le_pow_right (by omega) (by omega)) Z.hL
  have hc : Qz (P + 2) 1 ((2 * cQ b e q + 1 : Int) : Rat) := by
    have := Z.hP
    have e4 : 2 ^ (P + 2) = 2 ^ P * 4 := by rw [Nat.pow_add]
    exact ⟨by rw [Rat.num_intCast]; unfold Bd; omega, by rw [Rat.den_intCast]; unfold Bd; decide⟩
  have h2 : Qz 2 1 (2 : Rat) := ⟨by unfold Bd; decide, by unfold Bd; decide⟩
  have h2' : Qz (P + 2) 2 (((2 * cQ b e q + 1 : Int) : Rat) / 2) := by
    rw [Rat.div_def]
    have hi : Qz 1 2 ((2 : Rat)⁻¹) := ⟨by unfold Bd; decide +kernel, by unfold Bd; decide +kernel⟩
    have e1 : ((2 * cQ b e q + 1 : Int) : Rat) * (2 : Rat)⁻¹ = (2 * cQ b e q + 1) /. 2 := by rw [← Rat.div_def, Rat.divInt_eq_div]; rfl
    rw [e1]
    have hn : Bd (P + 2) (2 * cQ b e q + 1) := by have := hc.nu; rwa [Rat.num_intCast] at this
    obtain ⟨z1, z2⟩ := divInt_bd (n := 2 * cQ b e q + 1) (d := 2) (by decide) hn (b := 2) (by unfold Bd; decide)
    exact ⟨z1, z2⟩
  exact (h2'.mul hu).le (by omega) (by omega)
end
end Lw
set_option exponentiation.threshold 20000
namespace Gd
open PySem PySem.Spec PyProof.Rows L2
section
variable {X : Cx} {Γ : List VD} {B B1 B2 B' : Bag} {e a b c : Expr} {pos : Pos}
end
end Gd
set_option exponentiation.threshold 20000
namespace Lw
open PySem PySem.Spec PyProof.Rows L2 Gd Fr
open scoped Rat
section
variable {X : Cx} {Γ : List VD} {B B1 B2 B' : Bag} {e a b c : Expr} {pos : Pos} {x y : Int × Int × Int}
end
def plc (v : Va) : Prop := v.isZ = true → v.sg = 0
def Sp.gd (b : Nat) : Sp → Prop
  | .none => True
  | .span u v => plc u ∧ plc v ∧ u ≠ .inf 0 ∧ v ≠ .inf 1 ∧ ¬ lex3 (plT v) (plT u)
def Sp.ok2 (b p : Nat) (low high : Int) (s : Sp) : Prop := s.ok b p low high ∧ s.gd b
end Lw
namespace Lw
open PySem PySem.Spec PyProof.Rows L2 Gd Fr
open scoped Rat
def liesB : Sp → Sp → Bool
  | .none, _ => true
  | _, .none => false
  | .span a b, .span c d => !decide (lex3 (plT a) (plT c)) && !decide (lex3 (plT d) (plT b))
section
variable {b p : Nat} {low high : Int} (F : Fm b p low high)
theorem Sp.v2 {u v : Va} (h : (Sp.span u v).ok2 b p low high) : Vcan b p low high v ∧ v.isNan = false ∧ plc v := ⟨h.1.2.1, h.1.2.2, h.2.2.1⟩
include F
omit F in
theorem lex3_trans {x y z : Int × Int × Int} (h1 : ¬ lex3 y x) (h2 : ¬ lex3 z y) : ¬ lex3 z x := by unfold lex3 at *; omega
end
section
variable {b p : Nat} {low high : Int} (F : Fm b p low high)
include F
end
end Lw
set_option exponentiation.threshold 20000
namespace Lw
open PySem PySem.Spec PyProof.Rows L2 Gd Fr
open scoped Rat
section
variable {b p : Nat} {low high : Int} (F : Fm b p low high)
include F
end
end Lw
namespace Lw
open PySem PySem.Spec PyProof.Rows L2 Gd Fr
open scoped Rat
end Lw
set_option exponentiation.threshold 20000
namespace Lw
open PySem PySem.Spec PyProof.Rows L2 Gd Fr
open scoped Rat
theorem lex_irr (x : Int × Int × Int) : ¬ lex3 x x := fun h => lex3_asym h h
def Cm (N k : Nat) (x : Rat) : Prop := ∃ m : Int, x * ((N : Int) : Rat) = (m : Rat) ∧ Bd k m
theorem Cm.add {N k j : Nat} {x y : Rat} (h : Cm N k x) (h' : Cm N j y) : Cm N (k + j + 1) (x + y) := by
  obtain ⟨m, e, b⟩ := h
  obtain ⟨m', e', b'⟩ := h'
  exact ⟨m + m', by rw [Rat.intCast_add, ← e, ← e']; grind, b.add b'⟩
theorem Cm.neg {N k : Nat} {x : Rat} (h : Cm N k x) : Cm N k (-x) := by
  obtain ⟨m, e, b⟩ := h
  exact ⟨-m, by rw [Rat.intCast_neg, ← e]; grind, b.neg⟩
theorem Cm.le {N k j : Nat} {x : Rat} (h : Cm N k x) (e : k ≤ j) : Cm N j x := by
  obtain ⟨m, e1, b⟩ := h
  exact ⟨m, e1, b.le e⟩
end Lw
set_option exponentiation.threshold 20000
namespace Gd
open PySem PySem.Spec PyProof.Rows L2
section
variable {X : Cx} {Γ : List VD} {B B1 B2 B' : Bag} {e a b c : Expr} {pos p : Pos} {Φ : Post}
theorem ex_catL (ha : EX X Γ B a fun y B1 => EX X Γ B1 b fun z B2 => ∃ ds es, y = .list ds ∧ z = .list es ∧ ds.length + es.length ≤ 1000 ∧ Φ (.list (ds ++ es)) B2) : EX X Γ B (.BinOp a .Add b pos) Φ :=
  ex_bin (ex_mono ha fun y B1 hy => ex_mono hy fun z B2 hz => by
    obtain ⟨ds, es, rfl, rfl, hl, hΦ⟩ := hz
    refine ⟨.list (ds ++ es), hΦ, fun g v w H0 H O r1 r2 Q q => ?_⟩
    obtain ⟨pa, xs, rfl, hx, rs⟩ := rvL (g := g) r1
    obtain ⟨pb, ys, rfl, hy, rt⟩ := rvL (g := g) r2
    refine ⟨pa, pb, xs, ys, rfl, rfl, O.ex _ _ hx, O.ex _ _ hy, by rw [rs.length, rt.length]; exact Nat.le_of_lt (small1000 hl), fun n hn => ?_⟩
    obtain ⟨t3, o3⟩ := laid (o := .lst (xs ++ ys)) O hn
    exact q _ _ _ t3 o3 (Rp.lst upd_same ((rs.app rt).mono t3.ex))) (fun _ _ h1 h2 => pe_op op_cat h1 h2)
end
end Gd
set_option exponentiation.threshold 20000
namespace Lw
open PySem PySem.Spec PyProof.Rows L2 Gd Fr
open scoped Rat
section
variable {b p : Nat} {low high : Int} (F : Fm b p low high)
include F
end
end Lw
set_option exponentiation.threshold 20000
namespace Lw
open PySem PySem.Spec PyProof.Rows L2 Gd Fr
open scoped Rat
inductive Xe | lo | hi | q (r : Rat)
deriving DecidableEq
namespace Xe
def d : Xe → PyData
  | .lo => .tuple [.int (-1), .int 0]
  | .hi => .tuple [.int 1, .int 0]
  | .q r => fq r
def n : Xe → Int
  | .lo => -1
  | .hi => 1
  | .q r => r.num
def e : Xe → Int
  | .q r => (r.den : Int)
  | _ => 0
theorem pair (x : Xe) : x.d = .tuple [.int x.n, .int x.e] := by cases x <;> rfl
def bd (n d : Nat) : Xe → Prop
  | .q r => Qz n d r
  | _ => True
def lt : Xe → Xe → Bool
  | .q a, .q b => decide (a < b)
  | .lo, .lo => false
  | .lo, _ => true
  | .q _, .hi => true
  | _, _ => false
def add : Xe → Xe → Xe
  | .q a, .q b => .q (a + b)
  | .q _, y => y
  | x, _ => x
def neg : Xe → Xe
  | .lo => .hi
  | .hi => .lo
  | .q a => .q (-a)
def mul (x y : Xe) : Xe :=
  if x.n = 0 ∨ y.n = 0 then .q 0 else match x, y with
    | .q a, .q b => .q (a * b)
    | _, _ => if decide (0 < x.n) = decide (0 < y.n) then .hi else .lo
def min (x y : Xe) : Xe := if y.lt x = true then y else x
def max (x y : Xe) : Xe := if x.lt y = true then y else x
theorem eqs (x y : Xe) : (decide (x.n = y.n) && decide (x.e = y.e)) = true ↔ x = y := by
  rw [Bool.and_eq_true, decide_eq_true_eq, decide_eq_true_eq]
  refine ⟨fun ⟨h1, h2⟩ => ?_, fun h => by rw [h]; exact ⟨rfl, rfl⟩⟩
  cases x with
  | q a =>
    have da : ¬ (a.den : Int) = 0 := den_ne a
    cases y with
    | q b =>
      have h1 : a.num = b.num := h1
      have h2 : (a.den : Int) = (b.den : Int) := h2
      congr 1
      exact Rat.ext h1 (by omega)
    | lo => exact absurd h2 da
    | hi => exact absurd h2 da
  | lo =>
    cases y with
    | q b => exact absurd h2.symm (den_ne b)
    | lo => rfl
    | hi => exact absurd h1 (by decide)
  | hi =>
    cases y with
    | q b => exact absurd h2.symm (den_ne b)
    | hi => rfl
    | lo => exact absurd h1 (by decide)
theorem eqv (x y : Xe) : PyData.eqv x.d y.d = true ↔ x = y := by rw [pair x, pair y, eqv_ii]; exact eqs x y
theorem irr (x : Xe) : x.lt x = false := by
  cases x with
  | q a => exact decide_eq_false (by grind)
  | _ => rfl
theorem asym {x y : Xe} (h : x.lt y = true) : y.lt x = false := by
  cases x <;> cases y <;> simp_all [lt] <;> grind
theorem tot {x y : Xe} (h : x.lt y = false) (h2 : y.lt x = false) : x = y := by
  cases x <;> cases y <;> simp_all [lt] <;> grind
theorem trans {x y z : Xe} (h : x.lt y = true) (h2 : y.lt z = true) : x.lt z = true := by
  cases x <;> cases y <;> cases z <;> simp_all [lt] <;> grind
def of (b : Nat) : Va → Xe
  | .inf s => if s = 0 then .hi else .lo
  | v => .q (v.wQ b)
theorem sh (x : Xe) : SeqAt.shaped x.d = true := by rw [pair]; exact shaped_ii _ _
end Xe
end Lw
namespace Gd
open PySem PySem.Spec PyProof.Rows L2
section
variable {X : Cx} {Γ : List VD} {B B1 : Bag} {e e1 elt : Expr} {scope : Scope} {pos pos' : Pos} {rest : List Stmt} {E : En} {d : VD}
end
end Gd
namespace Gd
open PySem PySem.Spec PyProof.Rows L2
section
variable {X : Cx} {Γ : List VD} {B B1 B2 : Bag} {e : Expr} {es : List Expr} {p pos : Pos}
theorem ej_fn {x : Str} {f : Addr} (hm : X.mg x = some (.ref f)) (hg : Gl X x := by rfl) (hdb : (x == ("__debug__" : Str)) = false := by decide) : EJ X Γ B (.Name x p) (.fn f) B :=
  fun g σ H0 H E O Q q => ⟨_, pe_glob (v := .ref f) hg hm rfl hdb, q (.ref f) H0 H To.refl O rfl⟩
theorem ej_callV (i : Nat) {x fn : Str} {k : Nat} {f : Addr} {R : Rel} {ds : List VD} {r : PyData} (c : Cal X.prog X.w X.K X.mg X.base fn k R) (hm : X.mg fn = some (.ref f)) (h : Γ[i]? = some (.fn f)) (g : Gx k X) (ha : AJ X Γ B (e :: es) ds B1) (hR : R ds B1 r B2)
    (hN : X.N[i]? = some x := by rfl) (hv : Vis X.env.scope x := by first | exact Or.inl rfl | exact Or.inr (Or.inl rfl) | exact Or.inr (Or.inr rfl))
    (hdb : (x == ("__debug__" : Str)) = false := by decide) (hcd : (x == ("__classdict__" : Str)) = false := by decide) (he : starEach (e :: es) X.env = (false, eval e X.env) :: starEach es X.env := by rfl)
    (hpl : (backTo pos (starEach es X.env)).any (·.1) = false := by rfl) : EJ X Γ B (.Call (.Name x p) (e :: es) [] pos) (.da r) B2 := by
  obtain ⟨f', fd, ps, F, hm', hk, hb⟩ := c
  have ef : f' = f := by
    rw [hm] at hm'
    injection hm' with hm'
    injection hm' with hm'
    exact hm'.symm
  subst ef
  intro gh σ H0 H E O Q q
  obtain ⟨v, hs, rv⟩ := E.at' i _ h (fun z => VD.noConfusion z)
  have rv : v = .ref f' := rv
  subst rv
  refine ⟨fun σ H Q => σ[i]? = some (some (.ref f')) ∧ WA X (e :: es) σ H fun vs H1 => DefSp X.K R vs H1 Q E0, ⟨fun pins s σ H Q I h => ?_⟩, ?_⟩
  · obtain ⟨hs, h⟩ := h
    refine wpAny_Call_Name_kw (thn ((pe_var (pos := p) hN hv hdb hcd).run pins s σ H (fun v H1 => v = .ref f' ∧ H1 = H) I ⟨.ref f', hs, rfl, rfl⟩) fun u s1 ⟨v, H1, I1, r1, q1⟩ => ?_)
    obtain ⟨rfl, rfl⟩ := q1
    cases r1
    refine PySem.W.callWith_K (h₀ := X.base) I1.ok.mod.kin hk (thn ((wa (e :: es)).run pos pins s1 σ H1 _ I1 h) ?_) he hpl
    rintro us s2 ⟨vs, H2, I2, r2, q2⟩
    exact ⟨I2.kIn, runG F g hb I2 r2 q2⟩
  · refine ⟨hs, ha gh σ H0 H E O _ fun vs H1 H' t o rs => ?_⟩
    exact ⟨gh, ds, B1, H1, r, B2, rs, o, hR, fun v H2 H'' t2 o2 rv => q v H2 H'' (t.trans t2) o2 rv⟩
end
end Gd
set_option exponentiation.threshold 20000
namespace Lw
open PySem PySem.Spec PyProof.Rows L2 Gd Fr
open scoped Rat
namespace Xe
theorem neg_lt (x y : Xe) : x.neg.lt y.neg = y.lt x := by
  cases x <;> cases y <;> simp [neg, lt] <;> grind
def cm (N k : Nat) : Xe → Prop
  | .q r => Cm N k r
  | _ => True
end Xe
end Lw
namespace Gd
open PySem PySem.Spec PyProof.Rows L2
section
variable {X : Cx} {Γ : List VD} {B B1 B2 : Bag} {i f : Expr}
end
end Gd
set_option exponentiation.threshold 20000
namespace Lw
open PySem PySem.Spec PyProof.Rows L2 Gd Fr
open scoped Rat
def opMany (w : Str) : Nat := if ("fused" : Str) = w then 3 else if ("opposite" : Str) = w then 1 else if ("size" : Str) = w then 1 else 2
theorem op_le (w : Str) : 1 ≤ opMany w ∧ opMany w ≤ 3 := by
  unfold opMany
  split
  · exact ⟨by decide, by decide⟩
  · split
    · exact ⟨by decide, by decide⟩
    · split <;> exact ⟨by decide, by decide⟩
section
variable {b p : Nat} {low high : Int} (F : Fm b p low high)
include F
end
end Lw
set_option exponentiation.threshold 20000
namespace Lw
open PySem PySem.Spec PyProof.Rows L2 Gd Fr
open scoped Rat
namespace Xe
theorem le_cases {x y : Xe} (h : y.lt x = false) : x = y ∨ x.lt y = true := by
  cases c : x.lt y with
  | true => exact .inr rfl
  | false => exact .inl (tot c h)
theorem le_trans {x y z : Xe} (h : y.lt x = false) (h2 : z.lt y = false) : z.lt x = false := by
  rcases le_cases h with rfl | a
  · exact h2
  · rcases le_cases h2 with rfl | b
    · exact h
    · exact asym (trans a b)
end Xe
section
variable {b p : Nat} {low high : Int} (F : Fm b p low high)
include F
end
section
variable {b p : Nat} {low high : Int} (F : Fm b p low high)
include F
end
end Lw
namespace Gd
open PySem PySem.Spec PyProof.Rows L2
section
variable {X : Cx} {i : Nat} {Γ : List VD} {B B1 B2 B' : Bag} {acc ds ys : List PyData} {e a b c : Expr} {es : List Expr} {d da db : VD} {y : PyData} {pos p p1 p2 p3 pos' : Pos} {rest ss s1 s2 : List Stmt} {E : EnO} {Es : En}
end
end Gd
set_option exponentiation.threshold 20000
namespace Lw
open PySem PySem.Spec PyProof.Rows L2 Gd Fr
open scoped Rat
section
variable {b p : Nat} {low high : Int} (F : Fm b p low high)
include F
end
def Xe.rt (b : Nat) (low : Int) (x : Xe) : Prop := x.e = 0 ∨ x.n ≤ 0 ∨ ∃ r, x = .q r ∧ RtOk b low r 3040 2341
end Lw
set_option exponentiation.threshold 20000
namespace Lw
open PySem PySem.Spec PyProof.Rows L2 Gd Fr
open scoped Rat
section
variable {b p : Nat} {low high : Int} (F : Fm b p low high)
include F
end
end Lw
set_option exponentiation.threshold 20000
namespace Lw
open PySem PySem.Spec PyProof.Rows L2 Gd Fr
open scoped Rat
section
variable {b p : Nat} {low high : Int} (F : Fm b p low high)
include F
end
end Lw
namespace Gd
open PySem PySem.Spec PyProof.Rows L2
section
variable {X : Cx} {Γ : List VD} {B B0 B1 B2 : Bag} {e fe i : Expr} {es : List Expr} {p pos dpos : Pos}
end
end Gd
set_option exponentiation.threshold 20000
namespace Lw
open PySem PySem.Spec PyProof.Rows L2 Gd Fr
open scoped Rat
section
variable {b p : Nat} {low high : Int} (F : Fm b p low high)
include F
end
end Lw
set_option exponentiation.threshold 20000
namespace Lw
open PySem PySem.Spec PyProof.Rows L2 Gd Fr
open scoped Rat
section
variable {b p : Nat} {low high : Int} (F : Fm b p low high)
include F
end
end Lw
set_option exponentiation.threshold 20000
namespace Lw
open PySem PySem.Spec PyProof.Rows L2 Gd Fr
open scoped Rat
section
variable {b p : Nat} {low high : Int} (F : Fm b p low high)
include F
end
end Lw
set_option exponentiation.threshold 20000
namespace Lw
open PySem PySem.Spec PyProof.Rows L2 Gd Fr
open scoped Rat
section
variable {b p : Nat} {low high : Int}
theorem ite_ff {α : Type} {c : Bool} {x y : α} (h : c = false) : (if c = true then x else y) = y := by rw [h]; exact if_neg Bool.false_ne_true
end
end Lw
namespace Gd
open PySem PySem.Spec PyProof.Rows L2
section
variable {X : Cx} {i : Nat} {Γ : List VD} {B B1 B2 B3 B' : Bag} {acc ds : List PyData} {e e2 a b c : Expr} {d da db : VD} {y y2 : PyData} {pos p p1 p2 p3 pos' px : Pos} {rest ss s1 s2 : List Stmt} {E : EnO}
end
end Gd
namespace Gd
open PySem PySem.Spec PyProof.Rows L2
section
variable {X : Cx} {Γ : List VD} {B B1 B2 : Bag} {i f : Expr}
end
end Gd
namespace Gd
open PySem PySem.Spec PyProof.Rows L2
section
variable {X : Cx} {Γ : List VD} {B B1 B2 : Bag} {a b : Expr} {pos : Pos}
end
end Gd
set_option exponentiation.threshold 20000
namespace Lw
open PySem PySem.Spec PyProof.Rows L2 Gd Fr
open scoped Rat
section
variable {b p : Nat} {low high : Int}
end
end Lw
set_option exponentiation.threshold 20000
namespace Lw
open PySem PySem.Spec PyProof.Rows L2 Gd Fr
open scoped Rat
end Lw
namespace Gd
open PySem PySem.Spec PyProof.Rows L2
section
variable {X : Cx} {Γ : List VD} {B B1 B2 : Bag} {e1 e2 e3 e4 i : Expr} {pos dpos : Pos}
end
section
variable {X : Cx} {Γ : List VD} {B B1 B2 B' : Bag} {e a b c elt : Expr} {scope : Scope} {j : Nat} {x : Str} {px : Pos} {ds ys acc : List PyData} {pos pos' p : Pos} {rest : List Stmt} {E : EnO} {d : VD} {y y1 : PyData}
variable {i : Nat}
end
end Gd
set_option exponentiation.threshold 20000
namespace Lw
open PySem PySem.Spec PyProof.Rows L2 Gd Fr
open scoped Rat
inductive Stp where
  | input (i : Nat)
  | told (q : Rat)
  | op (w : Str) (is : List Nat)
def Stp.d : Stp → PyData
  | .input i => .tuple [.str "input", .int (i : Nat)]
  | .told q => .tuple [.str "told", fq q]
  | .op w is => .tuple (.str w :: is.map fun i => PyData.int (i : Nat))
def Stp.word : Stp → Str
  | .input _ => "input"
  | .told _ => "told"
  | .op w _ => w
def pgWords : List Str := ["add", "take", "if", "least", "greatest", "opposite", "size", "times", "by", "fused", "root"]
def arity (w : Str) : Nat := if ("fused" : Str) = w then 3 else if ("if" : Str) = w then 4 else if ("opposite" : Str) = w then 1 else if ("size" : Str) = w then 1 else if ("root" : Str) = w then 1 else 2
def Stp.ok (many k : Nat) : Stp → Prop
  | .input i => i < many
  | .told q => Qz 11 5 q
  | .op w is => w ∈ pgWords ∧ is.length = arity w ∧ ∀ i ∈ is, i < k
abbrev SB := Sp × Bool
namespace Xe
end Xe
section
variable {b p : Nat} {low high : Int} (F : Fm b p low high)
include F
end
end Lw
namespace Gd
open PySem PySem.Spec PyProof.Rows L2
section
variable {X : Cx} {i : Nat} {Γ : List VD} {B B1 B2 B' : Bag} {acc ds dd : List PyData} {e c : Expr} {es : List Expr} {d : VD} {y : PyData} {pos p p1 p2 p3 pos' : Pos} {rest ss s1 s2 : List Stmt}
variable {E : EnO}
end
end Gd
namespace Gd
open PySem PySem.Spec PyProof.Rows L2
section
variable {X : Cx} {Γ : List VD} {B B1 B2 B' : Bag} {e a b c elt : Expr} {scope : Scope} {j : Nat} {x : Str} {px : Pos}
end
end Gd
namespace Gd
open PySem PySem.Spec PyProof.Rows L2
section
variable {X : Cx} {i : Nat} {Γ : List VD} {B B1 B2 B' : Bag} {acc ds : List PyData} {e a b c : Expr} {es : List Expr} {d : VD} {y : PyData} {pos p p1 p2 p3 pos' : Pos} {rest ss s1 s2 : List Stmt} {E : EnO} {Φ : List PyData → Bag → Prop}
end
end Gd
set_option exponentiation.threshold 20000
namespace Lw
open PySem PySem.Spec PyProof.Rows L2 Gd Fr
open scoped Rat
section
variable {b p : Nat} {low high : Int} (F : Fm b p low high)
include F
end
end Lw
set_option exponentiation.threshold 20000
namespace Lw
open PySem PySem.Spec PyProof.Rows L2 Gd Fr
open scoped Rat
def xle (x y : Xe) : Prop := y.lt x = false
theorem xle.refl (x : Xe) : xle x x := Xe.irr x
theorem xle.trans {x y z : Xe} (h : xle x y) (h2 : xle y z) : xle x z := Xe.le_trans h h2
theorem xle.tot (x y : Xe) : xle x y ∨ xle y x := by
  unfold xle
  cases c : y.lt x with
  | false => exact .inl rfl
  | true => exact .inr (Xe.asym c)
theorem xle.neg {x y : Xe} (h : xle x y) : xle y.neg x.neg := by unfold xle; rw [Xe.neg_lt]; exact h
end Lw
set_option exponentiation.threshold 20000
namespace Lw
open PySem PySem.Spec PyProof.Rows L2 Gd Fr
open scoped Rat
section
variable {b p : Nat} {low high : Int} (F : Fm b p low high)
include F
end
def spin (s t : Sp) : Prop := liesB s t = true
theorem spin_span {u v x y : Va} : spin (.span u v) (.span x y) ↔ ¬ lex3 (plT u) (plT x) ∧ ¬ lex3 (plT y) (plT v) := by
  show ((!decide (lex3 (plT u) (plT x))) && !decide (lex3 (plT y) (plT v))) = true ↔ _
  rw [Bool.and_eq_true, Bool.not_eq_true', Bool.not_eq_true', decide_eq_false_iff_not, decide_eq_false_iff_not]
theorem spin.refl (s : Sp) : spin s s := by
  cases s with
  | none => rfl
  | span u v => exact spin_span.mpr ⟨lex_irr _, lex_irr _⟩
theorem spin.trans {s t u : Sp} (h : spin s t) (h2 : spin t u) : spin s u := by
  cases s with
  | none => rfl
  | span a b => cases t with
    | none => cases h
    | span c d => cases u with
      | none => cases h2
      | span e f =>
        have h := spin_span.mp h; have h2 := spin_span.mp h2
        exact spin_span.mpr ⟨lex3_trans h2.1 h.1, lex3_trans h.2 h2.2⟩
section
variable {b p : Nat} {low high : Int} (F : Fm b p low high)
include F
end
end Lw
set_option exponentiation.threshold 20000
namespace Lw
open PySem PySem.Spec PyProof.Rows L2 Gd Fr
open scoped Rat
section
variable {b p : Nat} {low high : Int} (F : Fm b p low high)
include F
omit F in
def sbin (x' x : SB) : Prop := spin x'.1 x.1 ∧ (x.2 = true → x'.2 = true)
omit F in
theorem sbin.refl (x : SB) : sbin x x := ⟨spin.refl _, fun h => h⟩
omit F in
def bxin (box' box : List Sp) : Prop := box'.length = box.length ∧ ∀ (i : Nat) s s', box[i]? = some s → box'[i]? = some s' → spin s' s
end
end Lw
namespace Gd
open PySem PySem.Spec PyProof.Rows L2
section
variable {X : Cx} {Γ : List VD} {B B1 B2 B' : Bag} {e a b c elt : Expr} {scope : Scope} {j : Nat} {x : Str} {px pos : Pos} {Φ : Post}
end
end Gd
set_option exponentiation.threshold 20000
namespace Lw
open PySem PySem.Spec PyProof.Rows L2 Gd Fr
open scoped Rat
section
variable {b p : Nat} {low high : Int} (F : Fm b p low high)
include F
end
theorem bxin.refl (L : List Sp) : bxin L L := ⟨rfl, fun i s s' h h' => by rw [h] at h'; obtain rfl := Option.some.inj h'; exact spin.refl _⟩
theorem bxin.trans {L L' L'' : List Sp} (h : bxin L L') (h' : bxin L' L'') : bxin L L'' := ⟨by rw [h.1, h'.1], fun i s s' e e' => by
  have hl : i < L'.length := by rw [h'.1]; exact (List.getElem?_eq_some_iff.mp e).1
  have e2 : L'[i]? = some L'[i] := List.getElem?_eq_getElem hl
  exact (h.2 i _ _ e2 e').trans (h'.2 i _ _ e e2)⟩
end Lw
namespace Lw
open PySem PySem.Spec PyProof.Rows L2 Gd Fr
end Lw
set_option exponentiation.threshold 20000
namespace Lw
open PySem PySem.Spec PyProof.Rows L2 Gd Fr
open scoped Rat
structure Sml (b p : Nat) (low high : Int) : Prop where
  bp : b ^ p < 2 ^ 8
  bh : b ^ high.toNat < 2 ^ 11
  bl : b ^ (-low).toNat < 2 ^ 20
  nn : 0 ≤ (p : Int) + high + (-low).toNat
  bt : b ^ ((p : Int) + high + (-low).toNat).toNat < 2 ^ 17
section
variable {b p : Nat} {low high : Int} (F : Fm b p low high) (S : Sml b p low high)
include F S
end
def pt2 (x : Rat) : Xe × Xe := (.q x, .q x)
section
variable {b p : Nat} {low high : Int} (F : Fm b p low high)
include F
end
section
variable {b p : Nat} {low high : Int} (F : Fm b p low high)
include F
end
end Lw
set_option exponentiation.threshold 20000
namespace Lw
open PySem PySem.Spec PyProof.Rows L2 Gd Fr
open scoped Rat
end Lw
namespace Lw
end Lw
set_option exponentiation.threshold 20000
namespace Lw
open PySem PySem.Spec PyProof.Rows L2 Gd Fr
open scoped Rat
end Lw
set_option exponentiation.threshold 20000
namespace Lw
open PySem PySem.Spec PyProof.Rows L2 Gd Fr
open scoped Rat
section
variable {b p : Nat} {low high : Int} (F : Fm b p low high)
include F
end
end Lw
namespace Gd
open PySem PySem.Spec PyProof.Rows L2
section
variable {X : Cx} {Γ : List VD} {B B1 : Bag} {a : Expr} {p p2 p3 pos : Pos}
variable {elt e : Expr} {scope : Scope} {j : Nat} {ds : List PyData} {Φ : Post}
end
end Gd
set_option exponentiation.threshold 20000
namespace Lw
open PySem PySem.Spec PyProof.Rows L2 Gd Fr
open scoped Rat
section
variable {t : F4} (F : Fm t.1 t.2.1 t.2.2.1 t.2.2.2)
include F
end
end Lw
set_option exponentiation.threshold 20000
namespace Lw
open PySem PySem.Spec PyProof.Rows L2 Gd Fr
open scoped Rat
end Lw
namespace Lw
open PySem PySem.Spec PyProof.Rows L2 Gd Fr
open scoped Rat
end Lw
set_option exponentiation.threshold 20000
namespace Lw
open PySem PySem.Spec PyProof.Rows L2 Gd Fr
open scoped Rat
end Lw
namespace Gd
open PySem PySem.Spec PyProof.Rows L2
section
variable {X : Cx} {i : Nat} {Γ : List VD} {B : Bag} {acc : List PyData} {e : Expr} {pos : Pos} {s1 rest : List Stmt} {E : EnO}
end
end Gd
set_option exponentiation.threshold 20000
namespace Lw
open PySem PySem.Spec PyProof.Rows L2 Gd Fr
open scoped Rat
end Lw
namespace Gd
open PySem PySem.Spec PyProof.Rows L2
section
variable {X : Cx} {Γ : List VD} {B B1 B2 : Bag} {a b c e elt : Expr} {scope : Scope} {pos p pos' : Pos} {rest s1 : List Stmt} {E : En} {d : VD}
end
section
variable {X : Cx} {Γ : List VD} {B : Bag} {a b : Expr} {pos : Pos} {Φ : Post}
end
end Gd
set_option exponentiation.threshold 20000
namespace Lw
open PySem PySem.Spec PyProof.Rows L2 Gd Fr
open scoped Rat
section
variable {b p : Nat} {low high : Int} (F : Fm b p low high)
include F
end
end Lw
namespace Gd
open PySem PySem.Spec PyProof.Rows L2 RZ
section
variable {X : Cx} {Γ : List VD} {B B1 B2 B' : Bag} {a b c e e1 elt : Expr} {es : List Expr} {scope : Scope} {pos pos' p p2 p3 : Pos} {rest s1 : List Stmt} {E : En} {d : VD} {ds : List PyData} {y : PyData}
end
end Gd
set_option exponentiation.threshold 20000
namespace Lw
open PySem PySem.Spec PyProof.Rows L2 Gd Fr
open scoped Rat
section
variable {b p : Nat} {low high : Int} (F : Fm b p low high)
include F
end
section
variable {b p : Nat} {low high : Int} {L : List Stp} {s : Sp}
variable (F : Fm b p low high)
include F
end
end Lw
namespace Gd
open PySem PySem.Spec PyProof.Rows L2
def KSys (K : PySem.W.Frag) : Prop := ∃ o, K.lookup sysModules = some o
def dict1 : List (PyData × PyData) → Bool
  | [(.tuple [.int i, .int j], .int n)] => decide (i.natAbs.log2 < 1920) && (decide (j.natAbs.log2 < 1920) && decide (n.natAbs.log2 < 1920))
  | _ => false
theorem dict1_inv {kvs : List (PyData × PyData)} (h : dict1 kvs = true) : ∃ i j n, kvs = [(.tuple [.int i, .int j], .int n)] ∧ i.natAbs.log2 < 1920 ∧ j.natAbs.log2 < 1920 ∧ n.natAbs.log2 < 1920 := by
  unfold dict1 at h
  split at h
  · rename_i i j n
    simp only [Bool.and_eq_true, decide_eq_true_eq] at h
    exact ⟨i, j, n, rfl, h.1, h.2.1, h.2.2⟩
  · cases h
mutual
def datB : PyData → Bool
  | .none => true
  | .bool _ => true
  | .int i => decide (i.natAbs.log2 < 1920)
  | .str x => PyData.strOk x
  | .list xs => datA xs
  | .tuple xs => datA xs
  | .dict kvs => kvs.isEmpty || dict1 kvs
def datA : List PyData → Bool
  | [] => true
  | x :: xs => datB x && datA xs
end
structure OkA (d : PyData) : Prop where
  any : datB d = true
  dp : d.depth ≤ 60
  bulk : d.bulk ≤ 5000
mutual
theorem any_show : ∀ d : PyData, datB d = true → d.showable = true ∧ d.leavesShort 1921 = true
  | .none, _ => by simp only [PyData.showable, PyData.leavesShort, and_self]
  | .bool _, _ => by simp only [PyData.showable, PyData.leavesShort, and_self]
  | .int i, h => by
    simp only [datB] at h
    exact ⟨by simp only [PyData.showable]; exact h, nice_short (.int i) (by simp only [nice]; exact h)⟩
  | .str x, h => by
    simp only [datB] at h
    exact ⟨by simp only [PyData.showable], nice_short (.str x) (by simp only [nice]; exact h)⟩
  | .list xs, h => by simp only [datB] at h; simp only [PyData.showable, PyData.leavesShort]; exact any_showA xs h
  | .tuple xs, h => by simp only [datB] at h; simp only [PyData.showable, PyData.leavesShort]; exact any_showA xs h
  | .dict kvs, h => by
    simp only [datB, Bool.or_eq_true, List.isEmpty_iff] at h
    rcases h with h | h
    · subst h
      simp only [PyData.showable, PyData.showableKv, PyData.leavesShort, PyData.leavesShortKv, and_self]
    · obtain ⟨i, j, n, rfl, h1, h2, h3⟩ := dict1_inv h
      have k : ∀ i : Int, i.natAbs.log2 < 1920 → PyData.showable (.int i) = true ∧ PyData.leavesShort 1921 (.int i) = true := fun i h =>
        ⟨by simp only [PyData.showable]; exact decide_eq_true h, nice_short (.int i) (by simp only [nice]; exact decide_eq_true h)⟩
      simp only [PyData.showable, PyData.showableAll, PyData.showableKv, PyData.leavesShort, PyData.leavesShortAll, PyData.leavesShortKv, Bool.and_eq_true, Bool.and_true]
      have k1 := k i h1
      have k2 := k j h2
      have k3 := k n h3
      simp only [PyData.showable, PyData.leavesShort] at k1 k2 k3
      simp only [k1, k2, k3, and_self]
theorem any_showA : ∀ ds : List PyData, datA ds = true → PyData.showableAll ds = true ∧ PyData.leavesShortAll 1921 ds = true
  | [], _ => by simp only [PyData.showableAll, PyData.leavesShortAll, and_self]
  | x :: xs, h => by
    simp only [datA, Bool.and_eq_true] at h
    simp only [PyData.showableAll, PyData.leavesShortAll, Bool.and_eq_true]
    exact ⟨⟨(any_show x h.1).1, (any_showA xs h.2).1⟩, (any_show x h.1).2, (any_showA xs h.2).2⟩
end
theorem OkA.len {d : PyData} (h : OkA d) : d.shown.length ≤ sizeLine := by
  have h1 := PyData.shown_le_bulk 1921 (by decide) d (any_show d h.any).2
  have h2 := h.bulk
  rw [show sizeLine = 16777216 from by decide]
  omega
theorem Rp.dict0 {K : PySem.W.Frag} {H : Hp} {v : V} (h : Rp K H v (.dict [])) : ∃ a, v = .ref a ∧ (H a = some (.dK []) ∨ H a = some (.dT [])) := by
  generalize hd : PyData.dict [] = d at h
  cases h with
  | non => cases hd
  | bl b => cases hd
  | int i => cases hd
  | str x => cases hd
  | lst _ _ => cases hd
  | tup _ _ => cases hd
  | dct h => exact ⟨_, rfl, .inl h⟩
  | dctT kvs h =>
    injection hd with hd
    have e : kvs = [] := List.map_eq_nil_iff.mp hd.symm
    subst e
    exact ⟨_, rfl, .inr h⟩
theorem Rp.dict1 {K : PySem.W.Frag} {H : Hp} {v : V} {i j n : Int} (h : Rp K H v (.dict [(.tuple [.int i, .int j], .int n)])) : ∃ a, v = .ref a ∧ H a = some (.dT [([.inl i, .inl j], V.int n)]) := by
  generalize hd : PyData.dict [(.tuple [.int i, .int j], .int n)] = d at h
  cases h with
  | non => cases hd
  | bl b => cases hd
  | int i => cases hd
  | str x => cases hd
  | lst _ _ => cases hd
  | tup _ _ => cases hd
  | dct h => cases hd
  | dctT kvs h =>
    injection hd with hd
    cases kvs with
    | nil => cases hd
    | cons p r =>
      obtain ⟨k, m⟩ := p
      cases r with
      | cons q r => simp only [List.map_cons, List.cons.injEq] at hd; obtain ⟨_, hd⟩ := hd; cases hd
      | nil =>
        simp only [List.map_cons, List.map_nil, List.cons.injEq, Prod.mk.injEq, PyData.tuple.injEq, PyData.int.injEq, and_true] at hd
        obtain ⟨hk, rfl⟩ := hd
        cases k with
        | nil => cases hk
        | cons x k =>
          cases k with
          | nil => simp only [List.map_cons, List.map_nil, List.cons.injEq] at hk; obtain ⟨_, hk⟩ := hk; cases hk
          | cons y k =>
            cases k with
            | cons z k => simp only [List.map_cons, List.cons.injEq] at hk; obtain ⟨_, _, hk⟩ := hk; cases hk
            | nil =>
              simp only [List.map_cons, List.map_nil, List.cons.injEq, PyData.int.injEq, and_true] at hk
              obtain ⟨rfl, rfl⟩ := hk
              exact ⟨_, rfl, h⟩
section
variable {X : Cx} {pins : List (Addr × Obj)} {σ : L2.St} {H : Hp} {s : Shared}
theorem reads_dict1 (hs : KSys X.K) (I : Inv X pins σ H s) {a : Addr} {i j n : Int} (h : H a = some (.dT [([.inl i, .inl j], V.int n)])) :
    ∃ as, Reads s.heap (.ref a) (.dict [(.tuple [.int i, .int j], .int n)]) as ∧ sysModules ∉ as := by
  obtain ⟨_, hd, xs, r0, o, es, ep, h1, h2, h3, h5, _⟩ := dt_of I.hok h
  obtain ⟨b, u, ex, hb, ru⟩ : ∃ (b : Addr) (u : Value), xs = [([.inl i, .inl j], b, u)] ∧ H b = some (.tup [V.int i, V.int j]) ∧ RelV (.int n) u := by
    cases r0 with
    | @cons p q ps qs h0 t0 =>
      cases t0
      obtain ⟨k, b, u⟩ := q
      obtain ⟨e1, e2, e3⟩ := h0
      cases e1
      exact ⟨b, u, rfl, e2, e3⟩
  subst ex
  obtain ⟨t, rfl⟩ := ru
  obtain ⟨its, rv, ⟨o2, ho, hc, k, hd2⟩, _⟩ := I.tuple (SqT.of (K := X.K) hb)
  have e : es.toList = [entryOfKey (tupleKind (mixKind X.prog X.w)) ([.inl i, .inl j], b, .int n t)] := h5
  have hit : ∃ t1 t2, its = [.int i t1, .int j t2] := by
    cases rv with
    | cons r1 rv =>
      cases rv with
      | cons r2 rv =>
        cases rv
        obtain ⟨t1, rfl⟩ := r1
        obtain ⟨t2, rfl⟩ := r2
        exact ⟨t1, t2, rfl⟩
  obtain ⟨t1, t2, rfl⟩ := hit
  refine ⟨[a] ++ [], Reads.dict (as := []) (bs := []) h1 h2.1 h3 ?_ ?_, fun z => ?_⟩
  · rw [e]
    exact ReadsAll.cons (as := []) (bs := []) (Reads.tuple ho hc hd2 (ReadsAll.cons (as := []) (bs := []) (Reads.int i t1) (ReadsAll.cons (as := []) (bs := []) (Reads.int j t2) ReadsAll.nil))) ReadsAll.nil
  · rw [e]
    exact ReadsAll.cons (as := []) (bs := []) (Reads.int n t) ReadsAll.nil
  · rw [List.append_nil, List.mem_singleton] at z
    rw [← z] at hd; simp at hd
theorem reads_dict0 (I : Inv X pins σ H s) {a : Addr} (h : H a = some (.dK []) ∨ H a = some (.dT [])) : ∃ as, Reads s.heap (.ref a) (.dict []) as ∧ sysModules ∉ as := by
  rcases h with h | h
  · obtain ⟨_, hd, vs, r0, o, es, ep, h1, h2, h3, _, h5, _⟩ := dk_of I.hok h
    cases r0
    have e : es.toList = [] := by
      generalize hx : es.toList = l at h5
      cases h5; rfl
    refine ⟨[a], Reads.dict (as := []) (bs := []) h1 h2.1 h3 (by rw [e]; exact .nil) (by rw [e]; exact .nil), fun z => ?_⟩
    rw [List.mem_singleton] at z
    rw [← z] at hd; simp at hd
  · obtain ⟨_, hd, xs, r0, o, es, ep, h1, h2, h3, h5, _⟩ := dt_of I.hok h
    cases r0
    have e : es.toList = [] := h5
    refine ⟨[a], Reads.dict (as := []) (bs := []) h1 h2.1 h3 (by rw [e]; exact .nil) (by rw [e]; exact .nil), fun z => ?_⟩
    rw [List.mem_singleton] at z
    rw [← z] at hd; simp at hd
mutual
theorem Rp.readsA (hs : KSys X.K) (I : Inv X pins σ H s) : ∀ (d : PyData) (v : V) (u : Value), datB d = true → Rp X.K H v d → RelV v u → ∃ as, Reads s.heap u d as ∧ sysModules ∉ as
  | .none, _, _, _, h, r => by
    cases h
    cases r
    exact ⟨_, Reads.none, by simp⟩
  | .bool b, _, _, _, h, r => by
    cases h
    cases r
    exact ⟨_, Reads.bool b, by simp⟩
  | .int i, _, _, _, h, r => by
    cases h
    obtain ⟨t, rfl⟩ := r
    exact ⟨_, Reads.int i t, by simp⟩
  | .str x, _, _, _, h, r => by
    cases h
    obtain ⟨t, rfl⟩ := r
    exact ⟨_, Reads.str x t, by simp⟩
  | .list ds, _, _, n, h, r => by
    cases h with
    | @lst a xs _ hx ha =>
      cases r
      simp only [datB] at n
      obtain ⟨its, rv, ⟨o, k, ho, hc, _, hd⟩, _⟩ := I.list (SqL.of hx)
      obtain ⟨as, hr, hn⟩ := RpAll.readsA hs I ds _ its n ha rv
      refine ⟨_, Reads.list ho hc hd hr, fun z => ?_⟩
      rcases List.mem_cons.mp z with z | z
      · obtain ⟨o2, h2⟩ := hs
        have := (I.bs _ _ (I.mod.kin _ _ h2)).2
        rw [z, hx] at this; cases this
      · exact hn z
  | .tuple ds, _, _, n, h, r => by
    cases h with
    | tup hx ha =>
      cases r
      simp only [datB] at n
      obtain ⟨its, rv, ⟨o, ho, hc, k, hd⟩, _⟩ := I.tuple hx
      obtain ⟨as, hr, hn⟩ := RpAll.readsA hs I ds _ its n ha rv
      exact ⟨_, Reads.tuple ho hc hd hr, hn⟩
  | .dict kvs, v, _, n, h, r => by
    simp only [datB, Bool.or_eq_true, List.isEmpty_iff] at n
    rcases n with n | n
    · subst n
      obtain ⟨a, rfl, h0⟩ := h.dict0
      cases r
      exact reads_dict0 I h0
    · obtain ⟨i, j, m, rfl, _⟩ := dict1_inv n
      obtain ⟨a, rfl, h0⟩ := h.dict1
      cases r
      exact reads_dict1 hs I h0
theorem RpAll.readsA (hs : KSys X.K) (I : Inv X pins σ H s) : ∀ (ds : List PyData) (vs : List V) (us : List Value), datA ds = true → RpAll X.K H vs ds → Vals vs us → ∃ as, ReadsAll s.heap us ds as ∧ sysModules ∉ as
  | [], _, _, _, h, r => by
    cases h
    cases r
    exact ⟨_, ReadsAll.nil, by simp⟩
  | d :: ds, _, _, n, h, r => by
    simp only [datA, Bool.and_eq_true] at n
    cases h with
    | cons h1 h2 =>
      cases r with
      | cons r1 r2 =>
        obtain ⟨as, q1, n1⟩ := Rp.readsA hs I d _ _ n.1 h1 r1
        obtain ⟨bs, q2, n2⟩ := RpAll.readsA hs I ds _ _ n.2 h2 r2
        exact ⟨_, ReadsAll.cons q1 q2, fun z => (List.mem_append.mp z).elim n1 n2⟩
end
end
section
variable {X : Cx} {Γ : List VD} {B B1 B2 B' : Bag} {a b e : Expr} {es : List Expr} {d : VD} {y : PyData} {pos p pos' : Pos}
theorem ej_dict0 : EJ X Γ B (.Dict [] [] pos) (.da (.dict [])) B := fun g σ H0 H Ev O Q q =>
  ⟨_, pe_dnewK, fun n hn => by
    obtain ⟨t, o⟩ := laid (o := .dK []) O hn
    exact q _ _ _ t o (Rp.dct upd_same)⟩
theorem call_reprA {k : Nat} (g : Gx k X) (hs : KSys X.K) : CallR X (.builtin "repr") (fun xs H Q => ∃ x d, xs = [x] ∧ Rp X.K H x d ∧ OkA d ∧ Q (.str d.shown) H) := by
  intro pins s σ H xs us Q I rr h
  obtain ⟨x, d, rfl, hd, S, q⟩ := h
  obtain ⟨u, rfl, rx⟩ := vals1 rr
  have big : ∀ (a : Addr), u = .ref a → wpAny (model X.prog X.w) X.A (call (.builtin "repr") [u]) (EP X pins σ Q) X.xe s := fun a e => by
    subst e
    obtain ⟨as, rd, na⟩ := hd.readsA hs I d x (.ref a) S.any rx
    have hu := g.rm.un
    refine repr_of_reads' rd (any_show d S.any).1 (fun _ => na) g.gd (by have := S.dp; omega) (fun _ _ e => e) (fun h' u tk kp => ?_) S.len
    exact ⟨.str d.shown, H, I.kept (t' := tk) kp, ⟨u, rfl⟩, q⟩
  cases hd with
  | non => cases rx; exact PySem.P.repr_of_none ⟨.str _, H, I.tok _, ⟨_, rfl⟩, q⟩
  | bl b => cases rx; exact PySem.P.repr_of_bool ⟨.str _, H, I.tok _, ⟨_, rfl⟩, q⟩
  | int i =>
    obtain ⟨t, rfl⟩ := rx
    have hz := S.any
    simp only [datB, decide_eq_true_eq] at hz
    exact PySem.P.repr_of_int hz ⟨.str _, H, I.tok _, ⟨_, rfl⟩, q⟩
  | str x =>
    obtain ⟨t, rfl⟩ := rx
    exact PySem.P.repr_of_str ⟨.str _, H, I.tok _, ⟨_, rfl⟩, q⟩ S.len
  | lst _ _ => cases rx; exact big _ rfl
  | tup _ _ => cases rx; exact big _ rfl
  | dct _ => cases rx; exact big _ rfl
  | dctT _ _ => cases rx; exact big _ rfl
theorem ej_reprA {k : Nat} (g : Gx k X) (hs' : KSys X.K) (hm : X.mg "repr" = none) (ha : EJ X Γ B a (.da y) B1) (S : OkA y)
    (hs : starEach [a] X.env = [(false, eval a X.env)] := by rfl) (hg : Gl X "repr" := by rfl) : EJ X Γ B (.Call (.Name "repr" p) [a] [] pos) (.da (.str y.shown)) B1 :=
  ej_callB (call_reprA g hs') hm (aj_cons ha aj_nil hs) (fun gh vs H0 H O r Q q => by
    obtain ⟨v, rfl, h⟩ := rv1 r
    have h : Rp X.K H0 v y := h
    exact ⟨v, y, rfl, h.mono O.ex, S, q _ _ _ To.refl O (Rp.str _)⟩) (hg := hg) (he := hs)
def rTupE (K : PySem.W.Frag) (f : Bool → Bool) : R2 := fun x y H Q => ∃ ds : List PyData, Rp K H x (.tuple ds) ∧ Rp K H y (.tuple []) ∧ Q (.bl (f ds.isEmpty)) H
theorem tup_two {pins : List (Addr × Obj)} {σ : L2.St} {s : Shared} {H : Hp} {ds : List PyData} {x y : V} {v u : Value} (I : Inv X pins σ H s) (hx : Rp X.K H x (.tuple ds)) (hy : Rp X.K H y (.tuple [])) (rx : RelV x v) (ry : RelV y u) :
    ∃ (l b : Addr) (its : Array Value), v = .ref l ∧ u = .ref b ∧ s.heap.IsTuple l its ∧ s.heap.IsTuple b #[] ∧ its.size = ds.length := by
  cases hx with
  | tup h r =>
    cases hy with
    | tup h' r' =>
      cases r'
      cases rx
      cases ry
      obtain ⟨its, rv, p, _⟩ := I.tuple h
      obtain ⟨its', rv', p', _⟩ := I.tuple h'
      cases rv'
      exact ⟨_, _, its.toArray, rfl, rfl, p, p', by have := rv.length; have := r.length; simp; omega⟩
theorem op_neE (hu : X.A.units + 64 < cLine) : OpR X (compareOp .NotEq) (rTupE X.K not) := by
  intro pins s σ H x y v u Q I rx ry h
  obtain ⟨ds, hx, hy, q⟩ := h
  obtain ⟨l, b, its, rfl, rfl, h1, h2, hl⟩ := tup_two I hx hy rx ry
  have k := SeqAt.RcNeAt.tuples (A := X.A) (e := fun _ => true) h1 h2 (by omega) (fun j _ z => absurd z (by simp))
  refine k X.prog X.w _ _ ⟨.bl _, H, I, rfl, ?_⟩
  have e : (!((List.range (min its.size (#[] : Array Value).size)).all (fun _ => true) && its.size == (#[] : Array Value).size)) = !ds.isEmpty := by
    rw [hl]
    cases ds <;> simp
  rw [e]; exact q
theorem tj_neE {ds : List PyData} (hu : X.A.units + 64 < cLine) (ha : EJ X Γ B a (.da (.tuple ds)) B1) (hb : EJ X Γ B1 b (.da (.tuple [])) B2) : TJ X Γ B (.Compare a [.NotEq] [b] pos) (!ds.isEmpty) B2 :=
  tj_cmp ha hb (op_neE hu) (nomark _) fun g v w H0 H O r1 r2 Q q => ⟨ds, Rp.mono O.ex r1, Rp.mono O.ex r2, q H0 H To.refl O⟩
end
end Gd
set_option exponentiation.threshold 20000
namespace Lw
open PySem PySem.Spec PyProof.Rows L2 Gd Fr
open scoped Rat
def intB : PyData → Bool
  | .int _ => true
  | _ => false
inductive R_anyint : Rel
  | mk (d : PyData) (B : Bag) : R_anyint [.da d] B (.bool (intB d)) B
inductive Pap where
  | in_
  | part (i : Nat) (x y : Pap)
def Pap.d : Pap → PyData
  | .in_ => .tuple [.str "in"]
  | .part i x y => .tuple [.str "part", .int (i : Nat), x.d, y.d]
section
variable {b p : Nat} {low high : Int} {L : List Stp} {s : Sp}
end
structure An (D W : Nat) (d : PyData) : Prop where
  any : datB d = true
  dp : d.depth ≤ D
  bk : d.bulk ≤ W
structure AnA (D W : Nat) (ds : List PyData) : Prop where
  any : datA ds = true
  dp : PyData.depthAll ds ≤ D
  bk : PyData.bulkAll ds ≤ W
theorem An.le {D W D' W' : Nat} {d : PyData} (h : An D W d) (e : D ≤ D') (f : W ≤ W') : An D' W' d := ⟨h.any, Nat.le_trans h.dp e, Nat.le_trans h.bk f⟩
theorem AnA.le {D W D' W' : Nat} {d : List PyData} (h : AnA D W d) (e : D ≤ D') (f : W ≤ W') : AnA D' W' d := ⟨h.any, Nat.le_trans h.dp e, Nat.le_trans h.bk f⟩
theorem An.ok {D W : Nat} {d : PyData} (h : An D W d) (e : D ≤ 60 := by decide) (f : W ≤ 5000 := by decide) : OkA d := ⟨h.any, Nat.le_trans h.dp e, Nat.le_trans h.bk f⟩
theorem AnA.nil {D W : Nat} : AnA D W [] := ⟨by simp only [datA], by simp only [PyData.depthAll]; omega, by simp only [PyData.bulkAll]; omega⟩
theorem AnA.cons {D W W' : Nat} {d : PyData} {ds : List PyData} (h : An D W d) (r : AnA D W' ds) : AnA D (W + 1 + W') (d :: ds) :=
  ⟨by simp only [datA, Bool.and_eq_true]; exact ⟨h.any, r.any⟩, by have := h.dp; have := r.dp; simp only [PyData.depthAll]; omega, by have := h.bk; have := r.bk; simp only [PyData.bulkAll]; omega⟩
theorem An.tup {D W : Nat} {ds : List PyData} (h : AnA D W ds) : An (D + 1) W (.tuple ds) := ⟨by simp only [datB]; exact h.any, by have := h.dp; simp only [PyData.depth]; omega, by have := h.bk; simp only [PyData.bulk]; omega⟩
theorem An.lst {D W : Nat} {ds : List PyData} (h : AnA D W ds) : An (D + 1) W (.list ds) := ⟨by simp only [datB]; exact h.any, by have := h.dp; simp only [PyData.depth]; omega, by have := h.bk; simp only [PyData.bulk]; omega⟩
theorem An.tup_inv {D W : Nat} {ds : List PyData} (h : An (D + 1) W (.tuple ds)) : AnA D W ds := ⟨by have := h.any; simp only [datB] at this; exact this, by have := h.dp; simp only [PyData.depth] at this; omega, by have := h.bk; simp only [PyData.bulk] at this; omega⟩
theorem AnA.mem {D W : Nat} : ∀ {ds : List PyData}, AnA D W ds → ∀ d ∈ ds, An D W d
  | [], _, _, h => by cases h
  | x :: xs, h, d, hd => by
    have a := h.any
    have b := h.dp
    have c := h.bk
    simp only [datA, Bool.and_eq_true] at a
    simp only [PyData.depthAll] at b
    simp only [PyData.bulkAll] at c
    rcases List.mem_cons.mp hd with rfl | hd
    · exact ⟨a.1, by omega, by omega⟩
    · exact AnA.mem (ds := xs) ⟨a.2, by omega, by omega⟩ d hd
theorem AnA.app {D W W' : Nat} : ∀ {ds es : List PyData}, AnA D W ds → AnA D W' es → AnA D (W + W') (ds ++ es)
  | [], es, _, h => h.le (Nat.le_refl _) (by omega)
  | x :: xs, es, h, h' => by
    have a := h.any
    have b := h.dp
    have c := h.bk
    simp only [datA, Bool.and_eq_true] at a
    simp only [PyData.depthAll] at b
    simp only [PyData.bulkAll] at c
    have r := AnA.app (D := D) (W := W - (x.bulk + 1)) (ds := xs) ⟨a.2, by omega, by omega⟩ h'
    rw [List.cons_append]
    exact (AnA.cons (D := D) (W := x.bulk) ⟨a.1, by omega, Nat.le_refl _⟩ r).le (Nat.le_refl _) (by omega)
theorem AnA.sub {D W : Nat} : ∀ {ds es : List PyData}, es.Sublist ds → AnA D W ds → AnA D W es := by
  intro ds es h
  induction h generalizing W with
  | slnil => exact fun h => h
  | @cons l1 l2 a h ih =>
    intro k
    have a1 := k.any
    have b1 := k.dp
    have c1 := k.bk
    simp only [datA, Bool.and_eq_true] at a1
    simp only [PyData.depthAll] at b1
    simp only [PyData.bulkAll] at c1
    exact ih ⟨a1.2, by omega, by omega⟩
  | @cons_cons l1 l2 a h ih =>
    intro k
    have a1 := k.any
    have b1 := k.dp
    have c1 := k.bk
    simp only [datA, Bool.and_eq_true] at a1
    simp only [PyData.depthAll] at b1
    simp only [PyData.bulkAll] at c1
    have r := ih (W := W - (a.bulk + 1)) ⟨a1.2, by omega, by omega⟩
    exact (AnA.cons (D := D) (W := a.bulk) ⟨a1.1, by omega, Nat.le_refl _⟩ r).le (Nat.le_refl _) (by omega)
theorem AnA.rev {D W : Nat} : ∀ {ds : List PyData}, AnA D W ds → AnA D W ds.reverse
  | [], h => h
  | x :: xs, h => by
    have a := h.any
    have b := h.dp
    have c := h.bk
    simp only [datA, Bool.and_eq_true] at a
    simp only [PyData.depthAll] at b
    simp only [PyData.bulkAll] at c
    rw [List.reverse_cons]
    have r := AnA.rev (D := D) (W := W - (x.bulk + 1)) (ds := xs) ⟨a.2, by omega, by omega⟩
    exact (r.app (AnA.cons (D := D) (W := x.bulk) ⟨a.1, by omega, Nat.le_refl _⟩ (AnA.nil (W := 0)))).le (Nat.le_refl _) (by omega)
theorem An.int {D W n : Nat} {i : Int} (h : Bd n i) (e : n ≤ 1920 := by decide) : An D W (.int i) := ⟨by
  have := nice_int h e
  simp only [nice] at this
  simp only [datB]; exact this, by simp only [PyData.depth]; omega, by simp only [PyData.bulk]; omega⟩
theorem An.bool {D W : Nat} {i : Bool} : An D W (.bool i) := ⟨by simp only [datB], by simp only [PyData.depth]; omega, by simp only [PyData.bulk]; omega⟩
theorem An.none {D W : Nat} : An D W .none := ⟨by simp only [datB], by simp only [PyData.depth]; omega, by simp only [PyData.bulk]; omega⟩
theorem An.dict {D W : Nat} (h : 1 ≤ D) : An D W (.dict []) := ⟨by simp only [datB, List.isEmpty_nil, Bool.true_or], by simp only [PyData.depth, PyData.depthKv]; omega, by simp only [PyData.bulk, PyData.bulkKv]; omega⟩
theorem An.str {D W : Nat} {x : Str} (h : PyData.strOk x = true) (h2 : x.cps.size ≤ W) : An D W (.str x) := ⟨by simp only [datB]; exact h, by simp only [PyData.depth]; omega, by simp only [PyData.bulk]; exact h2⟩
end Lw
namespace Lw
open PySem PySem.Spec PyProof.Rows L2 Gd Fr
def Pap.dep : Pap → Nat
  | .in_ => 1
  | .part _ x y => max x.dep y.dep + 1
theorem Pap.sh : ∀ (x : Pap) {n : Nat}, x.dep ≤ n → Sh n x.d
  | .in_, n + 1, _ => Sh.tup fun e he => by rw [List.mem_singleton.mp he]; exact (Sh.str (x := "in") (by decide +kernel)).mono (Nat.zero_le _)
  | .in_, 0, h => by simp only [Pap.dep] at h; omega
  | .part i x y, 0, h => by simp only [Pap.dep] at h; omega
  | .part i x y, n + 1, h => by
    simp only [Pap.dep] at h
    refine Sh.tup fun e he => ?_
    simp only [List.mem_cons, List.not_mem_nil, or_false] at he
    rcases he with rfl | rfl | rfl | rfl
    · exact (Sh.str (x := "part") (by decide +kernel)).mono (Nat.zero_le _)
    · exact (Sh.int _).mono (Nat.zero_le _)
    · exact Pap.sh x (by omega)
    · exact Pap.sh y (by omega)
end Lw
namespace Lw
open PySem PySem.Spec PyProof.Rows L2 Gd Fr
section
variable {b p : Nat} {low high : Int} {L : List Stp} {s : Sp}
end
end Lw
namespace HT
open PySem PySem.Spec PyProof.Rows L2
section
variable {prog : Program} {w : World} {A : Around} {E : Value → Shared → Prop} {s : Shared}
theorem fm_congr {α β : Type} {f g : α → Option β} : ∀ (l : List α), (∀ x ∈ l, f x = g x) → l.filterMap f = l.filterMap g
  | [], _ => rfl
  | x :: l, h => by
    have e := h x List.mem_cons_self
    have r := fm_congr l fun y hy => h y (List.mem_cons_of_mem _ hy)
    simp only [List.filterMap_cons, e, r]
theorem rev_pick (xs : List Value) : ((List.range xs.length).filterMap fun (k : Nat) => xs.toArray[(((xs.length : Nat) : Int) - 1 + (k : Int) * (-1)).toNat]?) = xs.reverse := by
  have e : ((List.range xs.length).filterMap fun (k : Nat) => xs.toArray[(((xs.length : Nat) : Int) - 1 + (k : Int) * (-1)).toNat]?) = (List.range xs.length).filterMap fun k => xs.reverse[k]? := by
    apply fm_congr
    intro k hk
    have hk := List.mem_range.mp hk
    rw [List.getElem?_reverse hk]
    rw [show (((xs.length : Nat) : Int) - 1 + (k : Int) * (-1)).toNat = xs.length - 1 - k by omega]
    simp
  rw [e]
  have h : ∀ (l : List Value), ((List.range l.length).filterMap fun k => l[k]?) = l := fun l => by
    have g : ∀ n, n ≤ l.length → ((List.range n).filterMap fun k => l[k]?) = l.take n := by
      intro n
      induction n with
      | zero => intro _; rfl
      | succ n ih =>
        intro hn
        rw [List.range_succ, List.filterMap_append, ih (by omega), List.take_add_one, List.getElem?_eq_getElem (by omega)]
        simp [List.getElem?_eq_getElem (show n < l.length by omega)]
    rw [g _ (Nat.le_refl _), List.take_length]
  have := h xs.reverse
  rw [List.length_reverse] at this
  exact this
theorem getItem_tuple_rev {t sl : Addr} {xs : List Value} {vl vu vs : Value} {Q : Value → Shared → Prop} (ht : IsTup s.heap t xs.toArray) (hs : s.heap.IsSliceOf sl vl vu vs) (pl : IsPart vl none) (pu : IsPart vu none) (ps : IsPart vs (some (-1)))
    (h : Q (.ref s.heap.objs.size) { s with heap := s.heap.push { cls := .type "tuple", data := .seq xs.reverse.toArray } })
    (hsz : xs.length ≤ sizeLine) : wpAny (model prog w) A (getItem (.ref t) (.ref sl)) Q E s := by
  have htake : sizeOk (.seq xs.reverse.toArray) := by
    show xs.reverse.toArray.size ≤ sizeLine
    rw [List.size_toArray, List.length_reverse]; exact hsz
  obtain ⟨os, hos, hcs, hds⟩ := id hs
  have hTs : s.TypeIs (.ref sl) "slice" := ⟨os, hos, hcs⟩
  unfold getItem
  try with_reducible refine wpAny_holding ?_
  first | refine wpAny_bind (wpAny_pure ?_) | skip
  refine wpAny_bind (wpAny_sequenceKey ht.typeIs (by decide) ?_)
  refine wpAny_bind (wpAny_callSpecial?_slot (name := Str.ofString "__getitem__") ht.typeIs PyProof.Rows.slot_tuple_getitem
    (wpAny_call_entry PyProof.Rows.slot_tuple_getitem ht.typeIs entry_tuple_getitem ?_ (args_tuple_getitem _ _)))
  show wpAny _ _ (Builtin.Tuple.tupleItemsOf (.ref t) >>= _) _ _ s
  refine wpAny_bind (tupleItemsOf_ ht ?_)
  refine wpAny_bind (wpAny_typeOf hTs ?_)
  rw [if_pos (by decide)]
  have hn : (xs.toArray.size : Int) = ((xs.length : Nat) : Int) := by rw [List.size_toArray]
  refine wpAny_bind (m := Builtin.Slice.sliceApplied (.ref sl) (pure (xs.toArray.size : Int))) ?_
  unfold Builtin.Slice.sliceApplied Builtin.Slice.sliceFields
  refine wpAny_bind (wpAny_bind (wpAny_field hos hds (x := vl) rfl (wpAny_bind (wpAny_field hos hds (x := vu) rfl (wpAny_bind (wpAny_field hos hds (x := vs) rfl (wpAny_pure ?_)))))))
  refine wpAny_bind (slicePart_ ps ?_)
  show wpAny _ _ (if ((-1 : Int) == 0) = true then _ else _) _ _ s
  rw [if_neg (by decide)]
  refine wpAny_bind (slicePart_ pl (wpAny_bind (slicePart_ pu (wpAny_bind (wpAny_pure ?_)))))
  have ea : Builtin.Slice.sliceAdjust none none (-1) (xs.toArray.size : Int) = (((xs.length : Nat) : Int) - 1, -1) := by
    unfold Builtin.Slice.sliceAdjust
    rw [hn]; rfl
  show wpAny _ _ (match Builtin.Slice.sliceAdjust none none (-1) (xs.toArray.size : Int) with | (lo, hi) => pure (lo, (-1 : Int), Builtin.Slice.slicePlaces lo hi (-1))) _ _ s
  rw [ea]
  have ep : Builtin.Slice.slicePlaces (((xs.length : Nat) : Int) - 1) (-1) (-1) = xs.length := by
    unfold Builtin.Slice.slicePlaces
    rw [if_neg (by decide)]
    split
    · rw [show -(-1 : Int) = 1 from rfl, Int.ediv_one]; omega
    · omega
  show wpAny _ _ (pure ((((xs.length : Nat) : Int) - 1), (-1 : Int), Builtin.Slice.slicePlaces (((xs.length : Nat) : Int) - 1) (-1) (-1))) _ _ s
  rw [ep]
  refine wpAny_pure ?_
  have hno : ¬ ((((xs.length : Nat) : Int) - 1 == 0 && (-1 : Int) == 1 && xs.length == xs.toArray.size) = true) := by
    rw [show ((-1 : Int) == 1) = false from rfl, Bool.and_false, Bool.false_and]; decide
  show wpAny _ _ (if (((xs.length : Nat) : Int) - 1 == 0 && (-1 : Int) == 1 && xs.length == xs.toArray.size) = true then _ else _) _ _ s
  rw [if_neg hno, rev_pick]
  first
    | exact wpAny_bind (m := Builtin.Tuple.tupleExact _) (wpAny_newObj_type (wpAny_pure ⟨_, rfl, wpAny_pure h⟩) htake)
    | exact wpAny_bind (m := Builtin.Tuple.tupleExact _) (wpAny_newObj_type (wpAny_bind (wpAny_pure (wpAny_pure ⟨_, rfl, wpAny_pure h⟩))) htake)
    | exact wpAny_bind (wpAny_bind (m := Builtin.Tuple.tupleExact _) (wpAny_newObj_type (wpAny_pure (wpAny_pure ⟨_, rfl, wpAny_pure h⟩)) htake))
    | exact wpAny_bind (wpAny_bind (m := Builtin.Tuple.tupleExact _) (wpAny_newObj_type (wpAny_pure ⟨_, rfl, wpAny_pure h⟩) htake))
end
end HT
namespace Gd
open PySem PySem.Spec PyProof.Rows L2
def tRevT (K : PySem.W.Frag) (te : TE) : TE := fun σ H Q => te σ H fun x H1 => ∃ a xs, x = .ref a ∧ SqT K H1 a xs ∧ ∀ p, H1 p = none → Q (.ref p) (upd H1 p (.tup xs.reverse))
theorem pe_revT {X : Cx} {e : Expr} {te : TE} {k : Nat} {p1 p2 p3 pos : Pos} (he : PE X e te) : PE X (.Subscript e (.Slice none none (some (.UnaryOp .USub (.Constant (.int 1) k p1) p2)) p3) pos) (tRevT X.K te) := by
  refine ⟨fun pins s σ H Q I h => ?_⟩
  refine Subscript_ (thn (he.run pins s σ H _ I h) fun v s1 ⟨x, H1, I1, r1, q1⟩ => ?_)
  obtain ⟨a, xs, ex, hx, q⟩ := q1
  subst ex
  cases r1
  have hst : PO X (some (.UnaryOp .USub (.Constant (.int 1) k p1) p2)) (tPart (tUn (rU fun i => .int (-i)) (tC (.int 1)))) := po_some (pe_un un_neg pe_int)
  refine wpAny_Slice (thn (po_none.run pins s1 σ H1 (fun o H2 => o = none ∧ H2 = H1) I1 ⟨rfl, rfl⟩) fun vl s2 ⟨l, H2, I2, pl, el, e2⟩ => ?_)
  subst el e2
  refine thn (po_none.run pins s2 σ H2 (fun o H3 => o = none ∧ H3 = H2) I2 ⟨rfl, rfl⟩) fun vu s3 ⟨u, H3, I3, pu, eu, e3⟩ => ?_
  subst eu e3
  refine thn (hst.run pins s3 σ H3 (fun o H4 => o = some (-1) ∧ H4 = H3) I3 ⟨1, rfl, -1, rfl, rfl, rfl⟩) fun vs s4 ⟨o, H4, I4, ps, eo, e4⟩ => ?_
  subst eo e4
  have I5 : Inv X pins σ H4 { s4 with heap := s4.heap.push { cls := .type "slice", data := .fields #[vl, vu, vs] } } := I4.kept (t' := s4.toks) fun b ob q => Heap.get?_push_of_some _ q
  obtain ⟨its, r, ht, hz⟩ := I5.tuple hx
  have hlen := r.length
  show wpAny (model X.prog X.w) X.A (subscriptTail e (.Slice none none (some (.UnaryOp .USub (.Constant (.int 1) k p1) p2)) p3) (.ref a) (.ref s4.heap.objs.size)) (EP X pins σ Q) X.xe { s4 with heap := s4.heap.push { cls := .type "slice", data := .fields #[vl, vu, vs] } }
  refine tail_any (ops := [.ref a, .ref s4.heap.objs.size]) ht.typeIs (PyProof.Rows.slot_tuple_getitem.lookup) ?_ (by with_unfolding_all rfl)
  refine HT.getItem_tuple_rev ht (Heap.IsSliceOf.new _ vl vu vs) pl pu ps ?_ (by omega)
  refine ⟨.ref _, _, I5.laid (t' := s4.toks) (o := .tup xs.reverse) (fun b ob q => Heap.get?_push_of_some _ q) (Nat.le_refl _) ?_, rfl, q _ (I5.hok.fresh (Nat.le_refl _))⟩
  exact ⟨by rw [List.length_reverse]; exact hz, _, r.reverse, IsTup.new _ _⟩
section
variable {X : Cx} {Γ : List VD} {B B1 : Bag} {a b e : Expr} {k : Nat} {p p1 p2 p3 pos : Pos} {ds : List PyData} {Φ : Post}
theorem RpAll.rev {K : PySem.W.Frag} {H : Hp} : ∀ {vs : List V} {ds : List PyData}, RpAll K H vs ds → RpAll K H vs.reverse ds.reverse
  | _, _, .nil => .nil
  | _, _, .cons h r => by
    rw [List.reverse_cons, List.reverse_cons]
    exact (RpAll.rev r).app (.cons h .nil)
theorem ej_revT (ha : EJ X Γ B e (.da (.tuple ds)) B1) : EJ X Γ B (.Subscript e (.Slice none none (some (.UnaryOp .USub (.Constant (.int 1) k p1) p2)) p3) pos) (.da (.tuple ds.reverse)) B1 := fun g σ H0 H Ev O Q q =>
  ⟨_, pe_revT (we e), ha g σ H0 H Ev O _ fun v H1 H' t o r => by
    obtain ⟨a, xs, rfl, hx, rs⟩ := rvT r
    refine ⟨a, xs, rfl, seqT o.ex hx, fun n hn => ?_⟩
    obtain ⟨t2, o2⟩ := laid (o := .tup xs.reverse) o hn
    exact q _ _ _ (t.trans t2) o2 (Rp.tup (SqT.of upd_same) (rs.rev.mono t2.ex))⟩
theorem ej_strI {i : Int} (hi : i.natAbs.log2 < 1920) (hm : X.mg "str" = none) (ha : EJ X Γ B a (.da (.int i)) B1) (hs : starEach [a] X.env = [(false, eval a X.env)] := by rfl) (hg : Gl X "str" := by rfl) :
    EJ X Γ B (.Call (.Name "str" p) [a] [] pos) (.da (.str (toString i))) B1 :=
  ej_callTy call_str_int hm (aj_cons ha aj_nil hs) (fun g vs H0 H O r Q q => by
    obtain ⟨v, rfl, h⟩ := rv1 r
    exact ⟨i, by rw [rvI h], hi, q _ _ _ To.refl O (Rp.str _)⟩) (hg := hg) (he := hs)
theorem ex_catT (ha : EX X Γ B a fun y B1 => EX X Γ B1 b fun z B2 => ∃ ds es, y = .tuple ds ∧ z = .tuple es ∧ ds.length + es.length ≤ 1000 ∧ Φ (.tuple (ds ++ es)) B2) : EX X Γ B (.BinOp a .Add b pos) Φ :=
  ex_bin (ex_mono ha fun y B1 hy => ex_mono hy fun z B2 hz => by
    obtain ⟨ds, es, rfl, rfl, hl, hΦ⟩ := hz
    refine ⟨.tuple (ds ++ es), hΦ, fun g v w H0 H O r1 r2 Q q => ?_⟩
    obtain ⟨p, xs, rfl, hx, rs⟩ := rvT (g := g) r1
    obtain ⟨p', ys, rfl, hys, rs2⟩ := rvT (g := g) r2
    refine ⟨p, p', xs, ys, rfl, rfl, seqT O.ex hx, seqT O.ex hys, by rw [rs.length, rs2.length]; exact Nat.le_of_lt (small1000 hl), fun e => ?_, fun _ e => ?_, fun _ _ n hn => ?_⟩
    · subst e
      cases rs
      exact q _ _ _ To.refl O (Rp.tup hys rs2)
    · subst e
      cases rs2
      rw [List.append_nil] at q
      exact q _ _ _ To.refl O (Rp.tup hx rs)
    · obtain ⟨t2, o2⟩ := laid (o := .tup (xs ++ ys)) O hn
      exact q _ _ _ t2 o2 (Rp.tup (SqT.of upd_same) ((rs.app rs2).mono t2.ex))) (fun _ _ h1 h2 => pe_op op_catA h1 h2)
end
end Gd
set_option exponentiation.threshold 20000
namespace Lw
open PySem PySem.Spec PyProof.Rows L2 Gd Fr
open scoped Rat
def Post_an (D W : Nat) (_ : List VD) (_ : Bag) (r : PyData) (B' : Bag) : Prop := Bok B' ∧ An D W r
def Pap.ok : Pap → Prop
  | .in_ => True
  | .part i x y => i ≤ 8 ∧ x.ok ∧ y.ok
theorem an_str {D W : Nat} {x : Str} (h : PyData.strOk x = true := by decide +kernel) (h2 : x.cps.size ≤ W := by decide) : An D W (.str x) := An.str h h2
theorem small_int {D W : Nat} {i : Int} (h0 : -100 ≤ i) (h1 : i ≤ 100) : An D W (.int i) := An.int (n := 8) (by unfold Bd; omega)
theorem an_part {n W : Nat} {i x y : PyData} (hi : An n 0 i) (hx : An n W x) (hy : An n W y) : An (n + 1) (8 + 2 * W) (.tuple [.str "part", i, x, y]) :=
  (An.tup (AnA.cons (an_str (D := n) (W := 4)) (AnA.cons hi (AnA.cons hx (AnA.cons hy (AnA.nil (W := 0))))))).le (Nat.le_refl _) (by omega)
def wp : Nat → Nat
  | 0 => 0
  | n + 1 => 8 + 2 * wp n
theorem Pap.an : ∀ (x : Pap) {n : Nat}, x.dep ≤ n → x.ok → An n (wp n) x.d
  | .in_, 0, h, _ => by simp only [Pap.dep] at h; omega
  | .in_, n + 1, _, _ => (An.tup (AnA.cons (an_str (D := n) (W := 2)) (AnA.nil (W := 0)))).le (Nat.le_refl _) (by simp only [wp]; omega)
  | .part i x y, 0, h, _ => by simp only [Pap.dep] at h; omega
  | .part i x y, n + 1, h, ok => by
    simp only [Pap.dep] at h
    obtain ⟨h1, h2, h3⟩ := ok
    exact an_part (small_int (by omega) (by omega)) (x.an (by omega) h2) (y.an (by omega) h3)
inductive PB : Nat → PyData → Prop
  | none (n : Nat) : PB n .none
  | inw (n : Nat) : PB n (.str "in")
  | partw (n : Nat) : PB n (.str "part")
  | int (n i : Nat) (h : i ≤ 8) : PB n (.int (i : Nat))
  | pap (n : Nat) (x : Pap) (h : x.dep ≤ n) (ok : x.ok) : PB n x.d
theorem Pap.items (x : Pap) {n : Nat} (h : x.dep ≤ n + 1) (ok : x.ok) : ∃ ds : List PyData, x.d = .tuple ds ∧ ds ≠ [] ∧ ds.length ≤ 4 ∧ AnA n (wp (n + 1)) ds ∧ ∀ d ∈ ds, PB n d := by
  have a := x.an h ok
  cases x with
  | in_ => exact ⟨_, rfl, by simp, by simp, a.tup_inv, fun d hd => by rw [List.mem_singleton.mp hd]; exact .inw n⟩
  | part i x y =>
    obtain ⟨h1, h2, h3⟩ := ok
    simp only [Pap.dep] at h
    refine ⟨_, rfl, by simp, by simp, a.tup_inv, fun d hd => ?_⟩
    simp only [List.mem_cons, List.not_mem_nil, or_false] at hd
    rcases hd with rfl | rfl | rfl | rfl
    · exact .partw n
    · exact .int n i h1
    · exact .pap n x (by omega) h2
    · exact .pap n y (by omega) h3
theorem pick_in (ds : List PyData) (B : Bag) (h : 0 < ds.length) : pick ds B ∈ ds := by
  obtain ⟨x, hx, e⟩ := pick_ex ds id B h
  rw [List.map_id] at e
  rw [e]; exact hx
theorem len_bulk : ∀ ds : List PyData, ds.length ≤ PyData.bulkAll ds
  | [] => Nat.zero_le _
  | x :: xs => by
    have := len_bulk xs
    simp only [PyData.bulkAll, List.length_cons]; omega
end Lw
namespace Lw
open PySem PySem.Spec PyProof.Rows L2 Gd Fr
def wq : Nat → Nat
  | 0 => 0
  | n + 1 => 24 + 2 * wq n
theorem Pap.nd : ∀ (x : Pap) {n : Nat}, x.dep ≤ n → x.ok → Nd (n + 1) (wq n) x.d
  | .in_, 0, h, _ => by simp only [Pap.dep] at h; omega
  | .in_, n + 1, _, _ => (Nd.tuple (NdA.cons ((Nd.str (x := "in") (by decide +kernel) (by decide)).le (D' := n + 1) (W' := 20) (by omega) (Nat.le_refl _)) (NdA.nil (W := 0)))).le (Nat.le_refl _) (by simp only [wq]; omega)
  | .part i x y, 0, h, _ => by simp only [Pap.dep] at h; omega
  | .part i x y, n + 1, h, ok => by
    simp only [Pap.dep] at h
    obtain ⟨h1, h2, h3⟩ := ok
    have a := x.nd (n := n) (by omega) h2
    have b := y.nd (n := n) (by omega) h3
    exact (Nd.tuple (NdA.cons ((Nd.str (x := "part") (by decide +kernel) (by decide)).le (D' := n + 1) (W' := 20) (by omega) (Nat.le_refl _)) (NdA.cons ((Nd.int (n := 8) (i := (i : Nat)) (by unfold Bd; omega)).le (D' := n + 1) (W' := 0) (by omega) (Nat.le_refl _)) (NdA.cons a (NdA.cons b (NdA.nil (W := 0))))))).le (Nat.le_refl _) (by simp only [wq]; omega)
end Lw
namespace Gd
open PySem PySem.Spec PyProof.Rows L2
def tDisp1 (i j n : Int) : TE := fun _ H Q => ∀ p b, H p = none → H b = none → b ≠ p → Q (.ref p) (upd (upd H b (.tup [V.int i, V.int j])) p (.dT [([.inl i, .inl j], V.int n)]))
section
variable {X : Cx} {Γ : List VD} {B B1 B2 B3 B' : Bag} {a b e : Expr} {es : List Expr} {d : VD} {y : PyData} {pos p pos' p1 p2 p3 p4 : Pos}
theorem upd_swap {H : Hp} {a b : Addr} {x y z : HO} (h : b ≠ a) : upd (upd (upd H a x) b y) a z = upd (upd H b y) a z := by
  funext c
  by_cases h1 : c = a
  · subst h1; rw [upd_same, upd_same]
  · rw [upd_ne h1, upd_ne h1]
    by_cases h2 : c = b
    · subst h2; rw [upd_same, upd_same]
    · rw [upd_ne h2, upd_ne h2, upd_ne h1]
theorem pe_disp1 {i j n : Int} {k1 k2 k3 k4} (hu : X.A.units + 64 < cLine) : PE X (.Dict [some (.Tuple [.Constant (.int i) k1 p1, .Constant (.int j) k2 p2] k3 p3)] [.Constant (.int n) k4 p4] pos) (tDisp1 i j n) := by
  have hk : PE X (.Tuple [.Constant (.int i) k1 p1, .Constant (.int j) k2 p2] k3 p3) _ := pe_tup (pa_cons pe_int (pa_cons pe_int pa_nil))
  have hv : PE X (.Constant (.int n) k4 p4) _ := pe_int
  have hps := pps_cons (pos := pos) hk hv pps_nil
  refine ⟨fun pins s σ H Q I q => ?_⟩
  have hn := I.hok.fresh (Nat.le_refl s.heap.objs.size)
  have I1 := I.laid (a := s.heap.objs.size) (o := .dT []) (h' := s.heap.push { cls := .type "dict", data := .dict #[] }) (t' := s.toks) (fun _ _ q => Heap.get?_push_of_some _ q) (Nat.le_refl _) (dt_empty s.heap I.big)
  rw [arm_eval_Dict, zip_pairTrees _ _ _ _ rfl rfl, dictDisplay_pairs _ (by simp [pairTrees]) (by simp [pairTrees])]
  refine wpAny_bind (wpAny_standAt (wpAny_bind (wpAny_subDictH (knd := tupleKind (mixKind X.prog X.w)) (Q := fun d s' => wpAny (model X.prog X.w) X.A (pure (Value.ref d)) _ _ s') (show X.A.units < cLine by omega) (by simp [pairTrees]) ?_)))
  refine thn (hps.run pins _ σ _ (fun ps H2 => ∃ b, b ≠ s.heap.objs.size ∧ ps = [(.ref b, .int n)] ∧ H2 = upd (upd H s.heap.objs.size (.dT [])) b (.tup [V.int i, V.int j]) ∧ H b = none) I1 ?_) fun vs s2 ⟨ps, H2, I2, rel, b, hb, e1, e2, e3⟩ => ?_
  · refine ⟨Nat.le_of_ble_eq_true rfl, fun b hb => ?_⟩
    have hb2 : b ≠ s.heap.objs.size := fun z => by subst z; rw [upd_same] at hb; cases hb
    refine ⟨b, hb2, rfl, rfl, ?_⟩
    rw [upd_ne hb2] at hb; exact hb
  · subst e1 e2
    cases rel with
    | @cons x w xs ws r0 rel =>
      cases rel
      obtain ⟨wk, wv⟩ := w
      obtain ⟨r1, r2⟩ := r0
      cases (show wk = Value.ref b from r1)
      have eb : (upd (upd H s.heap.objs.size (.dT [])) b (.tup [V.int i, V.int j])) b = some (.tup (([.inl i, .inl j] : List Key).map kV)) := upd_same
      have ed : (upd (upd H s.heap.objs.size (.dT [])) b (.tup [V.int i, V.int j])) s.heap.objs.size = some (.dT []) := by rw [upd_ne (Ne.symm hb)]; exact upd_same
      obtain ⟨z, hd, xs0, rel0, dd⟩ := dt_of I2.hok ed
      cases rel0
      refine ⟨[([.inl i, .inl j], b, wv)], ⟨rfl, rfl, key_of I2.hok eb, True.intro⟩, dd, fun h' tk dd' hs => wpAny_pure ⟨.ref s.heap.objs.size, upd (upd (upd H s.heap.objs.size (.dT [])) b (.tup [V.int i, V.int j])) s.heap.objs.size (.dT [([.inl i, .inl j], V.int n)]), ?_, rfl, ?_⟩⟩
      · obtain ⟨o, es, ep, hq, h2, h3, h4, _, h5⟩ := dd'
        refine d_write I2 (by rw [ed]; exact True.intro) hs ⟨o, hq⟩ ⟨Nat.le_of_ble_eq_true rfl, hd, _, .cons ⟨rfl, ?_, r2⟩ .nil, o, es, ep, hq, h2, h3, h4, h5⟩
        rw [upd_ne hb]; exact eb
      · rw [upd_swap hb]
        exact q _ b hn e3 hb
theorem ej_disp1 {i j n : Int} {k1 k2 k3 k4} (hu : X.A.units + 64 < cLine) : EJ X Γ B (.Dict [some (.Tuple [.Constant (.int i) k1 p1, .Constant (.int j) k2 p2] k3 p3)] [.Constant (.int n) k4 p4] pos) (.da (.dict [(.tuple [.int i, .int j], .int n)])) B := fun g σ H0 H Ev O Q q =>
  ⟨_, pe_disp1 hu, fun p b hp hb hne => by
    obtain ⟨t1, o1⟩ := laid (o := .tup [V.int i, V.int j]) O hb
    have hp1 : (upd H b (.tup [V.int i, V.int j])) p = none := by rw [upd_ne (Ne.symm hne)]; exact hp
    obtain ⟨t2, o2⟩ := laid (o := .dT [([.inl i, .inl j], V.int n)]) o1 hp1
    refine q _ _ _ (t1.trans t2) o2 ?_
    exact Rp.dctT [([i, j], n)] upd_same⟩
theorem ej_upper {x : Str} {apos : Pos} (ha : EJ X Γ B a (.da (.str x)) B1) (hl : x.length ≤ 5592405)
    (hbase : attributeBase a "upper" X.env (eval a X.env) = eval a X.env := by rfl) (hline : (apos.endLine == pos.line) = true := by rfl) : EJ X Γ B (.Call (.Attribute a "upper" apos) [] [] pos) (.da (.str (Txt.upper x))) B1 :=
  ej_un (r := fun v H Q => (∃ a, v = .str a) ∧ ∃ a, v = .str a ∧ ([] : List V) = [] ∧ a.length ≤ 5592405 ∧ Q (.str (Txt.upper a)) H) ha (fun t h => pe_upper h hbase hline) fun g v H0 H O r Q q => by
    obtain rfl := rvS r
    exact ⟨⟨_, rfl⟩, _, rfl, rfl, hl, q _ _ _ To.refl O (Rp.str _)⟩
theorem ej_catS {x z : Str} (ha : EJ X Γ B a (.da (.str x)) B1) (hb : EJ X Γ B1 b (.da (.str z)) B2) (hl : x.length + z.length ≤ sizeLine) : EJ X Γ B (.BinOp a .Add b pos) (.da (.str (x ++ z))) B2 :=
  ej_bin ha hb (fun t u p q => pe_op op_add_str p q) fun g v w H0 H O r1 r2 Q q => by
    obtain rfl := rvS r1
    obtain rfl := rvS r2
    exact ⟨_, _, rfl, rfl, hl, q _ _ _ To.refl O (Rp.str _)⟩
theorem ej_sliceS {lo hi : Option Expr} {l u : Option Int} {p2 : Pos} {x : Str} (ha : EJ X Γ B a (.da (.str x)) B1) (hl : OJ X Γ B1 lo l B2) (hu : OJ X Γ B2 hi u B3) (hz : x.length ≤ sizeLine) :
    EJ X Γ B (.Subscript a (.Slice lo hi none p2) pos) (.da (.str (cutS x l u))) B3 :=
  ej_slice sl_str ha hl hu fun g v H0 H O r Q q => by
    obtain rfl := rvS r
    exact ⟨_, rfl, hz, q _ _ _ To.refl O (Rp.str _)⟩
def rLstE (K : PySem.W.Frag) (f : Bool → Bool) : R2 := fun x y H Q => ∃ ds : List PyData, Rp K H x (.list ds) ∧ Rp K H y (.list []) ∧ Q (.bl (f ds.isEmpty)) H
theorem lst_two {pins : List (Addr × Obj)} {σ : L2.St} {s : Shared} {H : Hp} {ds : List PyData} {x y : V} {v u : Value} (I : Inv X pins σ H s) (hx : Rp X.K H x (.list ds)) (hy : Rp X.K H y (.list [])) (rx : RelV x v) (ry : RelV y u) :
    ∃ (l b : Addr) (its : Array Value), v = .ref l ∧ u = .ref b ∧ s.heap.IsList l its ∧ s.heap.IsList b #[] ∧ its.size = ds.length := by
  cases hx with
  | lst h r =>
    cases hy with
    | lst h' r' =>
      cases r'
      cases rx
      cases ry
      obtain ⟨its, rv, ⟨o, k, ho, hc, hn, hd⟩, _⟩ := I.list (SqL.of h)
      obtain ⟨its', rv', ⟨o', k', ho', hc', hn', hd'⟩, _⟩ := I.list (SqL.of h')
      cases rv'
      exact ⟨_, _, its.toArray, rfl, rfl, ⟨o, ho, hc, k, hd⟩, ⟨o', ho', hc', k', hd'⟩, by have := rv.length; have := r.length; simp; omega⟩
theorem op_neLE (hu : X.A.units + 64 < cLine) : OpR X (compareOp .NotEq) (rLstE X.K not) := by
  intro pins s σ H x y v u Q I rx ry h
  obtain ⟨ds, hx, hy, q⟩ := h
  obtain ⟨l, b, its, rfl, rfl, h1, h2, hl⟩ := lst_two I hx hy rx ry
  cases ds with
  | nil =>
    have hz : its.size = (#[] : Array Value).size := hl
    have k := SeqAt.RcNeAt.lists (A := X.A) (e := fun _ => true) h1 h2 hz (by omega) (fun j j1 z => absurd z (Nat.not_lt_zero j))
    refine k X.prog X.w _ _ ⟨.bl _, H, I, rfl, ?_⟩
    rw [show its.size = 0 from hl]
    exact q
  | cons d0 ds =>
    have hz : (its.size != (#[] : Array Value).size) = true := by
      rw [hl]; rfl
    have k := SeqAt.RcNeAt.lists_lengths (A := X.A) h1 h2 hz (by omega)
    exact k X.prog X.w _ _ ⟨.bl _, H, I, rfl, q⟩
theorem tj_neLE {ds : List PyData} (hu : X.A.units + 64 < cLine) (ha : EJ X Γ B a (.da (.list ds)) B1) (hb : EJ X Γ B1 b (.da (.list [])) B2) : TJ X Γ B (.Compare a [.NotEq] [b] pos) (!ds.isEmpty) B2 :=
  tj_cmp ha hb (op_neLE hu) (nomark _) fun g v w H0 H O r1 r2 Q q => ⟨ds, Rp.mono O.ex r1, Rp.mono O.ex r2, q H0 H To.refl O⟩
end
end Gd
set_option exponentiation.threshold 20000
namespace Lw
open PySem PySem.Spec PyProof.Rows L2 Gd Fr
open scoped Rat
def odd2a : List PyData := [.none, .bool true, .bool false, .int 0, .int 1, .int 2, .int (-1), .int ((10 ^ 199 : Nat) : Int), .int (-(10 ^ 39)), .str "", .str "num", .str "up", .tuple [], .list [], .dict [], .tuple [.int 0, .int 1]]
def odd2b : List PyData := [.tuple [.int 1, .int 0], .tuple [.int 2, .int 4]]
def odd2c : List PyData := [.tuple [.str "nan"], .tuple [.str "inf", .int 0], .tuple [.str "inf", .bool true], .tuple [.str "inf"], .tuple [.str "nan", .int 0], .tuple [.str "num", .int 0, .int 0, .int 0], .tuple [.str "none"], .list [.str "even"]]
def odd2d : List PyData := [.dict [(.tuple [.int 0, .int 1], .int 0)], .tuple [.tuple []], .tuple [.none, .none], .tuple [.str "told", .tuple [.int 1, .int 2]], .tuple [.str "inexact"], .str "even\n"]
def odd2 : List PyData := odd2a ++ odd2b ++ odd2c ++ odd2d
theorem odd2_an : ∀ d ∈ odd2, An 3 20 d := by
  have key : odd2.all (fun d => datB d && (decide (d.depth ≤ 3) && decide (d.bulk ≤ 20))) = true := by decide +kernel
  intro d hd
  have := List.all_eq_true.mp key d hd
  rw [Bool.and_eq_true, Bool.and_eq_true, decide_eq_true_eq, decide_eq_true_eq] at this
  exact ⟨this.1, this.2.1, this.2.2⟩
def bendW : List Str := ["num", "inf", "nan", "span", "none", "inexact", "tiny", "over", "invalid", "by", "even", "up", "down", "zero", "away", "input", "told", "if", "add", "take", "times", "root", "fused", "size", "least", "greatest", "opposite", "few", "near", ""]
theorem bendW_facts : ∀ x ∈ bendW, (PyData.strOk x = true ∧ x.cps.size ≤ 10) ∧ (PyData.strOk (x ++ "s") = true ∧ (x ++ "s").cps.size ≤ 20) ∧ (PyData.strOk (cutS x none (some (-1))) = true ∧ (cutS x none (some (-1))).cps.size ≤ 20) ∧ (PyData.strOk (Txt.upper x) = true ∧ (Txt.upper x).cps.size ≤ 20) := by
  have key : bendW.all (fun x => (PyData.strOk x && decide (x.cps.size ≤ 10)) && ((PyData.strOk (x ++ "s") && decide ((x ++ "s").cps.size ≤ 20)) && ((PyData.strOk (cutS x none (some (-1))) && decide ((cutS x none (some (-1))).cps.size ≤ 20)) && (PyData.strOk (Txt.upper x) && decide ((Txt.upper x).cps.size ≤ 20))))) = true := by decide +kernel
  intro x hx
  have := List.all_eq_true.mp key x hx
  simp only [Bool.and_eq_true, decide_eq_true_eq] at this
  exact this
mutual
def bendB : PyData → Bool
  | .int i => decide (i.natAbs.log2 < 1900)
  | .str x => bendW.contains x
  | .tuple xs => bendA xs
  | d => datB d
def bendA : List PyData → Bool
  | [] => true
  | x :: xs => bendB x && bendA xs
end
mutual
theorem bendB_dat : ∀ d : PyData, bendB d = true → datB d = true
  | .none, h => by simp only [datB]
  | .bool _, h => by simp only [datB]
  | .int i, h => by simp only [bendB, decide_eq_true_eq] at h; simp only [datB, decide_eq_true_eq]; omega
  | .str x, h => by
    simp only [bendB] at h
    simp only [datB]
    exact (bendW_facts x (by simpa using h)).1.1
  | .list xs, h => by simpa only [bendB] using h
  | .tuple xs, h => by
    simp only [bendB] at h
    simp only [datB]
    exact bendA_dat xs h
  | .dict xs, h => by simpa only [bendB] using h
theorem bendA_dat : ∀ ds : List PyData, bendA ds = true → datA ds = true
  | [], _ => by simp only [datA]
  | x :: xs, h => by
    simp only [bendA, Bool.and_eq_true] at h
    simp only [datA, Bool.and_eq_true]
    exact ⟨bendB_dat x h.1, bendA_dat xs h.2⟩
end
theorem bendA_mem : ∀ {ds : List PyData}, bendA ds = true → ∀ d ∈ ds, bendB d = true
  | x :: xs, h, d, hd => by
    simp only [bendA, Bool.and_eq_true] at h
    rcases List.mem_cons.mp hd with rfl | hd
    · exact h.1
    · exact bendA_mem h.2 d hd
structure BN (n W : Nat) (d : PyData) : Prop where
  ok : bendB d = true
  dp : d.depth ≤ n
  bk : d.bulk ≤ W
theorem BN.an {n W : Nat} {d : PyData} (h : BN n W d) : An n W d := ⟨bendB_dat d h.ok, h.dp, h.bk⟩
theorem BN.tup {n W : Nat} {ds : List PyData} (h : BN n W (.tuple ds)) : (ds ≠ [] → 1 ≤ n) ∧ AnA (n - 1) W ds ∧ ∀ d ∈ ds, BN (n - 1) W d := by
  have h1 := h.ok
  have h2 := h.dp
  have h3 := h.bk
  simp only [bendB] at h1
  simp only [PyData.depth] at h2
  simp only [PyData.bulk] at h3
  have a : AnA (n - 1) W ds := ⟨bendA_dat ds h1, by omega, h3⟩
  exact ⟨fun _ => by omega, a, fun d hd => ⟨bendA_mem h1 d hd, (a.mem d hd).dp, (a.mem d hd).bk⟩⟩
theorem cutP_sub (ds : List PyData) (l u : Option Int) : (cutP ds l u).Sublist ds := (List.take_sublist _ _).trans (List.drop_sublist _ _)
theorem cutP_len (ds : List PyData) (l u : Option Int) : (cutP ds l u).length ≤ ds.length := (cutP_sub ds l u).length_le
theorem strOk_of (s : String) : PyData.strOk (Str.ofString s) = true := by
  rw [Str.ofString_eq_toList]
  unfold PyData.strOk
  rw [Array.all_eq_true']
  intro c hc
  simp only [List.mem_toArray, List.mem_map] at hc
  obtain ⟨ch, _, rfl⟩ := hc
  have h := ch.valid
  simp only [UInt32.isValidChar, Nat.isValidChar] at h
  have e : ch.toNat = ch.val.toNat := rfl
  exact decide_eq_true (by omega)
theorem AnA.cutmid {D D' W W' : Nat} {ds : List PyData} (h : AnA D W ds) (j : Nat) {r : PyData} (hr : An D' W' r) (e : D ≤ D' := by omega) : AnA D' (W + 1 + W') (ds.take j ++ [r] ++ ds.drop (j + 1)) := by
  have h := h.le e (Nat.le_refl W)
  have key : ∀ (j : Nat) (ds : List PyData) {W : Nat}, AnA D' W ds → AnA D' (W + 1 + W') (ds.take j ++ [r] ++ ds.drop (j + 1)) := by
    intro j
    induction j with
    | zero =>
      intro ds W h
      rw [List.take_zero, List.nil_append]
      exact ((AnA.cons hr (AnA.nil (W := 0))).app (h.sub (List.drop_sublist _ ds))).le (Nat.le_refl _) (by omega)
    | succ j ih =>
      intro ds W h
      cases ds with
      | nil => exact (AnA.cons hr (AnA.nil (W := 0))).le (Nat.le_refl _) (by omega)
      | cons x xs =>
        have a := h.any
        have b := h.dp
        have c := h.bk
        simp only [datA, Bool.and_eq_true] at a
        simp only [PyData.depthAll] at b
        simp only [PyData.bulkAll] at c
        have k := ih xs (W := W - (x.bulk + 1)) ⟨a.2, by omega, by omega⟩
        simp only [List.take_succ_cons, List.drop_succ_cons, List.cons_append]
        exact (AnA.cons (D := D') (W := x.bulk) ⟨a.1, by omega, Nat.le_refl _⟩ k).le (Nat.le_refl _) (by omega)
  exact key j ds h
theorem bd_add1 {n : Nat} {i j : Int} (h : Bd n i) (k : Bd n j) : Bd (n + 1) (i + j) := by
  unfold Bd at *
  have e := Int.natAbs_add_le i j
  have : 2 ^ (n + 1) = 2 ^ n * 2 := Nat.pow_succ ..
  omega
theorem bd_sub1 {n : Nat} {i j : Int} (h : Bd n i) (k : Bd n j) : Bd (n + 1) (i - j) := by
  rw [Int.sub_eq_add_neg]; exact bd_add1 h k.neg
def LenOk : PyData → Prop
  | .tuple ds => ds.length ≤ 1000
  | _ => True
theorem An.len {D W : Nat} {d : PyData} (h : An D W d) (e : W ≤ 1000) : LenOk d := by
  cases d with
  | tuple ds =>
    have := h.bk
    simp only [PyData.bulk] at this
    exact Nat.le_trans (len_bulk ds) (by omega)
  | _ => trivial
def Post_anL (D W : Nat) (_ : List VD) (_ : Bag) (r : PyData) (B' : Bag) : Prop := Bok B' ∧ An D W r ∧ LenOk r
end Lw
set_option exponentiation.threshold 20000
namespace Lw
open PySem PySem.Spec PyProof.Rows L2 Gd Fr
open scoped Rat
section
variable {X : Cx} {Γ : List VD} {B B1 B2 : Bag} {a b : Expr} {pos : Pos}
end
theorem intB_inv {d : PyData} (h : intB d = true) : ∃ i, d = .int i := by cases d <;> first | exact ⟨_, rfl⟩ | cases h
end Lw
namespace Lw
open PySem PySem.Spec PyProof.Rows L2 Gd Fr
def Post_bn (D W : Nat) (_ : List VD) (_ : Bag) (r : PyData) (B' : Bag) : Prop := Bok B' ∧ BN D W r
theorem BN.le {n W n' W' : Nat} {d : PyData} (h : BN n W d) (e : n ≤ n') (f : W ≤ W') : BN n' W' d := ⟨h.ok, Nat.le_trans h.dp e, Nat.le_trans h.bk f⟩
structure BNA (n W : Nat) (ds : List PyData) : Prop where
  ok : bendA ds = true
  dp : PyData.depthAll ds ≤ n
  bk : PyData.bulkAll ds ≤ W
theorem BNA.nil {n W : Nat} : BNA n W [] := ⟨by simp only [bendA], by simp only [PyData.depthAll]; omega, by simp only [PyData.bulkAll]; omega⟩
theorem BNA.cons {n W W' : Nat} {d : PyData} {ds : List PyData} (h : BN n W d) (r : BNA n W' ds) : BNA n (W + 1 + W') (d :: ds) :=
  ⟨by simp only [bendA, Bool.and_eq_true]; exact ⟨h.ok, r.ok⟩, by have := h.dp; have := r.dp; simp only [PyData.depthAll]; omega, by have := h.bk; have := r.bk; simp only [PyData.bulkAll]; omega⟩
theorem BNA.of {n W : Nat} : ∀ {ds : List PyData} {k : Nat}, (∀ d ∈ ds, BN n W d) → ds.length ≤ k → BNA n (k * (W + 1)) ds
  | [], k, _, _ => BNA.nil
  | d :: ds, 0, _, h => by simp at h
  | d :: ds, k + 1, h, hl => by
    have a := BNA.cons (h d List.mem_cons_self) (BNA.of (k := k) (fun x hx => h x (List.mem_cons_of_mem _ hx)) (by simpa using hl))
    have e : (k + 1) * (W + 1) = k * (W + 1) + (W + 1) := Nat.succ_mul _ _
    exact ⟨a.ok, a.dp, by have := a.bk; omega⟩
theorem BN.mktup {n W : Nat} {ds : List PyData} (h : BNA n W ds) : BN (n + 1) W (.tuple ds) := ⟨by simp only [bendB]; exact h.ok, by have := h.dp; simp only [PyData.depth]; omega, by have := h.bk; simp only [PyData.bulk]; omega⟩
theorem BN.mklst {n W : Nat} {ds : List PyData} (h : BNA n W ds) : BN (n + 1) W (.list ds) := ⟨by simp only [bendB, datB]; exact bendA_dat ds h.ok, by have := h.dp; simp only [PyData.depth]; omega, by have := h.bk; simp only [PyData.bulk]; omega⟩
theorem BN.word {n W : Nat} {x : Str} (h : bendW.contains x = true := by decide +kernel) (h2 : x.cps.size ≤ W := by decide) : BN n W (.str x) := ⟨by simp only [bendB]; exact h, by simp only [PyData.depth]; omega, by simp only [PyData.bulk]; exact h2⟩
end Lw
namespace Gd
open PySem PySem.Spec PyProof.Rows L2
section
variable {X : Cx} {Γ : List VD} {B B1 B2 : Bag} {a b : Expr} {pos p p' : Pos}
def tupB : PyData → Bool
  | .tuple _ => true
  | _ => false
theorem tupB_inv {d : PyData} (h : tupB d = true) : ∃ ds, d = .tuple ds := by cases d <;> first | exact ⟨_, rfl⟩ | cases h
theorem ej_isT {y : PyData} (hm : X.mg "isinstance" = none) (hmT : X.mg "tuple" = none) (ha : EJ X Γ B a (.da y) B1) (hgT : Gl X "tuple" := by rfl)
    (hs : starEach [a, .Name "tuple" p'] X.env = (false, eval a X.env) :: starEach [.Name "tuple" p'] X.env := by rfl) (hs2 : starEach [.Name "tuple" p'] X.env = (false, eval (.Name "tuple" p') X.env) :: starEach [] X.env := by rfl)
    (hpl : (backTo pos (starEach [.Name "tuple" p'] X.env)).any (·.1) = false := by rfl) (hg : Gl X "isinstance" := by rfl) :
    EJ X Γ B (.Call (.Name "isinstance" p) [a, .Name "tuple" p'] [] pos) (.da (.bool (tupB y))) B1 := by
  cases y with
  | none => exact ej_isi (T := "tuple") (r := false) hm hmT ha rfl (by decide +kernel) (by decide +kernel) hgT (by decide) (by decide) hs hs2 hpl hg
  | bool i => exact ej_isi (T := "tuple") (r := false) hm hmT ha rfl (by decide +kernel) (by decide +kernel) hgT (by decide) (by decide) hs hs2 hpl hg
  | int i => exact ej_isi (T := "tuple") (r := false) hm hmT ha rfl (by decide +kernel) (by decide +kernel) hgT (by decide) (by decide) hs hs2 hpl hg
  | str i => exact ej_isi (T := "tuple") (r := false) hm hmT ha rfl (by decide +kernel) (by decide +kernel) hgT (by decide) (by decide) hs hs2 hpl hg
  | list i => exact ej_isi (T := "tuple") (r := false) hm hmT ha rfl (by decide +kernel) (by decide +kernel) hgT (by decide) (by decide) hs hs2 hpl hg
  | tuple i => exact ej_isi (T := "tuple") (r := true) hm hmT ha rfl (by decide +kernel) (by decide +kernel) hgT (by decide) (by decide) hs hs2 hpl hg
  | dict i => exact ej_isi (T := "tuple") (r := false) hm hmT ha rfl (by decide +kernel) (by decide +kernel) hgT (by decide) (by decide) hs hs2 hpl hg
end
end Gd
namespace Lw
open PySem PySem.Spec PyProof.Rows L2 Gd Fr
end Lw
namespace Gd
open PySem PySem.Spec PyProof.Rows L2 RZ
section
variable {X : Cx} {Γ : List VD} {B B1 B2 B' : Bag} {e a b c : Expr} {elt : Expr} {scope : Scope} {j : Nat} {x : Str} {px : Pos} {ds ys : List PyData} {pos pos' : Pos} {acc : List PyData}
theorem lc_turn2Y {j1 j2 : Nat} {g : Gh} {H1 H' : Hp} {A : Addr} {H'' H2 : Hp} {σ : L2.St} {v : V} {y1 y2 z : PyData} {Nx : Hp → Prop} (hj : j1 ≠ j2) (off : Off g A) (Ev : EnvD X.K g H1 σ Γ) (I : LcI X.K g H1 H' A acc B H2 H'') (r : Rp X.K H2 v (.tuple [y1, y2]))
    (hz : acc.length < 1000) (he : Blk X scope fun Y => EJ Y ((Γ.set j1 (.da y1)).set j2 (.da y2)) B elt (.da z) B)
    (k : ∀ H3 H3', LcI X.K g H1 H' A (acc ++ [z]) B H3 H3' → Nx H3') :
    gTup X.K 2 (gNames [j1, j2]) v (wipe σ [j1, j2]) H'' fun σ2 H2 => wipe σ2 [j1, j2] = wipe σ [j1, j2] ∧ tYes σ2 H2 fun b H3 => if b = true then WB X scope elt σ2 H3 fun y H4 => ∃ acc, H4 A = some (.lst acc) ∧ acc.length < sizeLine ∧ Nx (upd H4 A (.lst (acc ++ [y]))) else Nx H3 := by
  obtain ⟨p, xs, rfl, hxs, rs⟩ := rvT (g := g) (show Rv X.K g H2 v (.da (.tuple [y1, y2])) from r)
  cases rs with
  | cons r1 rs =>
    cases rs with
    | cons r2 rs =>
      cases rs
      refine ⟨p, _, rfl, seqT I.on.ex hxs, rfl, _, _, rfl, _, _, rfl, rfl, ?_⟩
      rw [wipe2 hj]
      refine ⟨wipe2w hj, ?_⟩
      unfold tYes
      refine iteT ?_
      intro s hH C cl fp
      have ev := ((Ev.mono I.to.ex).set (d := .da y1) j1 r1).set (d := .da y2) j2 r2
      refine he s hH C cl fp g _ H2 H'' ev I.on _ fun w H3 H3' t o rw' => ?_
      obtain ⟨zs, h1, h2, J⟩ := lcI_app off I t o rw'
      exact ⟨zs, h1, by rw [h2]; exact small1000 (Nat.le_of_lt hz), k _ _ J⟩
theorem lc_zipTS {K : PySem.W.Frag} {a b : Addr} {xs ys : List V} {g : TG} {tt : TT} {te : TE} {vs : List Nat} {σ : L2.St} {H1 : Hp} {D : Addr} {Qd : Hp → Prop} (hl : ys.length ≤ xs.length) (Pv : Nat → Hp → Prop) (h0 : Pv 0 (upd H1 D (.lst []))) (hq : ∀ i H, Pv i H → SqT K H a xs ∧ SqT K H b ys)
    (hs : ∀ i x y T H, xs[i]? = some x → ys[i]? = some y → Pv i H → H T = none → g (.ref T) (wipe σ vs) (upd H T (.tup [x, y])) fun σ2 H2 => wipe σ2 vs = wipe σ vs ∧ tt σ2 H2 fun b H3 =>
      if b = true then te σ2 H3 fun y H4 => ∃ acc, H4 D = some (.lst acc) ∧ acc.length < sizeLine ∧ Pv (i + 1) (upd H4 D (.lst (acc ++ [y]))) else Pv (i + 1) H3) (hd : ∀ H, Pv ys.length H → Qd H) :
    ∃ W : Nat → Nat → Hp → Prop, (∃ m, W 0 m (upd H1 D (.lst []))) ∧ ∀ i m H, W i m H →
      ((ItzT K a b).stop i H ∧ Qd H) ∨ ((ItzT K a b).go i H ∧ ∃ Nx : Hp → Prop, (∀ H', Nx H' → ∃ m', m' < m ∧ W (i + 1) m' H') ∧ ∀ x H', (ItzT K a b).yld i H x H' → g x (wipe σ vs) H' fun σ2 H2 => wipe σ2 vs = wipe σ vs ∧ tt σ2 H2 fun b H3 =>
        if b = true then te σ2 H3 fun y H4 => ∃ acc, H4 D = some (.lst acc) ∧ acc.length < sizeLine ∧ Nx (upd H4 D (.lst (acc ++ [y]))) else Nx H3) := by
  refine ⟨fun i m H => m = ys.length - i ∧ i ≤ ys.length ∧ Pv i H, ⟨ys.length, rfl, Nat.zero_le _, h0⟩, ?_⟩
  rintro i m H ⟨rfl, hi, p⟩
  obtain ⟨qx, qy⟩ := hq i H p
  by_cases hlt : i < ys.length
  · have hx : ys[i]? = some ys[i] := List.getElem?_eq_getElem hlt
    have hlt2 : i < xs.length := by omega
    have hy : xs[i]? = some xs[i] := List.getElem?_eq_getElem hlt2
    refine .inr ⟨⟨xs, ys, _, _, qx, qy, hy, hx⟩, fun H => Pv (i + 1) H, fun H' p' => ⟨ys.length - (i + 1), by omega, rfl, hlt, p'⟩, fun v H' y => ?_⟩
    obtain ⟨T, x', y', rfl, hT, rfl, f1, f2⟩ := y
    exact hs i x' y' T H (f1 xs qx) (f2 ys qy) p hT
  · have e : i = ys.length := by omega
    subst e
    exact .inl ⟨⟨xs, ys, qx, qy, Or.inr (Nat.le_refl _)⟩, hd H p⟩
theorem rj_lcZTS {j1 j2 : Nat} {ds es zs : List PyData} (hj : j1 ≠ j2) (ha : AJ X Γ B [a, b] [.da (.tuple ds), .da (.tuple es)] B1) (hl : es.length ≤ ds.length) (hzl : zs.length = es.length) (hz : es.length ≤ 1000)
    (he : ∀ (i : Nat) p q z, ds[i]? = some p → es[i]? = some q → zs[i]? = some z → Blk X scope fun Y => EJ Y ((Γ.set j1 (.da p)).set j2 (.da q)) B1 elt (.da z) B1) :
    RJ X Γ B (tLc (iZipA X.K (WA X [a, b])) (gTup X.K 2 (gNames [j1, j2])) tYes (WB X scope elt) [j1, j2]) (.da (.list zs)) B1 := fun g σ H0 H Ev O Q' q =>
  ha g σ H0 H Ev O _ fun vs H1 H' t o r => by
    obtain ⟨v, v', rfl, r1, r2⟩ := rv2 r
    obtain ⟨p1, xs, rfl, hxs, rs1⟩ := rvT r1
    obtain ⟨p2, ys, rfl, hys, rs2⟩ := rvT r2
    refine ⟨p1, p2, xs, ys, rfl, .inr ⟨seqT o.ex hxs, seqT o.ex hys, fun A hA => ?_⟩⟩
    obtain ⟨off, I0⟩ := lcI_start o hA
    refine lc_zipTS (xs := xs) (ys := ys) (by rw [rs1.length, rs2.length]; exact hl) (fun i H'' => ∃ H2, LcI X.K g H1 H' A (zs.take i) B1 H2 H'') ⟨_, I0⟩ ?_ ?_ ?_
    · rintro i H'' ⟨H2, I⟩
      exact ⟨seqT I.on.ex (seqT I.to.ex hxs), seqT I.on.ex (seqT I.to.ex hys)⟩
    · rintro i x y T H'' hx hy ⟨H2, I⟩ hT
      obtain ⟨d1, hd1, rd1⟩ := rs1.get hx
      obtain ⟨d2, hd2, rd2⟩ := rs2.get hy
      have hlt : i < es.length := (List.getElem?_eq_some_iff.mp hd2).1
      have hlz : i < zs.length := by omega
      have hzi : zs[i]? = some zs[i] := List.getElem?_eq_getElem hlz
      obtain ⟨t3, o3⟩ := laid (o := .tup [x, y]) I.on hT
      have I2 := lcI_step off I t3 o3
      have rr : Rp X.K (upd H2 T (.tup [x, y])) (.ref T) (.tuple [d1, d2]) := Rp.tup (SqT.of upd_same) (.cons ((rd1.mono I.to.ex).mono t3.ex) (.cons ((rd2.mono I.to.ex).mono t3.ex) .nil))
      refine lc_turn2Y hj off (Ev.mono t.ex) I2 rr (by rw [List.length_take]; omega) (he i d1 d2 zs[i] hd1 hd2 hzi) fun H3 H3' J => ⟨H3, ?_⟩
      rw [List.take_add_one, hzi]
      exact J
    · rintro H'' ⟨H2, I⟩
      rw [rs2.length, ← hzl, List.take_length] at I
      obtain ⟨H3, t3, o3, r3⟩ := lcI_end off t I
      exact q _ H3 H'' t3 o3 r3
theorem ej_lcZTS {j1 j2 : Nat} {x1 x2 : Str} {ts : List Expr} {kt : Nat} {d : VD} {pt pz pc : Pos} (nd : X.N.Nodup) (hc : X.calm = true) (hm : X.mg "zip" = none) (ok : BlkOk X.N X.env.scope scope [(x1, j1), (x2, j2)])
    (hg : ∀ (s : Shared) (H : Hp) (C : Addr) (cl : List (Str × Addr)) (fp : List Addr), PG (X.blk s H scope (compEnvC scope cl C X.env) fp) (.Tuple ts kt pt) (gTup X.K 2 (gNames [j1, j2])))
    (r : RJ X Γ B (tLc (iZipA X.K (WA X [a, b])) (gTup X.K 2 (gNames [j1, j2])) tYes (WB X scope elt) [j1, j2]) d B1)
    (hq : ∀ x, foldedSetIterable (.Call (.Name "zip" pz) [a, b] [] pc) X.env x = pure x := by intro _; rfl) (hst1 : starEach [a, b] X.env = (false, eval a X.env) :: starEach [b] X.env := by rfl) (hpl : (backTo pc (starEach [b] X.env)).any (·.1) = false := by rfl) (hgl : Gl X "zip" := by rfl) :
    EJ X Γ B (.ListComp elt [⟨.Tuple ts kt pt, .Call (.Name "zip" pz) [a, b] [] pc, [], 0⟩] scope pos) d B1 :=
  ej_of (pe_lc (own := [(x1, j1), (x2, j2)]) hc nd (pi_zipA hgl hm (wa [a, b]) hst1 hpl) ok hg (fun _ _ _ _ _ => pts_nil) (wb scope elt) hq) r
def ltS (x y : Str) : Bool := decide (x.cps.toList < y.cps.toList)
theorem ej_ltS {x y : Str} (ha : EJ X Γ B a (.da (.str x)) B1) (hb : EJ X Γ B1 b (.da (.str y)) B2) (hm : behindInMarks .Lt b = false := by rfl) : EJ X Γ B (.Compare a [.Lt] [b] pos) (.da (.bool (ltS x y))) B2 :=
  ej_bin ha hb (fun _ _ h1 h2 => pe_cmpR op_lt_str h1 h2 hm) fun g v w H0 H O r1 r2 Q q => by
    obtain rfl := rvS r1
    obtain rfl := rvS r2
    exact ⟨_, _, rfl, rfl, q _ _ _ To.refl O (Rp.bl _)⟩
end
end Gd
set_option exponentiation.threshold 20000
namespace Lw
open PySem PySem.Spec PyProof PyProof.Rows L2 Gd Fr
def flgW : List Str := ["by", "inexact", "invalid", "over", "tiny"]
def strB : PyData → Bool
  | .str _ => true
  | _ => false
def wB : PyData → Bool
  | .str x => flgW.any fun s => decide (s = x)
  | _ => false
def ltD : PyData → PyData → Bool
  | .str x, .str y => ltS x y
  | _, _ => false
def rise (ds : List PyData) : Bool := ((ds.zip (ds.drop 1)).map fun p => ltD p.1 p.2).all id
def jFlags : PyData → Bool
  | .tuple ds => ds.all wB && rise ds
  | _ => false
inductive R_flags : Rel
  | mk (d : PyData) (B : Bag) (hd : OkA d) (hl : LenOk d) : R_flags [.da d] B (.bool (jFlags d)) B
theorem strs_of : ∀ {ds : List PyData}, (∀ d ∈ ds, strB d = true) → ∃ ss : List Str, ds = ss.map .str
  | [], _ => ⟨[], rfl⟩
  | d :: ds, h => by
    obtain ⟨ss, e⟩ := strs_of (ds := ds) fun x hx => h x (List.mem_cons_of_mem _ hx)
    have h1 := h d List.mem_cons_self
    cases d with
    | str x => exact ⟨x :: ss, by rw [e]; rfl⟩
    | _ => cases h1
theorem ltS_irr (x : Str) : ltS x x = false := by
  unfold ltS
  exact decide_eq_false (List.lt_irrefl _)
theorem ltS_tr {x y z : Str} (h : ltS x y = true) (k : ltS y z = true) : ltS x z = true := by
  unfold ltS at *
  exact decide_eq_true (List.lt_trans (of_decide_eq_true h) (of_decide_eq_true k))
theorem rise_pw : ∀ {ss : List Str}, rise (ss.map .str) = true → ss.Pairwise fun x y => ltS x y = true
  | [], _ => .nil
  | [x], _ => by simp
  | x :: y :: r, h => by
    have e : rise ((x :: y :: r).map .str) = (ltS x y && rise ((y :: r).map .str)) := rfl
    rw [e, Bool.and_eq_true] at h
    have p := rise_pw (ss := y :: r) h.2
    refine List.Pairwise.cons (fun z hz => ?_) p
    rcases List.mem_cons.mp hz with rfl | hz
    · exact h.1
    · exact ltS_tr h.1 ((List.pairwise_cons.mp p).1 z hz)
theorem pw_rise : ∀ {ss : List Str}, (ss.Pairwise fun x y => ltS x y = true) → rise (ss.map .str) = true
  | [], _ => rfl
  | [x], _ => rfl
  | x :: y :: r, h => by
    have e : rise ((x :: y :: r).map .str) = (ltS x y && rise ((y :: r).map .str)) := rfl
    rw [e, Bool.and_eq_true]
    exact ⟨(List.pairwise_cons.mp h).1 y List.mem_cons_self, pw_rise (List.pairwise_cons.mp h).2⟩
theorem filt_eq : ∀ (W : List Str), (W.Pairwise fun x y => ltS x y = true) → ∀ ss : List Str, (ss.Pairwise fun x y => ltS x y = true) → (∀ x ∈ ss, x ∈ W) → ss = W.filter fun w => ss.any fun s => decide (s = w)
  | [], _, ss, _, h => by
    cases ss with
    | nil => rfl
    | cons x r => exact absurd (h x List.mem_cons_self) (by simp)
  | w :: W, hW, ss, hs, h => by
    have hw := (List.pairwise_cons.mp hW).1
    have hW2 := (List.pairwise_cons.mp hW).2
    by_cases c : w ∈ ss
    · cases ss with
      | nil => cases c
      | cons x r =>
        have hx := (List.pairwise_cons.mp hs).1
        have hs2 := (List.pairwise_cons.mp hs).2
        have e : x = w := by
          rcases List.mem_cons.mp c with e | c
          · exact e.symm
          · rcases List.mem_cons.mp (h x List.mem_cons_self) with e | hxW
            · exact e
            · have := ltS_tr (hw x hxW) (hx w c)
              rw [ltS_irr] at this; cases this
        subst e
        have hr : ∀ y ∈ r, y ∈ W := fun y hy => by
          rcases List.mem_cons.mp (h y (List.mem_cons_of_mem _ hy)) with e | k
          · subst e
            have := hx y hy
            rw [ltS_irr] at this; cases this
          · exact k
        have ih := filt_eq W hW2 r hs2 hr
        have e2 : W.filter (fun w => (x :: r).any fun s => decide (s = w)) = W.filter fun w => r.any fun s => decide (s = w) := by
          apply List.filter_congr
          intro y hy
          have : x ≠ y := fun e => by
            subst e
            have := hw x hy
            rw [ltS_irr] at this; cases this
          rw [List.any_cons, decide_eq_false this, Bool.false_or]
        rw [List.filter_cons, if_pos (by simp), e2, ← ih]
    · have hr : ∀ y ∈ ss, y ∈ W := fun y hy => by
        rcases List.mem_cons.mp (h y hy) with e | k
        · subst e; exact absurd hy c
        · exact k
      have ih := filt_eq W hW2 ss hs hr
      rw [List.filter_cons, if_neg (by
        intro z
        obtain ⟨s, hs, e⟩ := List.any_eq_true.mp z
        rw [of_decide_eq_true e] at hs
        exact c hs)]
      exact ih
theorem flgW_pw : flgW.Pairwise fun x y => ltS x y = true := by decide +kernel
theorem flags_eq (ss : List Str) : decide (ss = flgW.filter fun w => ss.any fun s => decide (s = w)) = ((ss.map PyData.str).all wB && rise (ss.map .str)) := by
  cases c : ((ss.map PyData.str).all wB && rise (ss.map .str)) with
  | true =>
    rw [Bool.and_eq_true] at c
    refine decide_eq_true (filt_eq flgW flgW_pw ss (rise_pw c.2) fun x hx => ?_)
    have := List.all_eq_true.mp c.1 (.str x) (List.mem_map.mpr ⟨x, hx, rfl⟩)
    obtain ⟨s, hs, e⟩ := List.any_eq_true.mp (show (flgW.any fun s => decide (s = x)) = true from this)
    rw [of_decide_eq_true e] at hs; exact hs
  | false =>
    refine decide_eq_false fun e => ?_
    have h1 : (ss.map PyData.str).all wB = true := by
      rw [List.all_eq_true]
      intro d hd
      obtain ⟨x, hx, rfl⟩ := List.mem_map.mp hd
      rw [e] at hx
      have hm := (List.mem_filter.mp hx).1
      exact List.any_eq_true.mpr ⟨x, hm, decide_eq_true rfl⟩
    have h2 : rise (ss.map .str) = true := by
      refine pw_rise ?_
      rw [e]
      exact flgW_pw.sublist List.filter_sublist
    rw [h1, h2] at c; cases c
theorem eqv_strs : ∀ (a b : List Str), PyData.eqvAll (a.map .str) (b.map .str) = decide (a = b)
  | [], [] => rfl
  | [], y :: b => by simp [PyData.eqvAll]
  | x :: a, [] => by simp [PyData.eqvAll]
  | x :: a, y :: b => by
    simp only [List.map_cons, PyData.eqvAll, PyData.eqv]
    rw [eqv_strs a b]
    by_cases h : x = y <;> by_cases k : a = b <;> simp [h, k]
theorem strs_okd {ss : List Str} (h : OkA (.tuple (ss.map .str))) : Okd (.list (ss.map .str)) := by
  have h1 := h.any
  have h2 := h.bulk
  simp only [datB] at h1
  simp only [PyData.bulk] at h2
  refine ⟨?_, ?_, by simp only [PyData.bulk]; exact h2⟩
  · simp only [nice]
    have : ∀ ss : List Str, datA (ss.map .str) = true → niceAll (ss.map .str) = true := fun ss => by
      induction ss with
      | nil => intro _; simp only [List.map_nil, niceAll]
      | cons x r ih =>
        intro h
        simp only [List.map_cons, datA, datB, Bool.and_eq_true] at h
        simp only [List.map_cons, niceAll, nice, Bool.and_eq_true]
        exact ⟨h.1, ih h.2⟩
    exact this ss h1
  · have h3 := h.dp
    simp only [PyData.depth] at h3 ⊢; exact h3
end Lw
namespace Lw
open PySem PySem.Spec PyProof PyProof.Rows L2 Gd Fr
end Lw
namespace Lw
open PySem PySem.Spec PyProof PyProof.Rows L2 Gd Fr
end Lw
namespace Lw
open PySem PySem.Spec PyProof PyProof.Rows L2 Gd Fr
theorem words_all : words flagAll = .tuple (flgW.map .str) := by rfl
end Lw
namespace Lw
open PySem PySem.Spec PyProof PyProof.Rows L2 Gd Fr
theorem wB_str {d : PyData} (h : wB d = true) : strB d = true := by cases d <;> first | rfl | cases h
theorem jFlags_no {ds : List PyData} (h : (!((ds.filter fun v => !strB v).map id).isEmpty) = true) : jFlags (.tuple ds) = false := by
  rw [List.map_id, Bool.not_eq_true'] at h
  have : ds.all wB = false := by
    cases e : ds.all wB with
    | false => rfl
    | true =>
      have : ds.filter (fun v => !strB v) = [] := by
        rw [List.filter_eq_nil_iff]
        intro x hx
        rw [wB_str (List.all_eq_true.mp e x hx)]; decide
      rw [this] at h; cases h
  show (ds.all wB && rise ds) = false
  rw [this]; rfl
theorem filt_strs {ds : List PyData} (h : (!((ds.filter fun v => !strB v).map id).isEmpty) = false) : ∀ d ∈ ds, strB d = true := by
  rw [List.map_id, Bool.not_eq_false', List.isEmpty_iff, List.filter_eq_nil_iff] at h
  intro d hd
  have := h d hd
  cases e : strB d with
  | true => rfl
  | false => rw [e] at this; exact absurd rfl this
theorem flg_shaped (f : Str → Bool) : SeqAt.shaped (.list ((flgW.filter f).map .str)) = true := by
  have h : ∀ d ∈ ((flgW.filter f).map PyData.str), nice d = true := by
    intro d hd
    obtain ⟨x, hx, rfl⟩ := List.mem_map.mp hd
    have := (List.mem_filter.mp hx).1
    have key : flgW.all (fun x => nice (.str x)) = true := by decide +kernel
    exact List.all_eq_true.mp key x this
  have hl : (flgW.filter f).length ≤ 5 := Nat.le_trans (List.length_filter_le f flgW) (by decide)
  have hd : ∀ ss : List Str, (∀ x ∈ ss, x ∈ flgW) → PyData.bulkAll (ss.map .str) ≤ 20 * ss.length ∧ niceAll (ss.map .str) = true ∧ PyData.depthAll (ss.map .str) = 0 := fun ss => by
    induction ss with
    | nil => intro _; exact ⟨by simp [PyData.bulkAll], by simp [niceAll], by simp [PyData.depthAll]⟩
    | cons x r ih =>
      intro h
      have key : flgW.all (fun x => nice (.str x) && decide (x.cps.size ≤ 10)) = true := by decide +kernel
      have k := List.all_eq_true.mp key x (h x List.mem_cons_self)
      rw [Bool.and_eq_true, decide_eq_true_eq] at k
      obtain ⟨a1, a2, a3⟩ := ih fun y hy => h y (List.mem_cons_of_mem _ hy)
      refine ⟨?_, ?_, ?_⟩
      · simp only [List.map_cons, PyData.bulkAll, PyData.bulk, List.length_cons]; have := k.2; omega
      · simp only [List.map_cons, niceAll, Bool.and_eq_true]; exact ⟨k.1, a2⟩
      · simp only [List.map_cons, PyData.depthAll, PyData.depth]; omega
  obtain ⟨b1, b2, b3⟩ := hd (flgW.filter f) fun x hx => (List.mem_filter.mp hx).1
  exact (show Okd (.list ((flgW.filter f).map .str)) from ⟨by simp only [nice]; exact b2, by simp only [PyData.depth]; omega, by simp only [PyData.bulk]; omega⟩).shaped
end Lw
namespace Lw
open PySem PySem.Spec PyProof PyProof.Rows L2 Gd Fr
theorem big_573 {i : Int} (h : i.natAbs.log2 < 1900) : i.natAbs < 10 ^ 573 :=
  Nat.lt_of_lt_of_le (lt_of_log2 h) (by decide +kernel)
theorem strI_an2 {D : Nat} {i : Int} (h : i.natAbs.log2 < 1900) : An D 580 (.str (toString i : Str)) := by
  refine An.str (strOk_of _) ?_
  have h1 := int_text_length_le10 (k := 573) (by decide) (big_573 h)
  have e : (Str.ofString (toString i)).cps.size = (toString i).length := PySem.ofString_length _
  rw [e]; omega
def Pre_bend2 (n : Nat) (Γ : List VD) (B : Bag) : Prop := ∃ d, Γ = [.bag, .da d] ∧ BN n 90 d ∧ Bok B
end Lw
set_option exponentiation.threshold 20000
namespace Lw
open PySem PySem.Spec PyProof PyProof.Rows L2 Gd Fr
def jFrac : PyData → Bool
  | .tuple [.int n, .int d] => decide (1 ≤ d) && decide (Nat.gcd n.natAbs d.natAbs = 1)
  | _ => false
def okFm (b p l h : Int) : Bool := decide ((2 ≤ b ∧ b ≤ 36 ∧ b % 2 = 0) ∧ (2 ≤ p ∧ p ≤ 120) ∧ (-1200 ≤ l ∧ l ≤ h ∧ h ≤ 1200))
def jForm : PyData → Bool
  | .tuple [.int b, .int p, .int l, .int h] => okFm b p l h
  | _ => false
def jWay : PyData → Bool
  | .str x => wayList.any fun s => decide (s = x)
  | _ => false
inductive R_anyB (f : PyData → Bool) : Rel
  | mk (d : PyData) (B : Bag) (hd : OkA d) (hl : LenOk d) : R_anyB f [.da d] B (.bool (f d)) B
theorem jFrac_int {x y : PyData} (h : (intB x && intB y) = false) : jFrac (.tuple [x, y]) = false := by
  unfold jFrac
  split
  · rename_i n d q
    injection q with q
    simp only [List.cons.injEq] at q
    obtain ⟨rfl, rfl, _⟩ := q
    cases h
  · rfl
theorem jForm_int {x y z u : PyData} (h : (intB x && (intB y && (intB z && intB u))) = false) : jForm (.tuple [x, y, z, u]) = false := by
  unfold jForm
  split
  · rename_i b p l hh q
    injection q with q
    simp only [List.cons.injEq] at q
    obtain ⟨rfl, rfl, rfl, rfl, _⟩ := q
    cases h
  · rfl
theorem jFrac_len {ds : List PyData} (c : ¬ ds.length = 2) : jFrac (.tuple ds) = false := by
  unfold jFrac
  split
  · rename_i n d q
    injection q with q
    subst q; exact absurd rfl c
  · rfl
theorem jForm_len {ds : List PyData} (c : ¬ ds.length = 4) : jForm (.tuple ds) = false := by
  unfold jForm
  split
  · rename_i n d e f q
    injection q with q
    subst q; exact absurd rfl c
  · rfl
end Lw
namespace Gd
open PySem PySem.Spec PyProof.Rows L2
section
variable {X : Cx} {Γ : List VD} {B B1 B2 : Bag} {a b : Expr} {pos : Pos}
theorem ej_inTL {x : Str} {ss : List Str} (ha : EJ X Γ B a (.da (.str x)) B1) (hb : EJ X Γ B1 b (.da (.list (ss.map .str))) B2) (hm : behindInMarks .In b = false := by rfl) :
    EJ X Γ B (.Compare a [.In] [b] pos) (.da (.bool (ss.any fun s => decide (s = x)))) B2 :=
  ej_bin ha hb (fun _ _ h1 h2 => pe_cmpR op_in_seq h1 h2 hm) fun g v w H0 H O r1 r2 Q q => by
    obtain ⟨p, xs, rfl, hx, rs⟩ := rvL r2
    rw [rvS r1]
    have e := rs.strs_of
    subst e
    refine ⟨p, _, rfl, .inl (SqL.of (O.ex _ _ hx)), rfl, ?_, ?_⟩
    · rw [List.all_map]; exact List.all_eq_true.mpr fun _ _ => rfl
    · rw [if_neg (by decide), inV_strs]; exact q _ _ _ To.refl O (Rp.bl _)
end
def tChain3 (r r' r'' : R2) (ta tb tc td : TE) : TE := fun σ H Q => ta σ H fun x H1 => tb σ H1 fun y H2 => r x y H2 fun z H3 => ∃ k, z = .bl k ∧
  (if k = true then tc σ H3 fun w' H4 => r' y w' H4 fun z2 H5 => ∃ k2, z2 = .bl k2 ∧ (if k2 = true then td σ H5 fun v' H6 => r'' w' v' H6 Q else Q (.bl false) H5) else Q (.bl false) H3)
section
variable {X : Cx} {Γ : List VD} {B B1 B2 : Bag} {a b c d : Expr} {pos : Pos} {ta tb tc td : TE}
theorem pe_chain3 {op op' op'' : CmpOp} {r r' r'' : R2} (ho : OpR X (compareOp op) r) (ho' : OpR X (compareOp op') r') (ho'' : OpR X (compareOp op'') r'') (ha : PE X a ta) (hb : PE X b tb) (hc : PE X c tc) (hd : PE X d td)
    (hm : lastMarks [op, op', op''] [b, c, d] = false := by with_unfolding_all rfl) : PE X (.Compare a [op, op', op''] [b, c, d] pos) (tChain3 r r' r'' ta tb tc td) := by
  refine ⟨fun pins s σ H Q I h => ?_⟩
  refine Compare_chain (thn (ha.run pins s σ H _ I h) fun v s1 ⟨x, H1, I1, r1, q1⟩ => chain_link (thn (hb.run pins s1 σ H1 _ I1 q1) fun u s2 ⟨y, H2, I2, r2, q2⟩ =>
    thn (ho pins s2 σ H2 x y v u _ I2 r1 r2 q2) fun d s3 ⟨z, H3, I3, r3, k, e, q3⟩ => ?_)) hm
  subst e
  cases r3
  refine wpAny_truthy_bool ?_
  cases k with
  | false => exact ite_ff ⟨.bl false, H3, I3, rfl, q3⟩
  | true =>
    refine ite_tt (chain_link (thn (hc.run pins s3 σ H3 _ I3 q3) fun w' s4 ⟨z', H4, I4, r4, q4⟩ => thn (ho' pins s4 σ H4 y z' u w' _ I4 r2 r4 q4) fun d' s5 ⟨z2, H5, I5, r5, k2, e2, q5⟩ => ?_))
    subst e2
    cases r5
    refine wpAny_truthy_bool ?_
    cases k2 with
    | false => exact ite_ff ⟨.bl false, H5, I5, rfl, q5⟩
    | true => exact ite_tt (chain_last (thn (hd.run pins s5 σ H5 _ I5 q5) fun w'' s6 ⟨z'', H6, I6, r6, q6⟩ => ho'' pins s6 σ H6 z' z'' w' w'' Q I6 r4 r6 q6))
theorem ej_chain3 {op op' op'' : CmpOp} {i j k l : Int} {z z' z'' : Int → Int → V} {x y u : Bool} (ha : EJ X Γ B a (.da (.int i)) B1) (hb : EJ X Γ B1 b (.da (.int j)) B1) (hc : EJ X Γ B1 c (.da (.int k)) B1) (hd : EJ X Γ B1 d (.da (.int l)) B1)
    (ho : OpR X (compareOp op) (rI0 z)) (ho' : OpR X (compareOp op') (rI0 z')) (ho'' : OpR X (compareOp op'') (rI0 z'')) (h1 : z i j = .bl x) (h2 : z' j k = .bl y) (h3 : z'' k l = .bl u) (hm : lastMarks [op, op', op''] [b, c, d] = false := by with_unfolding_all rfl) :
    EJ X Γ B (.Compare a [op, op', op''] [b, c, d] pos) (.da (.bool (x && (y && u)))) B1 := fun g σ H0 H E O Q q =>
  ⟨_, pe_chain3 ho ho' ho'' (we a) (we b) (we c) (we d) hm, ha g σ H0 H E O _ fun v H1 H' t o r => hb g σ H1 H' (E.mono t.ex) o _ fun w H2 H'' t2 o2 r2 => by
    have tt := t.trans t2
    refine ⟨i, j, rvI r, rvI r2, ?_⟩
    rw [h1]
    refine ⟨x, rfl, ?_⟩
    cases x with
    | true =>
      refine iteT ?_
      refine hc g σ H2 H'' (E.mono tt.ex) o2 _ fun u3 H3 H3' t3 o3 r3 => ⟨j, k, rvI r2, rvI r3, ?_⟩
      rw [h2]
      have t4 := tt.trans t3
      refine ⟨y, rfl, ?_⟩
      cases y with
      | true =>
        refine iteT ?_
        refine hd g σ H3 H3' (E.mono t4.ex) o3 _ fun u4 H4 H4' t5 o5 r5 => ⟨k, l, rvI r3, rvI r5, ?_⟩
        rw [h3]
        exact q _ _ _ (t4.trans t5) o5 (Rp.bl _)
      | false => exact iteF (q _ _ _ t4 o3 (Rp.bl _))
    | false => exact iteF (q _ _ _ tt o2 (Rp.bl _))⟩
end
end Gd
namespace Lw
open PySem PySem.Spec PyProof PyProof.Rows L2 Gd Fr
theorem int4_bend {i j k l : Int} (hi : Bd 12 i) (hj : Bd 12 j) (hk : Bd 12 k) (hl : Bd 12 l) : BN 1 10 (.tuple [.int i, .int j, .int k, .int l]) := by
  have b : ∀ {i : Int}, Bd 12 i → bendB (.int i) = true := fun {i} h => by
    simp only [bendB, decide_eq_true_eq]
    have := PySem.Flt.log2_lt_of (Nat.succ_pos 12) (h.le (Nat.le_succ 12))
    omega
  refine ⟨?_, by simp only [PyData.depth, PyData.depthAll]; omega, by simp only [PyData.bulk, PyData.bulkAll]; decide⟩
  have h1 := b hi; have h2 := b hj; have h3 := b hk; have h4 := b hl
  simp only [bendB, bendA, Bool.and_eq_true, Bool.and_true] at h1 h2 h3 h4 ⊢
  exact ⟨h1, h2, h3, h4⟩
theorem pick_int12 (L : List Int) (B : Bag) (h0 : 0 < L.length) (hz : L.length ≤ 1000) (hb : ∀ i ∈ L, Bd 12 i) (ok : Bok B) : ∃ i B', R_some [.bag, .da (.list (L.map .int))] B (.int i) B' ∧ Bd 12 i ∧ Bok B' := by
  have hl : (L.map PyData.int).length = L.length := List.length_map ..
  have r := R_some.mk B (L.map .int) (by omega) (by omega) ok
  obtain ⟨i, hi, e⟩ := pick_ex L PyData.int B h0
  rw [e] at r
  exact ⟨i, _, r, hb i hi, tkB_ok ok _⟩
end Lw
namespace Gd
open PySem PySem.Spec PyProof.Rows L2
section
variable {X : Cx} {Γ : List VD} {B B1 B2 B' : Bag} {e a b c : Expr} {es : List Expr} {elt : Expr} {scope : Scope} {pos pos' : Pos} {acc : List PyData}
theorem rv_fns {K : PySem.W.Frag} {g : Gh} {H0 : Hp} : ∀ {fs : List Addr} {vs : List V}, RvAll K g H0 vs (fs.map VD.fn) → vs = fs.map V.ref
  | [], [], _ => rfl
  | f :: fs, v :: vs, h => by
    have h1 : v = .ref f := h.1
    rw [h1, rv_fns (fs := fs) (vs := vs) h.2]; rfl
  | [], _ :: _, h => h.elim
  | _ :: _, [], h => h.elim
theorem ej_lstFn {fs : List Addr} (h : AJ X Γ B es (fs.map VD.fn) B1) (hl : fs.length ≤ 1000) : EJ X Γ B (.List es pos) (.fns fs) B1 := fun g σ H0 H E O Q q =>
  ⟨_, pe_lst (wa es), h g σ H0 H E O _ fun vs H1 H' t o rs => by
    have rs := rv_fns rs
    subst rs
    refine ⟨by rw [List.length_map]; exact Nat.le_of_lt (small1000 hl), fun p n => ?_⟩
    obtain ⟨t2, o2⟩ := laid (o := .lst (fs.map V.ref)) o n
    exact q _ _ _ (t.trans t2) o2 ⟨p, rfl, upd_same⟩⟩
theorem lc_turn2F {j1 j2 : Nat} {g : Gh} {H1 H' : Hp} {A T : Addr} {H'' H2 : Hp} {σ : L2.St} {f0 : Addr} {y0 : V} {y2 z : PyData} {f : Bool} {Nx : Hp → Prop} (hj : j1 ≠ j2) (off : Off g A) (Ev : EnvD X.K g H1 σ Γ) (I : LcI X.K g H1 H' A acc B H2 H'') (hxs : SqT X.K H2 T [.ref f0, y0]) (r2 : Rp X.K H2 y0 y2)
    (hz : acc.length < 1000) (ht : Blk X scope fun Y => TJ Y ((Γ.set j1 (.fn f0)).set j2 (.da y2)) B c f B) (he : f = true → Blk X scope fun Y => EJ Y ((Γ.set j1 (.fn f0)).set j2 (.da y2)) B elt (.da z) B)
    (k : ∀ H3 H3', LcI X.K g H1 H' A (if f = true then acc ++ [z] else acc) B H3 H3' → Nx H3') :
    gTup X.K 2 (gNames [j1, j2]) (.ref T) (wipe σ [j1, j2]) H'' fun σ2 H2 => wipe σ2 [j1, j2] = wipe σ [j1, j2] ∧ WTB X scope c σ2 H2 fun b H3 => if b = true then WB X scope elt σ2 H3 fun y H4 => ∃ acc, H4 A = some (.lst acc) ∧ acc.length < sizeLine ∧ Nx (upd H4 A (.lst (acc ++ [y]))) else Nx H3 := by
  refine ⟨T, _, rfl, seqT I.on.ex hxs, rfl, _, _, rfl, _, _, rfl, rfl, ?_⟩
  rw [wipe2 hj]
  refine ⟨wipe2w hj, ?_⟩
  intro s hH C cl fp
  have ev := ((Ev.mono I.to.ex).set (d := .fn f0) j1 (v := .ref f0) rfl).set (d := .da y2) j2 r2
  refine ht s hH C cl fp g _ H2 H'' ev I.on _ fun H3 H3' t o => ?_
  have J := lcI_step off I t o
  cases f with
  | false => exact k _ _ J
  | true =>
    refine iteT ?_
    intro s hH C cl fp
    refine he rfl s hH C cl fp g _ H3 H3' (ev.mono t.ex) J.on _ fun w H4 H4' t2 o2 rw' => ?_
    obtain ⟨zs, h1, h2, J2⟩ := lcI_app off J t2 o2 rw'
    exact ⟨zs, h1, by rw [h2]; exact small1000 (Nat.le_of_lt hz), k _ _ J2⟩
theorem rj_lcFZF {α : Type} {j1 j2 : Nat} (L : List α) (P : α → Addr) (Q z : α → PyData) (f : α → Bool) (hj : j1 ≠ j2) (ha : AJ X Γ B [a, b] [.fns (L.map P), .da (.list (L.map Q))] B1) (hz : L.length ≤ 1000)
    (ht : ∀ a ∈ L, Blk X scope fun Y => TJ Y ((Γ.set j1 (.fn (P a))).set j2 (.da (Q a))) B1 c (f a) B1)
    (he : ∀ a ∈ L, f a = true → Blk X scope fun Y => EJ Y ((Γ.set j1 (.fn (P a))).set j2 (.da (Q a))) B1 elt (.da (z a)) B1) :
    RJ X Γ B (tLc (iZip X.K (WA X [a, b])) (gTup X.K 2 (gNames [j1, j2])) (WTB X scope c) (WB X scope elt) [j1, j2]) (.da (.list ((L.filter f).map z))) B1 := fun g σ H0 H Ev O Q' q =>
  ha g σ H0 H Ev O _ fun vs H1 H' t o r => by
    obtain ⟨v, v', rfl, r1, r2⟩ := rv2 r
    obtain ⟨p1, rfl, hxs⟩ := (show ∃ a, v = .ref a ∧ H1 a = some (.lst ((L.map P).map V.ref)) from r1)
    obtain ⟨p2, ys, rfl, hys, rs2⟩ := rvL r2
    refine ⟨p1, p2, _, ys, rfl, SqL.of (o.ex _ _ hxs), SqL.of (o.ex _ _ hys), fun A hA => ?_⟩
    obtain ⟨off, I0⟩ := lcI_start o hA
    refine lc_zip (xs := (L.map P).map V.ref) (ys := ys) (by rw [rs2.length, List.length_map, List.length_map, List.length_map]) (fun i H'' => ∃ H2, LcI X.K g H1 H' A (((L.take i).filter f).map z) B1 H2 H'') ⟨_, I0⟩ ?_ ?_ ?_
    · rintro i H'' ⟨H2, I⟩
      exact ⟨SqL.of (I.on.ex _ _ (I.to.ex _ _ hxs)), SqL.of (I.on.ex _ _ (I.to.ex _ _ hys))⟩
    · rintro i x y T H'' hx hy ⟨H2, I⟩ hT
      obtain ⟨d2, hd2, rd2⟩ := rs2.get hy
      rw [List.getElem?_map] at hd2
      obtain ⟨w, hw, rfl⟩ := Option.map_eq_some_iff.mp hd2
      rw [List.getElem?_map, List.getElem?_map, hw] at hx
      injection hx with hx
      subst hx
      have hm := List.mem_of_getElem? hw
      have hlt : i < L.length := (List.getElem?_eq_some_iff.mp hw).1
      have hle : ((((L.take i).filter f).map z).length) < 1000 := by
        rw [List.length_map]
        have h1 := List.length_filter_le f (L.take i)
        rw [List.length_take] at h1
        omega
      obtain ⟨t3, o3⟩ := laid (o := .tup [.ref (P w), y]) I.on hT
      have I2 := lcI_step off I t3 o3
      refine lc_turn2F hj off (Ev.mono t.ex) I2 (SqT.of upd_same) ((rd2.mono I.to.ex).mono t3.ex) hle (ht w hm) (he w hm) fun H3 H3' J => ⟨H3, ?_⟩
      rw [List.take_add_one, hw, List.filter_append, List.map_append]
      cases hf : f w with
      | true =>
        rw [hf] at J
        simpa [hf] using J
      | false =>
        rw [hf] at J
        simpa [hf] using J
    · rintro H'' ⟨H2, I⟩
      rw [List.length_map, List.length_map, List.take_length] at I
      obtain ⟨H3, t3, o3, r3⟩ := lcI_end off t I
      exact q _ H3 H'' t3 o3 r3
end
end Gd
namespace Lw
open PySem PySem.Spec PyProof PyProof.Rows L2 Gd Fr
inductive R_istold (P : Program) (w : World) (K : PySem.W.Frag) (mg : Str → Option Value) (base : Heap) : Rel
  | mk (fn : Str) (f0 : Addr) (j : PyData → Bool) (c : Cal P w K mg base fn 6 (R_anyB j)) (hm : mg fn = some (.ref f0)) (d : PyData) (B : Bag) (hd : OkA d) (hl : LenOk d) : R_istold P w K mg base [.fn f0, .da d, .da (.bool (j d))] B (.bool true) B
end Lw
namespace Gd
open PySem PySem.Spec PyProof.Rows L2
section
variable {P : Program} {w : World} {A : Around} {E : Value → Shared → Prop} {s : Shared} {a : Addr} {l0 : Addr} {l : List Str} {items : Array Value}
theorem collect_tup {Q : List Value → Shared → Prop} (hl : s.heap.IsTuple l0 items) (hsz : items.size ≤ sizeLine)
    (h : Q items.toList { s with heap := (s.heap.push (seqObj "list" #[] 0)).update s.heap.objs.size (Obj.mapSeq fun x => x ++ items) }) : wpAny (model P w) A (collect (.ref l0)) Q E s := by
  obtain ⟨o, ho, hc, n, hd⟩ := hl
  unfold collect
  refine wpAny_bind (wpAny_runValue (codeAny_builtin F.entry_proto_collect ?_))
  unfold Builtin.«proto.collect»
  refine wpAny_bind (wpAny_newList ?_ (Nat.zero_le _))
  refine wpAny_pure ⟨Code.quiet_builtin _ (by decide +kernel), codeAny_builtin F.entry_list_iadd ?_⟩
  show wpAny _ _ (Builtin.List.listExtendWith (.ref s.heap.objs.size) (.ref l0) (.ref s.heap.objs.size)) _ _ _
  unfold Builtin.List.listExtendWith
  have ho' := Heap.get?_push_of_some (seqObj "list" #[] 0) ho
  have hS : (s.heap.push (seqObj "list" #[] 0)).get? s.heap.objs.size = some (seqObj "list" #[] 0) := Heap.get?_push_size _ rfl
  refine wpAny_bind (wpAny_typeOf ⟨o, ho', hc⟩ ?_)
  rw [if_pos (by simp)]
  refine wpAny_bind (listItems_at ho' hd (wpAny_bind (listItems_at hS rfl ?_)))
  rw [if_neg (by simp)]
  have hS₂ := Heap.get?_update_self (Obj.mapSeq fun x => x ++ items) hS rfl
  have fin' : wpAny (model P w) A (do let d ← load s.heap.objs.size; match d.data with | .seq xs _ => pure xs.toList | _ => unsupported "internal:collect") Q E { s with heap := (s.heap.push (seqObj "list" #[] 0)).update s.heap.objs.size (Obj.mapSeq fun x => x ++ items) } := by
    refine wpAny_bind (wpAny_load hS₂ (wpAny_pure ?_))
    have e : (#[] ++ items).toList = items.toList := by simp
    show Q (#[] ++ items).toList _
    rw [e]; exact h
  exact wpAny_bind (listUpdate_at hS rfl (wpAny_pure fin') (Nat.zero_le _) (by simpa using Nat.le_succ_of_le hsz))
theorem ts_sorted {Q : Value → Shared → Prop} (hl : s.heap.IsTuple a items) (hI : StrsAre items.toList l) (h64 : l.length < 64)
    (hQ : ∀ s' p (out : Array Value) (c : Nat) (ns : List Str), (∀ b o, s.heap.get? b = some o → s'.heap.get? b = some o) → s'.gens = s.gens → s'.os = s.os → s.heap.objs.size ≤ p →
      s'.heap.get? p = some (seqObj "list" out c) → StrsAre out.toList ns → ns.Perm l → sortedS ns = true → Q (.ref p) s') :
    wpAny (model P w) A (call (.builtin "sorted") [Value.ref a]) Q E s := by
  have hz : items.size = l.length := (Array.length_toList (xs := items)).symm.trans (StrsAre.len_eq hI)
  refine Calls.call_function_entry kind_sorted plain_sorted entry_sorted (args_sorted1 _) ?_; unfold Builtin.«sorted»; refine wpAny_bind (m := checkCount "sorted" 1 1 _) (wpAny_pure ?_)
  refine wpAny_bind (collect_tup hl (by rw [sizeLine_eq]; omega) ?_)
  have k1 : ∀ b o, s.heap.get? b = some o → ((s.heap.push (seqObj "list" #[] 0)).update s.heap.objs.size (Obj.mapSeq fun x => x ++ items)).get? b = some o := fun b o e => Heap.get?_update_of_ne _ (Nat.ne_of_gt (Heap.lt_size e)) (Heap.get?_push_of_some _ e)
  have hzs : s.heap.objs.size ≤ ((s.heap.push (seqObj "list" #[] 0)).update s.heap.objs.size (Obj.mapSeq fun x => x ++ items)).objs.size := by
    have := size_push' s.heap (seqObj "list" #[] 0)
    rw [Heap.size_update]; omega
  generalize ((s.heap.push (seqObj "list" #[] 0)).update s.heap.objs.size (Obj.mapSeq fun x => x ++ items)) = h1 at *
  generalize hvs : items.toList = vs at *
  have hvl : vs.length < 64 := by rw [StrsAre.len_eq hI]; exact h64
  refine wpAny_bind (wpAny_newList ?_ (by rw [sizeLine_eq]; omega)); have hoL : (h1.push (seqObj "list" vs.toArray 0)).get? h1.objs.size = some (seqObj "list" vs.toArray 0) := Heap.get?_push_size _ rfl
  refine wpAny_bind (wpAny_holding (wpAny_call_entry slot_list_sort ⟨_, hoL, rfl⟩ entry_list_sort (list_sort_treeK PyProof.Rows.strKind_oneLt hoL hI.keysOf (fun v₁ v₂ rest e => keyKind_strs (by rw [← e]; exact hI)) hvl fun st' a1 a2 => ⟨_, rfl, ?_⟩) (args_list_sort _)))
  obtain ⟨ns, b1, b2, b3⟩ := sorted_out_str hI a1 a2
  obtain ⟨c, hc⟩ := sortedHeap_at (vs := vs) (out := (arrOf st').map (·.2)) hoL
  refine wpAny_pure ⟨_, rfl, hQ _ h1.objs.size _ c ns (fun b u e => ?_) rfl rfl hzs hc b1 b2 b3⟩
  have q := k1 b u e
  have hlt := Heap.lt_size q
  show (sortedHeap (h1.push (seqObj "list" vs.toArray 0)) h1.objs.size vs _).get? b = some u
  rw [sortedHeap_old (Nat.ne_of_lt hlt) (by rw [size_push']; exact Nat.lt_succ_of_lt hlt)]; exact Heap.get?_push_of_some _ q
end
section
variable {X : Cx} {Γ : List VD} {B B1 : Bag} {b : Expr} {pos p : Pos} {Φ : Post}
def rSortedTS (X : Cx) : List V → Hp → VK → Prop := fun vs H Q => ∃ (a : Addr) (xs : List Str), vs = [V.ref a] ∧ SqT X.K H a (xs.map V.str) ∧ xs.length < 64 ∧
  ∀ (ys : List Str) (p : Addr), ys.Perm xs → sortedS ys = true → H p = none → Q (.ref p) (upd H p (.lst (ys.map V.str)))
theorem cr_sortedTS : CallR X (.builtin "sorted") (rSortedTS X) := by
  intro pins s σ H vs us Q I r hr
  obtain ⟨a, l, rfl, hs, h64, q⟩ := hr
  rw [Vals.ref1 r]; obtain ⟨its, rv, pl, hz⟩ := I.tuple hs
  refine ts_sorted (l := l) pl (by simpa using strsAre_of rv) h64 fun s' p out c ns k g o hp hg hi hd hs => ?_
  have hlen : (ns.map V.str).length ≤ sizeLine := by
    have h1 : ns.length = l.length := hd.length_eq
    rw [List.length_map, sizeLine_eq]; omega
  have hn : H p = none := (I.hok).fresh hp
  have J : Inv X pins σ (upd H p (.lst (ns.map V.str))) { s with heap := s'.heap, gens := s'.gens, drawn := s'.drawn, toks := s'.toks } :=
    I.call (ch := []) (Un.laid k hp hn) (I.hok.laid k hp ⟨hlen, out.toList, c, vals_strs hi, hg⟩) (by rw [g]; exact I.bare) (fun _ z => nomatch z)
  have e : s' = { s with heap := s'.heap, gens := s'.gens, drawn := s'.drawn, toks := s'.toks } := by cases s'; cases s; cases o; rfl
  rw [e]
  exact ⟨.ref p, _, J, rfl, q ns p hd hs hn⟩
theorem ex_sortedTS {xs : List Str} (hm : X.mg "sorted" = none) (ha : EJ X Γ B b (.da (.tuple (xs.map .str))) B1) (hl : xs.length < 64)
    (h : ∀ ns : List Str, ns.Perm xs → sortedS ns = true → Φ (.list (ns.map .str)) B1)
    (hs : starEach [b] X.env = [(false, eval b X.env)] := by rfl) (hg : Gl X "sorted" := by rfl) :
    EX X Γ B (.Call (.Name "sorted" p) [b] [] pos) Φ := fun g σ H0 H Ev O Q q =>
  ⟨_, pe_callB cr_sortedTS hg hm (by decide +kernel) (wa [b]) (by decide) (by decide) hs rfl,
   (aj_cons (ds := []) ha aj_nil hs) g σ H0 H Ev O _ fun vs H1 H' t o r => by
    obtain ⟨v, rfl, hv⟩ := rv1 r
    obtain ⟨l, zs, rfl, hx, rs⟩ := rvT hv
    have e := rs.strs_of
    subst e
    refine ⟨l, xs, rfl, seqT o.ex hx, hl, fun ns m q1 q2 hm1 => ?_⟩
    obtain ⟨t2, o2⟩ := laid (o := .lst (ns.map V.str)) o hm1
    exact q _ _ _ _ B1 (h ns q1 q2) (t.trans t2) o2 (Rp.lst upd_same (RpAll.strs _))⟩
end
end Gd
set_option exponentiation.threshold 20000
namespace Gd
open PySem PySem.Spec PyProof.Rows L2
theorem Cal.up {P : Program} {w : World} {K : PySem.W.Frag} {mg : Str → Option Value} {base : Heap} {x : Str} {k k' : Nat} {R : Rel} (c : Cal P w K mg base x k R) (h : k ≤ k') : Cal P w K mg base x k' R := by
  obtain ⟨f, fd, ps, F, h1, h2, h3⟩ := c
  exact ⟨f, fd, ps, F.le h, h1, h2, h3⟩
theorem Cal.ref {P : Program} {w : World} {K : PySem.W.Frag} {mg : Str → Option Value} {base : Heap} {x : Str} {k : Nat} {R : Rel} (c : Cal P w K mg base x k R) : ∃ f0, mg x = some (.ref f0) := by
  obtain ⟨f, fd, ps, F, h1, h2, h3⟩ := c
  exact ⟨f, h1⟩
end Gd
namespace Lw
open PySem PySem.Spec PyProof PyProof.Rows L2 Gd Fr
open scoped Rat
theorem bendI {i : Int} {n : Nat} (h : Bd n i) (e : n ≤ 1899) : bendB (.int i) = true := by
  simp only [bendB, decide_eq_true_eq]
  have := PySem.Flt.log2_lt_of (Nat.succ_pos n) (h.le (Nat.le_succ n))
  omega
theorem int_bn {n W : Nat} {i : Int} {k : Nat} (h : Bd k i) (e : k ≤ 1899 := by decide) : BN n W (.int i) := ⟨bendI h e, by simp only [PyData.depth]; omega, by simp only [PyData.bulk]; omega⟩
theorem fm_bn {b p : Nat} {low high : Int} (F : Fm b p low high) : BN 1 10 (fmP b p low high) := by
  have h1 := F.b6; have h2 := F.p7; have h3 := F.lo; have h4 := F.lh; have h5 := F.hi
  exact int4_bend (by unfold Bd; omega) (by unfold Bd; omega) (by unfold Bd; omega) (by unfold Bd; omega)
theorem over_bn {n d : Int} {k : Nat} (hn : Bd k n) (hd : Bd k d) (h0 : d ≠ 0) (hk : k ≤ 1800) : BN 1 10 (fq (n /. d)) := by
  have q : Qz (k + 1) (1 + k) (n /. d) := by
    rw [Rat.divInt_eq_div]
    exact Qz.div (qz_i hn) (qz_i hd) (by intro z; exact h0 (by exact_mod_cast z))
  exact (BN.mktup (BNA.cons (int_bn (n := 0) (W := 1) q.nu (by omega)) (BNA.cons (int_bn (n := 0) (W := 1) q.de (by omega)) (BNA.nil (W := 0))))).le (by decide) (by decide)
theorem flg_bn : ∀ x ∈ flgW, ∀ {n : Nat}, BN n 7 (.str x) := by
  have key : flgW.all (fun x => bendW.contains x && decide (x.cps.size ≤ 7)) = true := by decide +kernel
  intro x hx n
  have := List.all_eq_true.mp key x hx
  rw [Bool.and_eq_true, decide_eq_true_eq] at this
  exact BN.word this.1 this.2
theorem flgs_bn {ss : List Str} (h : ∀ x ∈ ss, x ∈ flgW) (hl : ss.length ≤ 6) : BN 1 60 (.tuple (ss.map .str)) ∧ BN 1 60 (.list (ss.map .str)) := by
  have a : BNA 0 48 (ss.map PyData.str) := BNA.of (k := 6) (W := 7) (fun d hd => by
    obtain ⟨x, hx, rfl⟩ := List.mem_map.mp hd
    exact flg_bn x (h x hx)) (by rw [List.length_map]; exact hl)
  exact ⟨(BN.mktup a).le (by decide) (by decide), (BN.mklst a).le (by decide) (by decide)⟩
theorem perm_strs {W : List Str} : ∀ {ds : List PyData}, ds.Perm (W.map .str) → ∃ ss : List Str, ds = ss.map .str ∧ ss.Perm W := by
  intro ds h
  have hs : ∀ d ∈ ds, strB d = true := fun d hd => by
    obtain ⟨x, _, rfl⟩ := List.mem_map.mp (h.mem_iff.mp hd)
    rfl
  obtain ⟨ss, rfl⟩ := strs_of hs
  refine ⟨ss, rfl, ?_⟩
  have g := h.map (fun d => match d with | .str x => x | _ => "")
  rw [List.map_map, List.map_map] at g
  simpa [Function.comp_def] using g
end Lw
set_option exponentiation.threshold 20000
namespace K01
open PySem PySem.Spec PyProof.Rows L2 Gd Fr Lw
open scoped Rat

def topS (i : Nat) : Stmt := PySem.Challenge.pw_nearestheld_k01_fractions_and_formats_of.main.body.getD i (.Pass ⟨0, 0, 0, 0⟩)
variable {P : Program} {w : World} {K : PySem.W.Frag} {mg : Str → Option Value} {base : Heap}

abbrev s_is_integer : Stmt := topS 4
theorem sc_is_integer : FnScope ["thing"] ["thing"] (defScope s_is_integer) := ⟨rfl, rfl, rfl, by decide +kernel, rfl, by decide +kernel, by decide +kernel⟩

theorem c_of_is_integer (m_isinstance : mg "isinstance" = none) (m_int : mg "int" = none) (m_bool : mg "bool" = none) (T : At K mg "is_integer" s_is_integer ["thing"]) : Cal P w K mg base "is_integer" 4 R_anyint :=
  cal_at T sc_is_integer (by rintro _ _ _ _ ⟨⟩; rfl) fun f cd0 A out s H E0 G Γ B r B' hR => by
  obtain ⟨d, B⟩ := hR
  cases d with
  | int i => exact sj_ret (ej_and (x := true) (y := true) (ej_isi (T := "int") (r := true) m_isinstance m_int (ej_dat (d := .int i) 0)) fun _ => ej_one (ej_not (x := false) (ej_isi (T := "bool") (r := false) m_isinstance m_bool (ej_dat (d := .int i) 0)))) ⟨rfl, rfl⟩
  | bool i => exact sj_ret (ej_and (x := true) (y := false) (ej_isi (T := "int") (r := true) m_isinstance m_int (ej_dat (d := .bool i) 0)) fun _ => ej_one (ej_not (x := true) (ej_isi (T := "bool") (r := true) m_isinstance m_bool (ej_dat (d := .bool i) 0)))) ⟨rfl, rfl⟩
  | none => exact sj_ret (ej_and (x := false) (y := true) (ej_isi (T := "int") (r := false) m_isinstance m_int (ej_dat (d := .none) 0)) fun h => Bool.noConfusion h) ⟨rfl, rfl⟩
  | str x => exact sj_ret (ej_and (x := false) (y := true) (ej_isi (T := "int") (r := false) m_isinstance m_int (ej_dat (d := .str x) 0)) fun h => Bool.noConfusion h) ⟨rfl, rfl⟩
  | list x => exact sj_ret (ej_and (x := false) (y := true) (ej_isi (T := "int") (r := false) m_isinstance m_int (ej_dat (d := .list x) 0)) fun h => Bool.noConfusion h) ⟨rfl, rfl⟩
  | tuple x => exact sj_ret (ej_and (x := false) (y := true) (ej_isi (T := "int") (r := false) m_isinstance m_int (ej_dat (d := .tuple x) 0)) fun h => Bool.noConfusion h) ⟨rfl, rfl⟩
  | dict x => exact sj_ret (ej_and (x := false) (y := true) (ej_isi (T := "int") (r := false) m_isinstance m_int (ej_dat (d := .dict x) 0)) fun h => Bool.noConfusion h) ⟨rfl, rfl⟩

abbrev s_is_fraction : Stmt := topS 5
theorem sc_is_fraction : FnScope ["thing", "n", "d"] ["thing"] (defScope s_is_fraction) := ⟨rfl, rfl, rfl, by decide +kernel, rfl, by decide +kernel, by decide +kernel⟩

theorem c_of_is_fraction (m_gcd : mg "gcd" = some (.builtin "math.gcd")) (m_isinstance : mg "isinstance" = none) (m_tuple : mg "tuple" = none) (m_len : mg "len" = none) (c_is_integer : Cal P w K mg base "is_integer" 4 R_anyint)  (T : At K mg "is_fraction" s_is_fraction ["thing"]) : Cal P w K mg base "is_fraction" 5 (R_anyB jFrac) :=
  cal_at T sc_is_fraction (by rintro _ _ _ _ ⟨⟩; rfl) fun f cd0 A out s H E0 G Γ B r B' hR => by
  obtain ⟨d, B, hd, hl⟩ := hR
  by_cases h : tupB d = true
  · obtain ⟨ds, rfl⟩ := tupB_inv h
    by_cases c : ds.length = 2
    · match ds, c with
      | [x, y], _ =>
        refine sj_when (x := false) (tj_w (wj_or (x := false) (y := false) (tj_not (x := true) (tj_val (ej_isi (T := "tuple") (r := true) m_isinstance m_tuple (ej_dat (d := .tuple [x, y]) 0)))) fun _ => wj_or1 (tj_is (tj_neI G.hu (ej_lenT (ds := [x, y]) m_len (ej_dat (d := .tuple [x, y]) 0)) ej_int) rfl))) (fun h => Bool.noConfusion h) (fun _ => ?_)
        refine sj_unpack [1, 2] G.calm (ej_dat (d := .tuple [x, y]) 0) (pgs_cons (pgN 1 G.nd) (pgs_cons (pgN 2 G.nd) pgs_nil)) rfl ?_
        by_cases hx : intB x = true
        · obtain ⟨n, rfl⟩ := intB_inv hx
          by_cases hy : intB y = true
          · obtain ⟨m, rfl⟩ := intB_inv hy
            exact sj_ret (ej_and (x := true) (y := (decide (1 ≤ m) && decide (Nat.gcd n.natAbs m.natAbs = 1))) (ej_call c_is_integer (G.le (by decide)) (aj_cons (ej_dat (d := .int n) 1) aj_nil) (R_anyint.mk (.int n) B)) fun _ => ej_and (x := true) (y := (decide (1 ≤ m) && decide (Nat.gcd n.natAbs m.natAbs = 1))) (ej_call c_is_integer (G.le (by decide)) (aj_cons (ej_dat (d := .int m) 2) aj_nil) (R_anyint.mk (.int m) B)) fun _ => ej_and (ej_ge (ej_dat (d := .int m) 2) ej_int) fun _ => ej_one (ej_is (ej_eqI G.hu (ej_gcd m_gcd (ej_dat (d := .int n) 1) (ej_dat (d := .int m) 2)) ej_int) (congrArg PyData.bool (decide_eq_decide.mpr (by omega))))) ⟨rfl, rfl⟩
          · have hy : intB y = false := by simpa using hy
            have ey := R_anyint.mk y B
            rw [hy] at ey
            rw [jFrac_int (by rw [hy, Bool.and_false])]
            exact sj_ret (ej_and (x := true) (y := false) (ej_call c_is_integer (G.le (by decide)) (aj_cons (ej_dat (d := .int n) 1) aj_nil) (R_anyint.mk (.int n) B)) fun _ => ej_and (x := false) (y := false) (ej_call c_is_integer (G.le (by decide)) (aj_cons (ej_dat (d := y) 2) aj_nil) (ey)) fun h => Bool.noConfusion h) ⟨rfl, rfl⟩
        · have hx : intB x = false := by simpa using hx
          have ex := R_anyint.mk x B
          rw [hx] at ex
          rw [jFrac_int (by rw [hx, Bool.false_and])]
          exact sj_ret (ej_and (x := false) (y := false) (ej_call c_is_integer (G.le (by decide)) (aj_cons (ej_dat (d := x) 1) aj_nil) (ex)) fun h => Bool.noConfusion h) ⟨rfl, rfl⟩
    · refine sj_when (x := true) (tj_w (wj_or (x := false) (y := true) (tj_not (x := true) (tj_val (ej_isi (T := "tuple") (r := true) m_isinstance m_tuple (ej_dat (d := .tuple ds) 0)))) fun _ => wj_or1 (tj_is (tj_neI G.hu (ej_lenT (ds := ds) m_len (ej_dat (d := .tuple ds) 0)) ej_int) (by rw [decide_eq_false (by omega)]; rfl)))) (fun _ => sj_ret ej_bl ⟨congrArg PyData.bool (jFrac_len c).symm, rfl⟩) (fun h => Bool.noConfusion h)
  · have h : tupB d = false := by simpa using h
    refine sj_when (x := true) (tj_w (wj_orT (tj_is (tj_not (tj_val (ej_isT m_isinstance m_tuple (ej_dat (d := d) 0)))) (by rw [h]; rfl)))) (fun _ => sj_ret ej_bl ⟨?_, rfl⟩) (fun h => Bool.noConfusion h)
    cases d <;> first | rfl | cases h

abbrev s_is_format : Stmt := topS 6
theorem sc_is_format : FnScope ["thing", "base", "digits", "low", "high", "part"] ["thing"] (defScope s_is_format) := ⟨rfl, rfl, rfl, by decide +kernel, rfl, by decide +kernel, by decide +kernel⟩

theorem c_of_is_format /-H-/ (m_isinstance : mg "isinstance" = none) (m_tuple : mg "tuple" = none) (m_len : mg "len" = none) (m_all : mg "all" = none) (c_is_integer : Cal P w K mg base "is_integer" 4 R_anyint) /-E-/ (T : At K mg "is_format" s_is_format ["thing"]) : Cal P w K mg base "is_format" 5 (R_anyB jForm) :=
  cal_at T sc_is_format (by rintro _ _ _ _ ⟨⟩; rfl) fun f cd0 A out s H E0 G Γ B r B' hR => by
  obtain ⟨d, B, hd, hl⟩ := hR
  by_cases h : tupB d = true
  · obtain ⟨ds, rfl⟩ := tupB_inv h
    by_cases c : ds.length = 4
    · match ds, c with
      | [x, y, z, u], _ =>
        refine sj_when (x := false) (tj_w (wj_or (x := false) (y := false) (tj_not (x := true) (tj_val (ej_isi (T := "tuple") (r := true) m_isinstance m_tuple (ej_dat (d := .tuple [x, y, z, u]) 0)))) fun _ => wj_or1 (tj_is (tj_neI G.hu (ej_lenT (ds := [x, y, z, u]) m_len (ej_dat (d := .tuple [x, y, z, u]) 0)) ej_int) rfl))) (fun h => Bool.noConfusion h) (fun _ => ?_)
        refine sj_when (x := !([intB x, intB y, intB z, intB u].all id)) (tj_not (tj_val (ej_all (bs := [intB x, intB y, intB z, intB u]) G.calm m_all (ej_lcT (j := 5) (x := "part") G.nd G.calm (blkOk_by (N := ["thing", "base", "digits", "low", "high", "part"]) (sc := defScope s_is_format) (by decide +kernel)) (fun _ _ _ _ _ => pg_name (i := 5) G.nd rfl (Or.inl rfl))
          (rj_lcT (ds := [x, y, z, u]) (ys := [.bool (intB x), .bool (intB y), .bool (intB z), .bool (intB u)]) (fun _ => B) (ej_dat (d := .tuple [x, y, z, u]) 0) rfl (Nat.le_of_ble_eq_true rfl) (fun i y' z' hi hz s0 H0 C cl fp => by
            have e : z' = .bool (intB y') := by
              match i, hi, hz with
              | 0, hi, hz => cases hi; cases hz; rfl
              | 1, hi, hz => cases hi; cases hz; rfl
              | 2, hi, hz => cases hi; cases hz; rfl
              | 3, hi, hz => cases hi; cases hz; rfl
            subst e
            exact ej_call c_is_integer ⟨G.gd, G.rm.mono (by decide), G.nd, G.calm⟩ (aj_cons (ej_dat (d := y') 5) aj_nil) (R_anyint.mk y' B))))))) (fun h => ?_) (fun h => ?_)
        · have h : (intB x && (intB y && (intB z && intB u))) = false := by
            simp only [List.all_cons, List.all_nil, id, Bool.and_true, Bool.not_eq_true'] at h; exact h
          rw [jForm_int h]
          exact sj_ret ej_bl ⟨rfl, rfl⟩
        · have h : (intB x && (intB y && (intB z && intB u))) = true := by
            simp only [List.all_cons, List.all_nil, id, Bool.and_true, Bool.not_eq_false'] at h; exact h
          rw [Bool.and_eq_true, Bool.and_eq_true, Bool.and_eq_true] at h
          obtain ⟨h1, h2, h3, h4⟩ := h
          obtain ⟨b, rfl⟩ := intB_inv h1
          obtain ⟨p, rfl⟩ := intB_inv h2
          obtain ⟨lo, rfl⟩ := intB_inv h3
          obtain ⟨hi, rfl⟩ := intB_inv h4
          refine sj_unpack [1, 2, 3, 4] G.calm (ej_dat (d := .tuple [.int b, .int p, .int lo, .int hi]) 0) (pgs_cons (pgN 1 G.nd) (pgs_cons (pgN 2 G.nd) (pgs_cons (pgN 3 G.nd) (pgs_cons (pgN 4 G.nd) pgs_nil)))) rfl ?_
          rw [show jForm (.tuple [.int b, .int p, .int lo, .int hi]) = okFm b p lo hi from rfl]
          refine sj_when (x := !decide (b % 2 = 0) || (decide (b < 2) || (decide (36 < b) || (decide (p < 2) || decide (120 < p))))) (tj_w (wj_or (tj_neI G.hu (ej_mod (ej_dat (d := .int b) 1) ej_int (by decide)) ej_int) fun _ => wj_or (tj_lt (ej_dat (d := .int b) 1) ej_int) fun _ => wj_or (tj_gt (ej_dat (d := .int b) 1) ej_int) fun _ => wj_or (tj_lt (ej_dat (d := .int p) 2) ej_int) fun _ => wj_or1 (tj_gt (ej_dat (d := .int p) 2) ej_int))) (fun h => ?_) (fun h => ?_)
          · refine sj_ret ej_bl ⟨congrArg PyData.bool ?_, rfl⟩
            simp only [Bool.or_eq_true, Bool.not_eq_true', decide_eq_true_eq, decide_eq_false_iff_not] at h
            unfold okFm
            exact (decide_eq_false (by omega)).symm
          · simp only [Bool.or_eq_false_iff, Bool.not_eq_false', decide_eq_true_eq, decide_eq_false_iff_not] at h
            refine sj_ret (ej_and (ej_le (ej_neg ej_int) (ej_dat (d := .int lo) 3)) fun _ => ej_and (ej_le (ej_dat (d := .int lo) 3) (ej_dat (d := .int hi) 4)) fun _ => ej_one (ej_le (ej_dat (d := .int hi) 4) ej_int)) ⟨congrArg PyData.bool ?_, rfl⟩
            unfold okFm
            rw [← Bool.decide_and, ← Bool.decide_and]
            exact decide_eq_decide.mpr (by omega)
    · exact sj_when (x := true) (tj_w (wj_or (x := false) (y := true) (tj_not (x := true) (tj_val (ej_isi (T := "tuple") (r := true) m_isinstance m_tuple (ej_dat (d := .tuple ds) 0)))) fun _ => wj_or1 (tj_is (tj_neI G.hu (ej_lenT (ds := ds) m_len (ej_dat (d := .tuple ds) 0)) ej_int) (by rw [decide_eq_false (by omega)]; rfl)))) (fun _ => sj_ret ej_bl ⟨congrArg PyData.bool (jForm_len c).symm, rfl⟩) (fun h => Bool.noConfusion h)
  · have h : tupB d = false := by simpa using h
    refine sj_when (x := true) (tj_w (wj_orT (tj_is (tj_not (tj_val (ej_isT m_isinstance m_tuple (ej_dat (d := d) 0)))) (by rw [h]; rfl)))) (fun _ => sj_ret ej_bl ⟨?_, rfl⟩) (fun h => Bool.noConfusion h)
    cases d <;> first | rfl | cases h

abbrev s_is_way : Stmt := topS 7
theorem sc_is_way : FnScope ["thing"] ["thing"] (defScope s_is_way) := ⟨rfl, rfl, rfl, by decide +kernel, rfl, by decide +kernel, by decide +kernel⟩

theorem c_of_is_way (g_ways : Glob K mg "WAYS" (.tuple (wayList.map .str))) /-H-/ (m_isinstance : mg "isinstance" = none) (m_str : mg "str" = none) /-E-/ (T : At K mg "is_way" s_is_way ["thing"]) : Cal P w K mg base "is_way" 5 (R_anyB jWay) :=
  cal_at T sc_is_way (by rintro _ _ _ _ ⟨⟩; rfl) fun f cd0 A out s H E0 G Γ B r B' hR => by
  obtain ⟨d, B, hd, hl⟩ := hR
  cases d with
  | none => exact sj_ret (ej_and (x := false) (y := false) (ej_isi (T := "str") (r := false) m_isinstance m_str (ej_dat (d := .none) 0)) fun h => Bool.noConfusion h) ⟨rfl, rfl⟩
  | bool i => exact sj_ret (ej_and (x := false) (y := false) (ej_isi (T := "str") (r := false) m_isinstance m_str (ej_dat (d := .bool i) 0)) fun h => Bool.noConfusion h) ⟨rfl, rfl⟩
  | int i => exact sj_ret (ej_and (x := false) (y := false) (ej_isi (T := "str") (r := false) m_isinstance m_str (ej_dat (d := .int i) 0)) fun h => Bool.noConfusion h) ⟨rfl, rfl⟩
  | list i => exact sj_ret (ej_and (x := false) (y := false) (ej_isi (T := "str") (r := false) m_isinstance m_str (ej_dat (d := .list i) 0)) fun h => Bool.noConfusion h) ⟨rfl, rfl⟩
  | tuple i => exact sj_ret (ej_and (x := false) (y := false) (ej_isi (T := "str") (r := false) m_isinstance m_str (ej_dat (d := .tuple i) 0)) fun h => Bool.noConfusion h) ⟨rfl, rfl⟩
  | dict i => exact sj_ret (ej_and (x := false) (y := false) (ej_isi (T := "str") (r := false) m_isinstance m_str (ej_dat (d := .dict i) 0)) fun h => Bool.noConfusion h) ⟨rfl, rfl⟩
  | str x => exact sj_ret (ej_and (x := true) (y := wayList.any fun s => decide (s = x)) (ej_isi (T := "str") (r := true) m_isinstance m_str (ej_dat (d := .str x) 0)) fun _ => ej_one (ej_inT (ss := wayList) (ej_dat (d := .str x) 0) (ej_glob g_ways))) ⟨rfl, rfl⟩

abbrev s_are_flags : Stmt := topS 8
theorem sc_are_flags : FnScope ["thing", "word", "one", "other"] ["thing"] (defScope s_are_flags) := ⟨rfl, rfl, rfl, by decide +kernel, rfl, by decide +kernel, by decide +kernel⟩

theorem c_of_are_flags (g_words : Glob K mg "FLAG_WORDS" (words flagAll)) /-H-/ (m_isinstance : mg "isinstance" = none) (m_tuple : mg "tuple" = none) (m_all : mg "all" = none) (m_str : mg "str" = none) (m_zip : mg "zip" = none) /-E-/ (T : At K mg "are_flags" s_are_flags ["thing"]) : Cal P w K mg base "are_flags" 6 R_flags :=
  cal_at T sc_are_flags (by rintro _ _ _ _ ⟨⟩; rfl) fun f cd0 A out s H E0 G Γ B r B' hR => by
  obtain ⟨d, B, hd, hl⟩ := hR
  refine sj_when (tj_not (tj_val (ej_isT m_isinstance m_tuple (ej_dat (d := d) 0)))) (fun h => ?_) (fun h => ?_)
  · refine sj_ret ej_bl ⟨?_, rfl⟩
    cases d <;> first | rfl | cases h
  · have h : tupB d = true := by rw [Bool.not_eq_false'] at h; exact h
    obtain ⟨ds, rfl⟩ := tupB_inv h
    clear h
    refine sj_when (tj_not (tj_val (ej_all (bs := ds.map wB) G.calm m_all (ej_lcT (j := 1) (x := "word") G.nd G.calm (blkOk_by (N := ["thing", "word", "one", "other"]) (sc := defScope s_are_flags) (by decide +kernel)) (fun _ _ _ _ _ => pg_name (i := 1) G.nd rfl (Or.inl rfl))
      (rj_lcT (ds := ds) (ys := (ds.map wB).map PyData.bool) (fun _ => B) (ej_dat (d := .tuple ds) 0) (by simp) hl (fun i y' z' hi hz s0 H0 C cl fp => ?_)))))) (fun h => ?_) (fun h => ?_)
    · have e : z' = .bool (wB y') := by
        rw [List.getElem?_map, List.getElem?_map, hi] at hz
        injection hz with hz; exact hz.symm
      subst e
      cases y' with
      | str x => exact ej_is (ej_and (x := true) (y := flgW.any fun s => decide (s = x)) (ej_isi (T := "str") (r := true) m_isinstance m_str (ej_dat (d := .str x) 1)) fun _ => ej_one (ej_inT (ss := flgW) (ej_dat (d := .str x) 1) (ej_is (ej_glob g_words) words_all))) rfl
      | none => exact ej_is (ej_and (x := false) (y := false) (ej_isi (T := "str") (r := false) m_isinstance m_str (ej_dat (d := .none) 1)) fun h => Bool.noConfusion h) rfl
      | bool x => exact ej_is (ej_and (x := false) (y := false) (ej_isi (T := "str") (r := false) m_isinstance m_str (ej_dat (d := .bool x) 1)) fun h => Bool.noConfusion h) rfl
      | int x => exact ej_is (ej_and (x := false) (y := false) (ej_isi (T := "str") (r := false) m_isinstance m_str (ej_dat (d := .int x) 1)) fun h => Bool.noConfusion h) rfl
      | list x => exact ej_is (ej_and (x := false) (y := false) (ej_isi (T := "str") (r := false) m_isinstance m_str (ej_dat (d := .list x) 1)) fun h => Bool.noConfusion h) rfl
      | tuple x => exact ej_is (ej_and (x := false) (y := false) (ej_isi (T := "str") (r := false) m_isinstance m_str (ej_dat (d := .tuple x) 1)) fun h => Bool.noConfusion h) rfl
      | dict x => exact ej_is (ej_and (x := false) (y := false) (ej_isi (T := "str") (r := false) m_isinstance m_str (ej_dat (d := .dict x) 1)) fun h => Bool.noConfusion h) rfl
    · have h : ds.all wB = false := by rw [Bool.not_eq_true', List.all_map] at h; exact h
      refine sj_ret ej_bl ⟨?_, rfl⟩
      show PyData.bool false = .bool (ds.all wB && rise ds)
      rw [h, Bool.false_and]
    · have h : ds.all wB = true := by rw [Bool.not_eq_false', List.all_map] at h; exact h
      rw [show jFlags (.tuple ds) = (ds.all wB && rise ds) from rfl, h, Bool.true_and]
      have hlc : (cutP ds (some ((1 : Nat) : Int)) none) = ds.drop 1 := cut2 ds 1
      have hlen : ((ds.zip (ds.drop 1)).map fun p => ltD p.1 p.2).length = (ds.drop 1).length := by
        rw [List.length_map, List.length_zip, List.length_drop]; omega
      refine sj_ret (ej_all (bs := (ds.zip (ds.drop 1)).map fun p => ltD p.1 p.2) G.calm m_all (ej_lcZTS (x1 := "one") (j1 := 2) (x2 := "other") (j2 := 3) G.nd G.calm m_zip (blkOk_by (N := ["thing", "word", "one", "other"]) (sc := defScope s_are_flags) (by decide +kernel)) (fun _ _ _ _ _ => pg_tup G.calm (pgs_cons (pg_name (i := 2) G.nd rfl (Or.inl rfl)) (pgs_cons (pg_name (i := 3) G.nd rfl (Or.inl rfl)) pgs_nil)))
        (rj_lcZTS (ds := ds) (es := ds.drop 1) (zs := ((ds.zip (ds.drop 1)).map fun p => ltD p.1 p.2).map PyData.bool) (by decide) (aj_cons (ej_dat (d := .tuple ds) 0) (aj_cons (ej_is (ej_sliceT (ej_dat (d := .tuple ds) 0) (oj_some ej_int) oj_none) (congrArg PyData.tuple hlc)) aj_nil)) (by rw [List.length_drop]; omega) (by rw [List.length_map]; exact hlen) (by rw [List.length_drop]; have : ds.length ≤ 1000 := hl; omega) (fun i p q z hp hq hz s0 H0 C cl fp => ?_)))) ⟨rfl, rfl⟩
      have e : z = .bool (ltD p q) := by
        rw [List.getElem?_map, List.getElem?_map, (List.getElem?_zip_eq_some (z := (p, q))).mpr ⟨hp, hq⟩] at hz
        injection hz with hz; exact hz.symm
      subst e
      have h1 := List.all_eq_true.mp h p (List.mem_of_getElem? hp)
      have h2 := List.all_eq_true.mp h q (List.drop_subset 1 ds (List.mem_of_getElem? hq))
      cases p with
      | str x =>
        cases q with
        | str y => exact ej_ltS (ej_dat (d := .str x) 2) (ej_dat (d := .str y) 3)
        | _ => cases h2
      | _ => cases h1

abbrev s_l_bag : Stmt := topS 10
theorem sc_l_bag : FnScope ["_law_script", "_law_cell"] ["_law_script"] (defScope s_l_bag) := ⟨rfl, rfl, rfl, by decide +kernel, rfl, by decide +kernel, by decide +kernel⟩

theorem c_of_l_bag (m_abs : mg "abs" = none) (T : At K mg "_law_bag" s_l_bag ["_law_script"]) : Cal P w K mg base "_law_bag" 4 R_bag :=
  cal_at T sc_l_bag (by rintro _ _ _ _ ⟨⟩; rfl) fun f cd0 A out s H E G Γ B r B' hR => by
  obtain ⟨ns, B, hl⟩ := hR
  refine sj_ret (ej_lstD (ad_cons ej_int (ad_cons ej_int (ad_cons ej_int (ad_cons (ej_lc (j := 1) (x := "_law_cell") G.nd G.calm (blkOk_by (N := ["_law_script", "_law_cell"]) (sc := defScope s_l_bag) (by decide +kernel)) (fun _ _ _ _ _ => pg_name (i := 1) G.nd rfl (Or.inl rfl))
    (rj_lc (ds := (ns.take 63).map .int) (ys := ((ns.take 63).map absI).map .int) (fun _ => B) (ej_is (ej_sliceScr (ej_var 0 (d := .scr ns) rfl (fun z => nomatch z)) oj_none (oj_some ej_int)) (congrArg PyData.list (cut_head ns 63)))
      (by simp) (by rw [List.length_map, List.length_take]; omega) ?_)) ad_nil)))) (Nat.le_of_ble_eq_true rfl)) ⟨rfl, rfl⟩
  intro i y z hy hz s H C cl fp
  rw [List.getElem?_map] at hy hz
  rw [List.getElem?_map] at hz
  obtain ⟨n, hn, rfl⟩ := Option.map_eq_some_iff.mp hy
  rw [hn] at hz
  cases hz
  exact ej_abs m_abs (ej_dat 1)

abbrev s_l_take : Stmt := topS 11
theorem sc_l_take : FnScope ["_law_bag_here", "_law_many", "_law_cell", "_law_stirred", "_law_value", "_law_begin", "_law_second"] ["_law_bag_here", "_law_many"] (defScope s_l_take) := ⟨rfl, rfl, rfl, by decide +kernel, rfl, by decide +kernel, by decide +kernel⟩

theorem c_of_l_take (m_int : mg "int" = none) (T : At K mg "_law_take" s_l_take ["_law_bag_here", "_law_many"]) : Cal P w K mg base "_law_take" 4 R_take :=
  cal_at T sc_l_take (by rintro _ _ _ _ ⟨⟩; rfl) fun f cd0 A out s H E G Γ B r B' hR => by
  obtain ⟨B, m, hm, hb, hc⟩ := hR
  refine sj_ifM (fun Γ' B2 => B2 = stir B ∧ Γ'[0]? = some .bag ∧ Γ'[1]? = some (.da (.int m)) ∧ Γ'.length = 7) (tj_eqI G.hu (ej_bagAt (k := 0) (ej_bag 0) ej_int rfl (.inl ⟨rfl, rfl⟩) fun _ _ => rfl) ej_int) (fun h => ?_) (fun h => ?_) ?_
  · have hx : B.x = 0 := of_decide_eq_true h
    refine sj_set 2 G.nd (ej_ixL (ej_catL (ej_sliceL (ej_bagAt (k := 3) (ej_bag 0) ej_int rfl (.inr (.inr (.inr ⟨rfl, rfl⟩))) fun _ _ => rfl) (oj_some (ej_bagAt (k := 2) (ej_bag 0) ej_int rfl (.inr (.inr (.inl ⟨rfl, rfl⟩))) fun _ _ => rfl)) oj_none) (ej_lstD (ad_cons ej_int ad_nil) (Nat.le_of_ble_eq_true rfl)) ?_) ej_int (drop_cell B) fun _ _ => rfl) ?_
    · have h63 : B.cs.length ≤ 63 := hc
      show (cutP (B.cs.map PyData.int) (some B.z) none).length + 1 ≤ 1000
      unfold cutP
      rw [List.length_take, List.length_drop, List.length_map]; omega
    refine sj_bagAug (ej_bag 0) ej_int ej_int rfl ?_
    refine sj_ifM (fun Γ' B2 => Γ' = [.bag, .da (.int m), .da (.int (cell B)), .no, .no, .no, .no] ∧ B2 = ⟨if 10 ^ 18 ≤ cell B then cell B else B.x, B.y, B.z + 1, B.cs⟩)
      (tj_ge (ej_dat 2) (ej_pow ej_int ej_int ⟨by decide, by decide, by decide⟩)) (fun h => ?_) (fun h => ?_) ?_
    · refine sj_bagSet (ej_dat 2) (ej_bag 0) ej_int (k := 0) rfl (.inl ⟨rfl, rfl⟩) (sj_nil ⟨rfl, ?_⟩)
      have h' : (10 : Int) ^ 18 ≤ cell B := of_decide_eq_true h
      rw [if_pos h']
    · refine sj_nil ⟨rfl, ?_⟩
      have h' : ¬ (10 : Int) ^ 18 ≤ cell B := of_decide_eq_false h
      rw [if_neg h']
    · rintro Γ2 B2 ⟨rfl, rfl⟩
      refine sj_set 3 G.nd (ej_add (ej_add (ej_mulC (ej_bagAt (k := 1) (ej_bag 0) ej_int rfl (.inr (.inl ⟨rfl, rfl⟩)) fun _ _ => rfl) ej_int (.inr (by decide))) (ej_mod (ej_int1 m_int (ej_dat 2)) ej_int (by decide)))
        (ej_mulC ej_int (ej_bagAt (k := 2) (ej_bag 0) ej_int rfl (.inr (.inr (.inl ⟨rfl, rfl⟩))) fun _ _ => rfl) (.inl (by decide)))) ?_
      refine sj_bagSet (ej_mod (ej_int1 m_int (ej_dat 3)) ej_int (by decide)) (ej_bag 0) ej_int (k := 1) rfl (.inr (.inl ⟨rfl, rfl⟩)) (sj_nil ⟨?_, rfl, rfl, rfl⟩)
      unfold stir
      rw [if_pos hx]
  · refine sj_nil ⟨?_, rfl, rfl, rfl⟩
    unfold stir
    rw [if_neg (of_decide_eq_false h)]
  · rintro Γ2 B2 ⟨rfl, g0, g1, gl⟩
    refine sj_when (tj_gt (ej_bagAt (k := 0) (ej_bag 0 g0) ej_int rfl (.inl ⟨rfl, rfl⟩) fun _ _ => rfl) ej_int) (fun h => ?_) (fun h => ?_)
    · have h' : 0 < (stir B).x := of_decide_eq_true h
      refine sj_set 4 G.nd (ej_mod (ej_int1 m_int (ej_bagAt (k := 0) (ej_bag 0 g0) ej_int rfl (.inl ⟨rfl, rfl⟩) fun _ _ => rfl)) (ej_dat 1 g1) hm) ?_
      have g0' : (Γ2.set 4 (.da (.int ((stir B).x % m))))[0]? = some .bag := by rw [List.getElem?_set_ne (by decide)]; exact g0
      have g1' : (Γ2.set 4 (.da (.int ((stir B).x % m))))[1]? = some (.da (.int m)) := by rw [List.getElem?_set_ne (by decide)]; exact g1
      have g4 : (Γ2.set 4 (.da (.int ((stir B).x % m))))[4]? = some (.da (.int ((stir B).x % m))) := List.getElem?_set_self (by omega)
      refine sj_bagSet (ej_fdiv (ej_int1 m_int (ej_bagAt (k := 0) (ej_bag 0 g0') ej_int rfl (.inl ⟨rfl, rfl⟩) fun _ _ => rfl)) (ej_dat 1 g1') (cdv hb hm)) (ej_bag 0 g0') ej_int (k := 0) rfl (.inl ⟨rfl, rfl⟩) ?_
      refine sj_ret (ej_dat 4 g4) ⟨?_, ?_⟩
      · unfold tkV; rw [if_pos h']
      · unfold tkB; rw [if_pos h']
    · have h' : ¬ 0 < (stir B).x := of_decide_eq_false h
      refine sj_set 5 G.nd (ej_mod (ej_int1 m_int (ej_mulC (ej_add (ej_bagAt (k := 1) (ej_bag 0 g0) ej_int rfl (.inr (.inl ⟨rfl, rfl⟩)) fun _ _ => rfl) ej_int) ej_int (.inr (by decide)))) ej_int (by decide)) ?_
      generalize hbg : (((stir B).y + 1) * 39373) % 1000000007 = bg
      have hb5 : 0 ≤ bg ∧ bg < 1000000007 := by rw [← hbg]; exact ⟨Int.emod_nonneg _ (by decide), Int.emod_lt_of_pos _ (by decide)⟩
      have g5 : (Γ2.set 5 (.da (.int bg)))[5]? = some (.da (.int bg)) := List.getElem?_set_self (by omega)
      refine sj_set 6 G.nd (ej_mod (ej_int1 m_int (ej_mulC (ej_mod (ej_int1 m_int (ej_mulC (ej_dat 5 g5) (ej_dat 5 g5) (.inl (by omega)))) ej_int (by decide)) ej_int (.inr (by decide)))) ej_int (by decide)) ?_
      have g6 : ((Γ2.set 5 (.da (.int bg))).set 6 (.da (.int ((bg * bg) % 998244353 * 30011 % 998244353))))[6]? = some (.da (.int ((bg * bg) % 998244353 * 30011 % 998244353))) := List.getElem?_set_self (by rw [List.length_set]; omega)
      have g1' : ((Γ2.set 5 (.da (.int bg))).set 6 (.da (.int ((bg * bg) % 998244353 * 30011 % 998244353))))[1]? = some (.da (.int m)) := by
        rw [List.getElem?_set_ne (by decide), List.getElem?_set_ne (by decide)]; exact g1
      refine sj_ret (ej_mod (ej_int1 m_int (ej_fdiv (ej_dat 6 g6) ej_int (cdv (show Bd 3 7 from by unfold Bd; decide) (by decide)))) (ej_dat 1 g1') hm) ⟨?_, ?_⟩
      · unfold tkV low; rw [if_neg h', hbg]
      · unfold tkB; rw [if_neg h']

abbrev s_l_some : Stmt := topS 12
theorem sc_l_some : FnScope ["_law_bag_here", "_law_things"] ["_law_bag_here", "_law_things"] (defScope s_l_some) := ⟨rfl, rfl, rfl, by decide +kernel, rfl, by decide +kernel, by decide +kernel⟩

theorem c_of_l_some (m_len : mg "len" = none) (c_l_take : Cal P w K mg base "_law_take" 4 R_take) (T : At K mg "_law_some" s_l_some ["_law_bag_here", "_law_things"]) : Cal P w K mg base "_law_some" 5 R_some :=
  cal_at T sc_l_some (by rintro _ _ _ _ ⟨⟩; rfl) fun f cd0 A out s H E G Γ B r B' hR => by
  obtain ⟨B, ds, h, hl, hc⟩ := hR
  have hb : Bd 8000 (ds.length : Int) := by
    have h10 : ds.length < 2 ^ 10 := by omega
    exact (Bd.nat h10).le (by decide)
  exact sj_ret (ej_ixL (ej_dat 1) (ej_call c_l_take (G.le (by decide)) (aj_cons (ej_bag 0) (aj_cons (ej_lenL m_len (ej_dat 1)) aj_nil)) (R_take.mk B _ (by omega) hb hc)) (pick_at ds B h) fun _ _ => rfl) ⟨rfl, rfl⟩


abbrev s_l_mixed : Stmt := topS 13
theorem sc_l_mixed : FnScope ["_law_bag_here", "_law_things", "_law_found", "_law_thing"] ["_law_bag_here", "_law_things"] (defScope s_l_mixed) := ⟨rfl, rfl, rfl, by decide +kernel, rfl, by decide +kernel, by decide +kernel⟩

theorem c_of_l_mixed (m_len : mg "len" = none) (c_l_take : Cal P w K mg base "_law_take" 4 R_take) (T : At K mg "_law_mixed" s_l_mixed ["_law_bag_here", "_law_things"]) : CalX P w K mg base "_law_mixed" 5 Pre_mixed Post_mixed :=
  calx_at T sc_l_mixed (by rintro _ _ ⟨t, ds, rfl, _⟩; rfl) fun f cd0 A out s0 H E0 G Γ B hPre => by
  obtain ⟨t, ds, rfl, hl, hf, okB⟩ := hPre
  have body : ∀ (z : VD) (zs : VD) (B' : Bag) (acc : List PyData) (k : Nat) (y : PyData) (fx : List VD → Bag → Prop) (rt : PyData → Bag → Prop) (bk ct : List VD → Bag → List PyData → Prop), Bok B' → acc.Perm (ds.take k) → ds[k]? = some y →
      OwJ (cxOf CX0 P w K mg base ["_law_bag_here", "_law_things", "_law_found", "_law_thing"] "_law_mixed" (defScope s_l_mixed) f cd0 A out s0 H E0).nox 2 [.bag, zs, .no, .da y] B' acc
        (match (defBody s_l_mixed).getD 1 (.Pass ⟨0, 0, 0, 0⟩) with | .For _ _ b _ _ => b | _ => [])
        { nx := fun Γ' B' acc' => (∃ z, Γ' = [.bag, zs, .no, z]) ∧ Bok B' ∧ acc'.Perm (ds.take (k + 1)), fx := fx, rt := rt, bk := bk, ct := ct } := by
    intro z zs B' acc k y fx rt bk ct ok hp hy
    have hk : k < ds.length := (List.getElem?_eq_some_iff.mp hy).1
    have hal : acc.length = k := by rw [hp.length_eq, List.length_take]; omega
    have t0 := tkV_ge B' (m := (acc.length : Int) + 1) (by omega)
    have t1 := tkV_lt B' (m := (acc.length : Int) + 1) (by omega)
    have ek : tkV B' ((acc.length : Int) + 1) = ((tkV B' ((acc.length : Int) + 1)).toNat : Int) := by omega
    refine ow_ins (k0 := (tkV B' ((acc.length : Int) + 1)).toNat) G.nd (oe_fz (ej_is (ej_call c_l_take (G.le (by decide)) (aj_cons (ej_bag 0) (aj_cons (ej_add (ej_lenL m_len (ej_dat 2)) ej_int) aj_nil)) (R_take.mk B' ((acc.length : Int) + 1) (by omega) (by unfold Bd; exact Nat.lt_of_lt_of_le (show _ < 2 ^ 20 by omega) (Nat.pow_le_pow_right (by decide) (by decide))) ok)) (congrArg PyData.int ek)) rfl)
      (oe_ej (ej_dat 3)) (by omega) (by omega) (ow_nil ⟨⟨_, rfl⟩, tkB_ok ok _, ?_⟩)
    rw [List.take_add_one, hy]
    refine List.Perm.trans ?_ (hp.append_right [y])
    generalize (tkV B' ((acc.length : Int) + 1)).toNat = n
    refine List.Perm.trans (List.Perm.append_right _ List.perm_append_comm) ?_
    rw [List.append_assoc, List.take_append_drop]
    exact List.perm_append_comm
  refine sj_own 2 G.nd (fj_lst (ds := []) aj_nil (by decide)) (show 3 ≤ _ from Nat.le_of_ble_eq_true rfl) ?_
  cases t with
  | true =>
    refine ow_forL (ds := ds) 3 G.nd G.calm (by decide) (fun k Γ' B' acc => (∃ z, Γ' = [.bag, .da (.list ds), .no, z]) ∧ Bok B' ∧ acc.Perm (ds.take k)) (ej_dat (d := .list ds) 1) ⟨⟨_, rfl⟩, okB, List.Perm.refl _⟩ (fun k y Γ' B' acc hy hP => ?_) (fun Γ' B' acc hP => ?_)
    · obtain ⟨⟨z, rfl⟩, ok, hp⟩ := hP
      exact body .no _ B' acc k y _ _ _ _ ok hp hy
    · obtain ⟨⟨z, rfl⟩, ok, hp⟩ := hP
      rw [List.take_length] at hp
      exact ow_end (sj_ret (ej_dat 2) ⟨ok, fun t2 ds2 e => by injection e with _ e; injection e with e _; injection e with e; cases t2 <;> (cases e) ; exact ⟨acc, rfl, hp⟩⟩)
  | false =>
    refine ow_forT (ds := ds) 3 G.nd G.calm (by decide) (fun k Γ' B' acc => (∃ z, Γ' = [.bag, .da (.tuple ds), .no, z]) ∧ Bok B' ∧ acc.Perm (ds.take k)) (ej_dat (d := .tuple ds) 1) ⟨⟨_, rfl⟩, okB, List.Perm.refl _⟩ (fun k y Γ' B' acc hy hP => ?_) (fun Γ' B' acc hP => ?_)
    · obtain ⟨⟨z, rfl⟩, ok, hp⟩ := hP
      exact body .no _ B' acc k y _ _ _ _ ok hp hy
    · obtain ⟨⟨z, rfl⟩, ok, hp⟩ := hP
      rw [List.take_length] at hp
      exact ow_end (sj_ret (ej_dat 2) ⟨ok, fun t2 ds2 e => by injection e with _ e; injection e with e _; injection e with e; cases t2 <;> (cases e) ; exact ⟨acc, rfl, hp⟩⟩)

abbrev s_l_alike : Stmt := topS 14
theorem sc_l_alike : FnScope ["_law_found", "_law_due"] ["_law_found", "_law_due"] (defScope s_l_alike) := ⟨rfl, rfl, rfl, by decide +kernel, rfl, by decide +kernel, by decide +kernel⟩

theorem c_of_l_alike (m_repr : mg "repr" = none) (T : At K mg "_law_alike" s_l_alike ["_law_found", "_law_due"]) : Cal P w K mg base "_law_alike" 4 R_alikeA :=
  cal_at T sc_l_alike (by rintro _ _ _ _ ⟨⟩; rfl) fun f cd0 A out s H E G Γ B r B' hR => by
  obtain ⟨d, B, h, hb⟩ := hR
  rcases hb with hb | rfl | ⟨b, rfl⟩ | ⟨i, rfl⟩
  · refine sj_ret (ej_and (ej_eq G.hu (ej_dat 0) (ej_dat 1) h.shaped h.shaped) fun _ => (ej_one (ej_eqS (ej_repr G m_repr (ej_dat 0) hb h.shows) (ej_repr G m_repr (ej_dat 1) hb h.shows)))) ⟨?_, rfl⟩
    rw [eqv_refl_of h.shaped, decide_eq_true rfl]; rfl
  · refine sj_ret (ej_and (ej_eq G.hu (ej_dat 0) (ej_dat 1) h.shaped h.shaped) fun _ => (ej_one (ej_eqS (ej_reprN m_repr (ej_dat 0)) (ej_reprN m_repr (ej_dat 1))))) ⟨?_, rfl⟩
    rw [eqv_refl_of h.shaped, decide_eq_true rfl]; rfl
  · refine sj_ret (ej_and (ej_eq G.hu (ej_dat 0) (ej_dat 1) h.shaped h.shaped) fun _ => (ej_one (ej_eqS (ej_reprL m_repr (ej_dat 0)) (ej_reprL m_repr (ej_dat 1))))) ⟨?_, rfl⟩
    rw [eqv_refl_of h.shaped, decide_eq_true rfl]; rfl
  · have hi : i.natAbs.log2 < 1920 := of_decide_eq_true h.nice
    refine sj_ret (ej_and (ej_eq G.hu (ej_dat 0) (ej_dat 1) h.shaped h.shaped) fun _ => (ej_one (ej_eqS (ej_reprI hi m_repr (ej_dat 0)) (ej_reprI hi m_repr (ej_dat 1))))) ⟨?_, rfl⟩
    rw [eqv_refl_of h.shaped, decide_eq_true rfl]; rfl

abbrev s_l_is_int : Stmt := topS 15
theorem sc_l_is_int : FnScope ["_law_thing"] ["_law_thing"] (defScope s_l_is_int) := ⟨rfl, rfl, rfl, by decide +kernel, rfl, by decide +kernel, by decide +kernel⟩

theorem c_of_l_is_int (m_isinstance : mg "isinstance" = none) (m_int : mg "int" = none) (m_bool : mg "bool" = none) (T : At K mg "_law_is_int" s_l_is_int ["_law_thing"]) : Cal P w K mg base "_law_is_int" 4 R_anyint :=
  cal_at T sc_l_is_int (by rintro _ _ _ _ ⟨⟩; rfl) fun f cd0 A out s H E0 G Γ B r B' hR => by
  obtain ⟨d, B⟩ := hR
  cases d with
  | int i => exact sj_ret (ej_and (x := true) (y := true) (ej_isi (T := "int") (r := true) m_isinstance m_int (ej_dat (d := .int i) 0)) fun _ => ej_one (ej_not (x := false) (ej_isi (T := "bool") (r := false) m_isinstance m_bool (ej_dat (d := .int i) 0)))) ⟨rfl, rfl⟩
  | bool i => exact sj_ret (ej_and (x := true) (y := false) (ej_isi (T := "int") (r := true) m_isinstance m_int (ej_dat (d := .bool i) 0)) fun _ => ej_one (ej_not (x := true) (ej_isi (T := "bool") (r := true) m_isinstance m_bool (ej_dat (d := .bool i) 0)))) ⟨rfl, rfl⟩
  | none => exact sj_ret (ej_and (x := false) (y := true) (ej_isi (T := "int") (r := false) m_isinstance m_int (ej_dat (d := .none) 0)) fun h => Bool.noConfusion h) ⟨rfl, rfl⟩
  | str x => exact sj_ret (ej_and (x := false) (y := true) (ej_isi (T := "int") (r := false) m_isinstance m_int (ej_dat (d := .str x) 0)) fun h => Bool.noConfusion h) ⟨rfl, rfl⟩
  | list x => exact sj_ret (ej_and (x := false) (y := true) (ej_isi (T := "int") (r := false) m_isinstance m_int (ej_dat (d := .list x) 0)) fun h => Bool.noConfusion h) ⟨rfl, rfl⟩
  | tuple x => exact sj_ret (ej_and (x := false) (y := true) (ej_isi (T := "int") (r := false) m_isinstance m_int (ej_dat (d := .tuple x) 0)) fun h => Bool.noConfusion h) ⟨rfl, rfl⟩
  | dict x => exact sj_ret (ej_and (x := false) (y := true) (ej_isi (T := "int") (r := false) m_isinstance m_int (ej_dat (d := .dict x) 0)) fun h => Bool.noConfusion h) ⟨rfl, rfl⟩

abbrev s_l_common : Stmt := topS 16
theorem sc_l_common : FnScope ["_law_one", "_law_other"] ["_law_one", "_law_other"] (defScope s_l_common) := ⟨rfl, rfl, rfl, by decide +kernel, rfl, by decide +kernel, by decide +kernel⟩

theorem c_of_l_common (m_abs : mg "abs" = none) (m_int : mg "int" = none) (T : At K mg "_law_common" s_l_common ["_law_one", "_law_other"]) : Cal P w K mg base "_law_common" 4 R_common :=
  cal_at T sc_l_common (by rintro _ _ _ _ ⟨⟩; rfl) fun f cd0 A out s H E G Γ B r B' hR => by
  obtain ⟨n, d, B⟩ := hR
  refine sj_par 0 1 G.nd G.calm (aj_cons (ej_abs m_abs (ej_dat 0)) (aj_cons (ej_abs m_abs (ej_dat 1)) aj_nil)) ?_ (by decide) (by rfl)
  refine sj_while G.nd (fun Γ' B' => ∃ a c : Nat, Γ' = [.da (.int a), .da (.int c)] ∧ Nat.gcd a c = Nat.gcd n.natAbs d.natAbs ∧ B' = B) (fun Γ' _ => (intAt Γ' 1).toNat)
    ⟨n.natAbs, d.natAbs, by rw [absI_nat, absI_nat]; rfl, rfl, rfl⟩ ?_
  rintro Γ' B' ⟨a, c, rfl, hg, rfl⟩
  refine ⟨_, tj_gt (ej_dat 1) ej_int, fun h => ?_, fun h => ?_⟩
  · have hc : 0 < c := by have := of_decide_eq_true h; omega
    refine sj_par 0 1 G.nd G.calm (aj_cons (ej_dat 1) (aj_cons (ej_mod (ej_int1 m_int (ej_dat 0)) (ej_dat 1) (by omega)) aj_nil)) (sj_nil ?_) (by decide) (by rfl)
    rw [← Int.natCast_emod]
    refine ⟨⟨c, a % c, rfl, ?_, rfl⟩, show ((a % c : Nat) : Int).toNat < (c : Int).toNat from ?_⟩
    · rw [← hg, Nat.gcd_comm a c, Nat.gcd_rec c a, Nat.gcd_comm]
    · have := Nat.mod_lt a hc; omega
  · have hc : c = 0 := by have := of_decide_eq_false h; omega
    subst hc
    rw [Nat.gcd_zero_right] at hg
    exact sj_ret (ej_dat 0) ⟨by rw [hg], rfl⟩

abbrev s_l_to : Stmt := topS 17
theorem sc_l_to : FnScope ["_law_base", "_law_n", "_law_found", "_law_factor"] ["_law_base", "_law_n"] (defScope s_l_to) := ⟨rfl, rfl, rfl, by decide +kernel, rfl, by decide +kernel, by decide +kernel⟩

theorem c_of_l_to (m_int : mg "int" = none) (T : At K mg "_law_to" s_l_to ["_law_base", "_law_n"]) : Cal P w K mg base "_law_to" 4 R_pow :=
  cal_at T sc_l_to (by rintro _ _ _ _ ⟨⟩; rfl) fun f cd0 A out s H E G Γ B r B' hR => by
  obtain ⟨b, e, B, hb, he⟩ := hR
  refine sj_par 2 3 G.nd G.calm (aj_cons ej_int (aj_cons (ej_dat 0) aj_nil)) ?_ (by decide) (by rfl)
  refine sj_while G.nd (fun Γ' B' => ∃ k m j : Nat, Γ' = [.da (.int b), .da (.int m), .da (.int ((b ^ j : Nat) : Int)), .da (.int ((b ^ k : Nat) : Int))] ∧ j + k * m = e ∧ B' = B) (fun Γ' _ => (intAt Γ' 1).toNat)
    ⟨1, e, 0, by rw [Nat.pow_one]; rfl, by omega, rfl⟩ ?_
  rintro Γ' B' ⟨k, m, j, rfl, hk, rfl⟩
  refine ⟨_, tj_gt (ej_dat 1) ej_int, fun h => ?_, fun h => ?_⟩
  · have hm : 0 < m := by have := of_decide_eq_true h; omega
    obtain ⟨k1, j1⟩ := k_le hk hm
    refine sj_ifM (fun Γ' B2 => ∃ j' : Nat, Γ' = [.da (.int b), .da (.int m), .da (.int ((b ^ j' : Nat) : Int)), .da (.int ((b ^ k : Nat) : Int))] ∧ j' + (k + k) * (m / 2) = e ∧ B2 = B') (tj_eqI G.hu (ej_mod (ej_int1 m_int (ej_dat 1)) ej_int (by decide)) ej_int) (fun h1 => ?_) (fun h1 => ?_) ?_
    · refine sj_set 2 G.nd (ej_mul (ej_dat 2) (ej_dat 3) (cm (bd_pow j hb) (bd_pow k hb) (by omega))) (sj_nil ?_)
      rw [pow_up]
      exact ⟨j + k, rfl, turn_odd hk (by have := of_decide_eq_true h1; omega), rfl⟩
    · exact sj_nil ⟨j, rfl, turn_even hk (by have := of_decide_eq_false h1; omega), rfl⟩
    · rintro Γ2 B2 ⟨j', rfl, hj', rfl⟩
      refine sj_par 3 1 G.nd G.calm (aj_cons (ej_mul (ej_dat 3) (ej_dat 3) (cm (bd_pow k hb) (bd_pow k hb) (by omega))) (aj_cons (ej_fdiv (ej_int1 m_int (ej_dat 1)) ej_int (cdv (show Bd 2 2 from by unfold Bd; decide) (by decide))) aj_nil)) (sj_nil ?_) (by decide) (by rfl)
      rw [pow_sq, half]
      exact ⟨⟨k + k, m / 2, j', rfl, hj', rfl⟩, show ((m / 2 : Nat) : Int).toNat < (m : Int).toNat by omega⟩
  · have hm : ¬ 0 < m := by have := of_decide_eq_false h; omega
    have := j_end hk hm
    subst this
    exact sj_ret (ej_dat 2) ⟨rfl, rfl⟩

abbrev s_l_over : Stmt := topS 18
theorem sc_l_over : FnScope ["_law_n", "_law_d", "_law_shared"] ["_law_n", "_law_d"] (defScope s_l_over) := ⟨rfl, rfl, rfl, by decide +kernel, rfl, by decide +kernel, by decide +kernel⟩

theorem c_of_l_over (m_int : mg "int" = none) (c_l_common : Cal P w K mg base "_law_common" 4 R_common) (T : At K mg "_law_over" s_l_over ["_law_n", "_law_d"]) : Cal P w K mg base "_law_over" 5 R_reduced :=
  cal_at T sc_l_over (by rintro _ _ _ _ ⟨⟩; rfl) fun f cd0 A out s H E G Γ B r B' hR => by
  obtain ⟨n, d, B, hd, hb⟩ := hR
  have cx : ∀ m, CDivX m (com n d) := fun m => cdx (com_bd hd hb) (com_ne hd)
  refine sj_set 2 G.nd (ej_call c_l_common (G.le (by decide)) (aj_cons (ej_dat 0) (aj_cons (ej_dat 1) aj_nil)) (R_common.mk n d B)) ?_
  refine sj_set 2 G.nd (ej_is (ej_ifI (tj_gt (ej_dat 1) ej_int) (fun _ => (ej_dat 2)) fun _ => (ej_neg (ej_dat 2))) (congrArg PyData.int (com_if (n := n) hd))) ?_
  exact sj_ret (ej_tupD (ad_cons (ej_fdivX (ej_int1 m_int (ej_dat 0)) (ej_dat 2) (cx _)) (ad_cons (ej_fdivX (ej_int1 m_int (ej_dat 1)) (ej_dat 2) (cx _)) ad_nil)) (Nat.le_of_ble_eq_true rfl)) ⟨by rw [red_num hd, red_den hd]; rfl, rfl⟩

abbrev s_l_formats : Stmt := topS 19
theorem sc_l_formats : FnScope ["_law_bag_here", "_law_small"] ["_law_bag_here"] (defScope s_l_formats) := ⟨rfl, rfl, rfl, by decide +kernel, rfl, by decide +kernel, by decide +kernel⟩

theorem c_of_l_formats (c_l_some : Cal P w K mg base "_law_some" 5 R_some) (T : At K mg "_law_formats" s_l_formats ["_law_bag_here"]) : Cal P w K mg base "_law_formats" 6 (R_fmt smallV smallB) :=
  cal_at T sc_l_formats (by rintro _ _ _ _ ⟨⟩; rfl) fun f cd0 A out s H E G Γ B r B' hR => by
  obtain ⟨B, hc⟩ := hR
  refine sj_set 1 G.nd (ej_is (y := .list (([(2, 2, 0, 0), (2, 2, -3, 2), (2, 3, -4, 3), (4, 2, -2, 1), (10, 2, -2, 1), (6, 2, -1, 2), (2, 4, -2, 2)] : List F4).map F4.d)) (ej_lstD (ad_cons (ej_tupD (ad_cons ej_int (ad_cons ej_int (ad_cons ej_int (ad_cons ej_int ad_nil)))) (Nat.le_of_ble_eq_true rfl)) (ad_cons (ej_tupD (ad_cons ej_int (ad_cons ej_int (ad_cons (ej_neg ej_int) (ad_cons ej_int ad_nil)))) (Nat.le_of_ble_eq_true rfl)) (ad_cons (ej_tupD (ad_cons ej_int (ad_cons ej_int (ad_cons (ej_neg ej_int) (ad_cons ej_int ad_nil)))) (Nat.le_of_ble_eq_true rfl)) (ad_cons (ej_tupD (ad_cons ej_int (ad_cons ej_int (ad_cons (ej_neg ej_int) (ad_cons ej_int ad_nil)))) (Nat.le_of_ble_eq_true rfl)) (ad_cons (ej_tupD (ad_cons ej_int (ad_cons ej_int (ad_cons (ej_neg ej_int) (ad_cons ej_int ad_nil)))) (Nat.le_of_ble_eq_true rfl)) (ad_cons (ej_tupD (ad_cons ej_int (ad_cons ej_int (ad_cons (ej_neg ej_int) (ad_cons ej_int ad_nil)))) (Nat.le_of_ble_eq_true rfl)) (ad_cons (ej_tupD (ad_cons ej_int (ad_cons ej_int (ad_cons (ej_neg ej_int) (ad_cons ej_int ad_nil)))) (Nat.le_of_ble_eq_true rfl)) ad_nil))))))) (Nat.le_of_ble_eq_true rfl)) rfl) ?_
  have r := R_some.mk B (smallF.map F4.d) (by decide) (by decide) hc
  rw [pick_fm smallF B (by decide)] at r
  exact sj_ret (ej_call c_l_some (G.le (by decide)) (aj_cons (ej_bag 0) (aj_cons (ej_is (y := .list (smallF.map F4.d)) (ej_catL (ej_dat 1) (ej_lstD (ad_cons (ej_tupD (ad_cons ej_int (ad_cons ej_int (ad_cons ej_int (ad_cons ej_int ad_nil)))) (Nat.le_of_ble_eq_true rfl)) (ad_cons (ej_tupD (ad_cons ej_int (ad_cons ej_int (ad_cons ej_int (ad_cons ej_int ad_nil)))) (Nat.le_of_ble_eq_true rfl)) (ad_cons (ej_tupD (ad_cons ej_int (ad_cons ej_int (ad_cons (ej_neg ej_int) (ad_cons (ej_neg ej_int) ad_nil)))) (Nat.le_of_ble_eq_true rfl)) ad_nil))) (Nat.le_of_ble_eq_true rfl)) (Nat.le_of_ble_eq_true rfl)) rfl) aj_nil)) r) ⟨rfl, rfl⟩

abbrev s_l_wide_format : Stmt := topS 20
theorem sc_l_wide_format : FnScope ["_law_bag_here", "_law_some_here", "_law_far"] ["_law_bag_here"] (defScope s_l_wide_format) := ⟨rfl, rfl, rfl, by decide +kernel, rfl, by decide +kernel, by decide +kernel⟩

theorem c_of_l_wide_format (c_l_some : Cal P w K mg base "_law_some" 5 R_some) (c_l_take : Cal P w K mg base "_law_take" 4 R_take) (T : At K mg "_law_wide_format" s_l_wide_format ["_law_bag_here"]) : Cal P w K mg base "_law_wide_format" 6 (R_fmt wideV wideB) :=
  cal_at T sc_l_wide_format (by rintro _ _ _ _ ⟨⟩; rfl) fun f cd0 A out s H E G Γ B r B' hR => by
  obtain ⟨B, hc⟩ := hR
  refine sj_set 1 G.nd (ej_is (y := .list (([(2, 24, -149, 104), (2, 11, -24, 5), (10, 7, -101, 90), (36, 3, -5, 4), (16, 6, -70, 57), (10, 34, -60, 40)] : List F4).map F4.d)) (ej_lstD (ad_cons (ej_tupD (ad_cons ej_int (ad_cons ej_int (ad_cons (ej_neg ej_int) (ad_cons ej_int ad_nil)))) (Nat.le_of_ble_eq_true rfl)) (ad_cons (ej_tupD (ad_cons ej_int (ad_cons ej_int (ad_cons (ej_neg ej_int) (ad_cons ej_int ad_nil)))) (Nat.le_of_ble_eq_true rfl)) (ad_cons (ej_tupD (ad_cons ej_int (ad_cons ej_int (ad_cons (ej_neg ej_int) (ad_cons ej_int ad_nil)))) (Nat.le_of_ble_eq_true rfl)) (ad_cons (ej_tupD (ad_cons ej_int (ad_cons ej_int (ad_cons (ej_neg ej_int) (ad_cons ej_int ad_nil)))) (Nat.le_of_ble_eq_true rfl)) (ad_cons (ej_tupD (ad_cons ej_int (ad_cons ej_int (ad_cons (ej_neg ej_int) (ad_cons ej_int ad_nil)))) (Nat.le_of_ble_eq_true rfl)) (ad_cons (ej_tupD (ad_cons ej_int (ad_cons ej_int (ad_cons (ej_neg ej_int) (ad_cons ej_int ad_nil)))) (Nat.le_of_ble_eq_true rfl)) ad_nil)))))) (Nat.le_of_ble_eq_true rfl)) rfl) ?_
  refine sj_set 1 G.nd (ej_is (y := .list ((([(2, 24, -149, 104), (2, 11, -24, 5), (10, 7, -101, 90), (36, 3, -5, 4), (16, 6, -70, 57), (10, 34, -60, 40)] : List F4) ++ ([(2, 8, -133, 120), (20, 2, 0, 3), (10, 16, -98, 69), (2, 53, -120, 60), (10, 20, 5, 60)] : List F4)).map F4.d)) (ej_catL (ej_dat 1) (ej_lstD (ad_cons (ej_tupD (ad_cons ej_int (ad_cons ej_int (ad_cons (ej_neg ej_int) (ad_cons ej_int ad_nil)))) (Nat.le_of_ble_eq_true rfl)) (ad_cons (ej_tupD (ad_cons ej_int (ad_cons ej_int (ad_cons ej_int (ad_cons ej_int ad_nil)))) (Nat.le_of_ble_eq_true rfl)) (ad_cons (ej_tupD (ad_cons ej_int (ad_cons ej_int (ad_cons (ej_neg ej_int) (ad_cons ej_int ad_nil)))) (Nat.le_of_ble_eq_true rfl)) (ad_cons (ej_tupD (ad_cons ej_int (ad_cons ej_int (ad_cons (ej_neg ej_int) (ad_cons ej_int ad_nil)))) (Nat.le_of_ble_eq_true rfl)) (ad_cons (ej_tupD (ad_cons ej_int (ad_cons ej_int (ad_cons ej_int (ad_cons ej_int ad_nil)))) (Nat.le_of_ble_eq_true rfl)) ad_nil))))) (Nat.le_of_ble_eq_true rfl)) (Nat.le_of_ble_eq_true rfl)) rfl) ?_
  refine sj_set 1 G.nd (ej_is (y := .list (worldF.map F4.d)) (ej_catL (ej_dat 1) (ej_lstD (ad_cons (ej_tupD (ad_cons ej_int (ad_cons ej_int (ad_cons (ej_neg ej_int) (ad_cons (ej_neg ej_int) ad_nil)))) (Nat.le_of_ble_eq_true rfl)) (ad_cons (ej_tupD (ad_cons ej_int (ad_cons ej_int (ad_cons (ej_neg ej_int) (ad_cons ej_int ad_nil)))) (Nat.le_of_ble_eq_true rfl)) (ad_cons (ej_tupD (ad_cons ej_int (ad_cons ej_int (ad_cons ej_int (ad_cons ej_int ad_nil)))) (Nat.le_of_ble_eq_true rfl)) ad_nil))) (Nat.le_of_ble_eq_true rfl)) (Nat.le_of_ble_eq_true rfl)) rfl) ?_
  refine sj_set 2 G.nd (ej_is (y := .list (([(2, 53, -1074, 971), (10, 16, -398, 369), (36, 120, -200, 200), (2, 120, -1200, 1080), (10, 100, -700, 700)] : List F4).map F4.d)) (ej_lstD (ad_cons (ej_tupD (ad_cons ej_int (ad_cons ej_int (ad_cons (ej_neg ej_int) (ad_cons ej_int ad_nil)))) (Nat.le_of_ble_eq_true rfl)) (ad_cons (ej_tupD (ad_cons ej_int (ad_cons ej_int (ad_cons (ej_neg ej_int) (ad_cons ej_int ad_nil)))) (Nat.le_of_ble_eq_true rfl)) (ad_cons (ej_tupD (ad_cons ej_int (ad_cons ej_int (ad_cons (ej_neg ej_int) (ad_cons ej_int ad_nil)))) (Nat.le_of_ble_eq_true rfl)) (ad_cons (ej_tupD (ad_cons ej_int (ad_cons ej_int (ad_cons (ej_neg ej_int) (ad_cons ej_int ad_nil)))) (Nat.le_of_ble_eq_true rfl)) (ad_cons (ej_tupD (ad_cons ej_int (ad_cons ej_int (ad_cons (ej_neg ej_int) (ad_cons ej_int ad_nil)))) (Nat.le_of_ble_eq_true rfl)) ad_nil))))) (Nat.le_of_ble_eq_true rfl)) rfl) ?_
  refine sj_set 2 G.nd (ej_is (y := .list (farF.map F4.d)) (ej_catL (ej_dat 2) (ej_lstD (ad_cons (ej_tupD (ad_cons ej_int (ad_cons ej_int (ad_cons (ej_neg ej_int) (ad_cons ej_int ad_nil)))) (Nat.le_of_ble_eq_true rfl)) (ad_cons (ej_tupD (ad_cons ej_int (ad_cons ej_int (ad_cons (ej_neg ej_int) (ad_cons ej_int ad_nil)))) (Nat.le_of_ble_eq_true rfl)) (ad_cons (ej_tupD (ad_cons ej_int (ad_cons ej_int (ad_cons (ej_neg ej_int) (ad_cons ej_int ad_nil)))) (Nat.le_of_ble_eq_true rfl)) ad_nil))) (Nat.le_of_ble_eq_true rfl)) (Nat.le_of_ble_eq_true rfl)) rfl) ?_
  unfold wideV wideB
  have hc4 := tkB_ok hc 4
  by_cases h : 0 < tkV B 4
  · rw [if_pos h, if_pos h]
    have r := R_some.mk (tkB B 4) (worldF.map F4.d) (by decide) (by decide) hc4
    rw [pick_fm worldF (tkB B 4) (by decide)] at r
    exact sj_ret (ej_call c_l_some (G.le (by decide)) (aj_cons (ej_bag 0) (aj_cons (ej_if (x := true) (d := .da (.list (worldF.map F4.d))) (tj_is (tj_gt (ej_call c_l_take (G.le (by decide)) (aj_cons (ej_bag 0) (aj_cons ej_int aj_nil)) (R_take.mk B 4 (by decide) (by unfold Bd; decide +kernel) hc)) ej_int) (decide_eq_true h)) (fun _ => ej_dat 1) (fun h => Bool.noConfusion h)) aj_nil)) r) ⟨rfl, rfl⟩
  · rw [if_neg h, if_neg h]
    have r := R_some.mk (tkB B 4) (farF.map F4.d) (by decide) (by decide) hc4
    rw [pick_fm farF (tkB B 4) (by decide)] at r
    exact sj_ret (ej_call c_l_some (G.le (by decide)) (aj_cons (ej_bag 0) (aj_cons (ej_if (x := false) (d := .da (.list (farF.map F4.d))) (tj_is (tj_gt (ej_call c_l_take (G.le (by decide)) (aj_cons (ej_bag 0) (aj_cons ej_int aj_nil)) (R_take.mk B 4 (by decide) (by unfold Bd; decide +kernel) hc)) ej_int) (decide_eq_false h)) (fun h => Bool.noConfusion h) (fun _ => ej_dat 2)) aj_nil)) r) ⟨rfl, rfl⟩

abbrev s_l_ways : Stmt := topS 21
theorem sc_l_ways : FnScope [] [] (defScope s_l_ways) := ⟨rfl, rfl, rfl, by decide +kernel, rfl, by decide +kernel, by decide +kernel⟩

theorem c_of_l_ways (T : At K mg "_law_ways" s_l_ways []) : Cal P w K mg base "_law_ways" 4 R_ways :=
  cal_at T sc_l_ways (by rintro _ _ _ _ ⟨⟩; rfl) fun f cd0 A out s H E G Γ B r B' hR => by
  obtain ⟨B⟩ := hR
  exact sj_ret (ej_lstD (ad_cons ej_str (ad_cons ej_str (ad_cons ej_str (ad_cons ej_str (ad_cons ej_str ad_nil))))) (by decide)) ⟨rfl, rfl⟩

abbrev s_l_is_fraction : Stmt := topS 22
theorem sc_l_is_fraction : FnScope ["_law_thing"] ["_law_thing"] (defScope s_l_is_fraction) := ⟨rfl, rfl, rfl, by decide +kernel, rfl, by decide +kernel, by decide +kernel⟩

theorem c_of_l_is_fraction /-H-/ (m_isinstance : mg "isinstance" = none) (m_tuple : mg "tuple" = none) (m_len : mg "len" = none) (c_l_is_int : Cal P w K mg base "_law_is_int" 4 R_anyint) (c_l_common : Cal P w K mg base "_law_common" 4 R_common) /-E-/ (T : At K mg "_law_is_fraction" s_l_is_fraction ["_law_thing"]) : Cal P w K mg base "_law_is_fraction" 5 (R_anyB jFrac) :=
  cal_at T sc_l_is_fraction (by rintro _ _ _ _ ⟨⟩; rfl) fun f cd0 A out s H E0 G Γ B r B' hR => by
  obtain ⟨d, B, hd, hl⟩ := hR
  by_cases h : tupB d = true
  · obtain ⟨ds, rfl⟩ := tupB_inv h
    by_cases c : ds.length = 2
    · match ds, c with
      | [x, y], _ =>
        refine sj_when (x := !intB x || !intB y) (tj_w (wj_or (x := false) (y := !intB x || !intB y) (tj_not (x := true) (tj_val (ej_isi (T := "tuple") (r := true) m_isinstance m_tuple (ej_dat (d := .tuple [x, y]) 0)))) fun _ => wj_or (x := false) (y := !intB x || !intB y) (tj_is (tj_neI G.hu (ej_lenT (ds := [x, y]) m_len (ej_dat (d := .tuple [x, y]) 0)) ej_int) rfl) fun _ => wj_or (tj_not (tj_val (ej_call c_l_is_int (G.le (by decide)) (aj_cons (ej_at (y := x) (ej_dat (d := .tuple [x, y]) 0)) aj_nil) (R_anyint.mk x B)))) fun _ => wj_or1 (tj_not (tj_val (ej_call c_l_is_int (G.le (by decide)) (aj_cons (ej_at (y := y) (ej_dat (d := .tuple [x, y]) 0)) aj_nil) (R_anyint.mk y B)))))) (fun h => ?_) (fun h => ?_)
        · refine sj_ret ej_bl ⟨congrArg PyData.bool (jFrac_int ?_).symm, rfl⟩
          cases h1 : intB x <;> cases h2 : intB y <;> first | rfl | (rw [h1, h2] at h; cases h)
        · have h : (intB x && intB y) = true := by
            cases h1 : intB x <;> cases h2 : intB y <;> first | rfl | (rw [h1, h2] at h; cases h)
          rw [Bool.and_eq_true] at h
          obtain ⟨n, rfl⟩ := intB_inv h.1
          obtain ⟨m, rfl⟩ := intB_inv h.2
          exact sj_ret (ej_and (x := decide (1 ≤ m)) (y := decide (Nat.gcd n.natAbs m.natAbs = 1)) (ej_is (ej_gt (ej_at (y := .int m) (ej_dat (d := .tuple [.int n, .int m]) 0)) ej_int) (congrArg PyData.bool (decide_eq_decide.mpr (by omega)))) fun _ => ej_one (ej_is (ej_eqI G.hu (ej_call c_l_common (G.le (by decide)) (aj_cons (ej_at (y := .int n) (ej_dat (d := .tuple [.int n, .int m]) 0)) (aj_cons (ej_at (y := .int m) (ej_dat (d := .tuple [.int n, .int m]) 0)) aj_nil)) (R_common.mk n m B)) ej_int) (congrArg PyData.bool (decide_eq_decide.mpr (by omega))))) ⟨rfl, rfl⟩
    · refine sj_when (x := true) (tj_w (wj_or (x := false) (y := true) (tj_not (x := true) (tj_val (ej_isi (T := "tuple") (r := true) m_isinstance m_tuple (ej_dat (d := .tuple ds) 0)))) fun _ => wj_orT (tj_is (tj_neI G.hu (ej_lenT (ds := ds) m_len (ej_dat (d := .tuple ds) 0)) ej_int) (by rw [decide_eq_false (by omega)]; rfl)))) (fun _ => sj_ret ej_bl ⟨congrArg PyData.bool (jFrac_len c).symm, rfl⟩) (fun h => Bool.noConfusion h)
  · have h : tupB d = false := by simpa using h
    refine sj_when (x := true) (tj_w (wj_orT (tj_is (tj_not (tj_val (ej_isT m_isinstance m_tuple (ej_dat (d := d) 0)))) (by rw [h]; rfl)))) (fun _ => sj_ret ej_bl ⟨?_, rfl⟩) (fun h => Bool.noConfusion h)
    cases d <;> first | rfl | cases h

abbrev s_l_is_format : Stmt := topS 23
theorem sc_l_is_format : FnScope ["_law_thing", "_law_base", "_law_digits", "_law_low", "_law_high", "_law_one"] ["_law_thing"] (defScope s_l_is_format) := ⟨rfl, rfl, rfl, by decide +kernel, rfl, by decide +kernel, by decide +kernel⟩

theorem c_of_l_is_format /-H-/ (m_isinstance : mg "isinstance" = none) (m_tuple : mg "tuple" = none) (m_len : mg "len" = none) (m_int : mg "int" = none) (c_l_is_int : Cal P w K mg base "_law_is_int" 4 R_anyint) /-E-/ (T : At K mg "_law_is_format" s_l_is_format ["_law_thing"]) : Cal P w K mg base "_law_is_format" 5 (R_anyB jForm) :=
  cal_at T sc_l_is_format (by rintro _ _ _ _ ⟨⟩; rfl) fun f cd0 A out s H E0 G Γ B r B' hR => by
  obtain ⟨d, B, hd, hl⟩ := hR
  by_cases h : tupB d = true
  · obtain ⟨ds, rfl⟩ := tupB_inv h
    by_cases c : ds.length = 4
    · match ds, c with
      | [x, y, z, u], _ =>
        refine sj_when (x := !(([x, y, z, u].filter fun v => !intB v).map id).isEmpty) (tj_w (wj_or (x := false) (tj_not (x := true) (tj_val (ej_isi (T := "tuple") (r := true) m_isinstance m_tuple (ej_dat (d := .tuple [x, y, z, u]) 0)))) fun _ => wj_or (x := false) (tj_is (tj_neI G.hu (ej_lenT (ds := [x, y, z, u]) m_len (ej_dat (d := .tuple [x, y, z, u]) 0)) ej_int) rfl) fun _ => wj_or1 (tj_neLE G.hu (ej_lcF1T (j := 5) (x := "_law_one") G.nd G.calm (blkOk_by (N := ["_law_thing", "_law_base", "_law_digits", "_law_low", "_law_high", "_law_one"]) (sc := defScope s_l_is_format) (by decide +kernel)) (fun _ _ _ _ _ => pg_name (i := 5) G.nd rfl (Or.inl rfl))
          (rj_lcF1T [x, y, z, u] id id (fun v => !intB v) (ej_dat (d := .tuple [x, y, z, u]) 0) (Nat.le_of_ble_eq_true rfl) (fun i hi s0 H0 C cl fp => tj_not (tj_val (ej_call c_l_is_int ⟨G.gd, G.rm.mono (by decide), G.nd, G.calm⟩ (aj_cons (ej_dat (d := i) 5) aj_nil) (R_anyint.mk i B)))) (fun i hi hf s0 H0 C cl fp => ej_dat (d := i) 5))) (ej_lstD ad_nil (Nat.le_of_ble_eq_true rfl))))) (fun h => ?_) (fun h => ?_)
        · refine sj_ret ej_bl ⟨congrArg PyData.bool (jForm_int ?_).symm, rfl⟩
          rw [List.map_id] at h
          cases h1 : intB x <;> cases h2 : intB y <;> cases h3 : intB z <;> cases h4 : intB u <;> first | rfl | (simp [h1, h2, h3, h4] at h)
        · have h : (intB x && (intB y && (intB z && intB u))) = true := by
            rw [List.map_id] at h
            cases h1 : intB x <;> cases h2 : intB y <;> cases h3 : intB z <;> cases h4 : intB u <;> first | rfl | (simp [h1, h2, h3, h4] at h)
          rw [Bool.and_eq_true, Bool.and_eq_true, Bool.and_eq_true] at h
          obtain ⟨h1, h2, h3, h4⟩ := h
          obtain ⟨b, rfl⟩ := intB_inv h1
          obtain ⟨p, rfl⟩ := intB_inv h2
          obtain ⟨lo, rfl⟩ := intB_inv h3
          obtain ⟨hi, rfl⟩ := intB_inv h4
          refine sj_unpack [1, 2, 3, 4] G.calm (ej_dat (d := .tuple [.int b, .int p, .int lo, .int hi]) 0) (pgs_cons (pgN 1 G.nd) (pgs_cons (pgN 2 G.nd) (pgs_cons (pgN 3 G.nd) (pgs_cons (pgN 4 G.nd) pgs_nil)))) rfl ?_
          rw [show jForm (.tuple [.int b, .int p, .int lo, .int hi]) = okFm b p lo hi from rfl]
          refine sj_when (x := !(decide (2 ≤ b) && decide (b ≤ 36)) || (!decide (b % 2 = 0) || !(decide (2 ≤ p) && decide (p ≤ 120)))) (tj_w (wj_or (tj_not (tj_chain ej_int (ej_dat (d := .int b) 1) ej_int op_le op_le rfl rfl)) fun _ => wj_or (tj_neI G.hu (ej_mod (ej_int1 m_int (ej_dat (d := .int b) 1)) ej_int (by decide)) ej_int) fun _ => wj_or1 (tj_not (tj_chain ej_int (ej_dat (d := .int p) 2) ej_int op_le op_le rfl rfl)))) (fun h => ?_) (fun h => ?_)
          · refine sj_ret ej_bl ⟨congrArg PyData.bool ?_, rfl⟩
            simp only [Bool.or_eq_true, Bool.not_eq_true', Bool.and_eq_false_iff, decide_eq_true_eq, decide_eq_false_iff_not] at h
            unfold okFm
            exact (decide_eq_false (by omega)).symm
          · simp only [Bool.or_eq_false_iff, Bool.not_eq_false', Bool.and_eq_true, decide_eq_true_eq] at h
            refine sj_ret (ej_chain3 (ej_neg ej_int) (ej_dat (d := .int lo) 3) (ej_dat (d := .int hi) 4) ej_int op_le op_le op_le rfl rfl rfl) ⟨congrArg PyData.bool ?_, rfl⟩
            unfold okFm
            rw [← Bool.decide_and, ← Bool.decide_and]
            exact decide_eq_decide.mpr (by omega)
    · exact sj_when (x := true) (tj_w (wj_or (x := false) (y := true) (tj_not (x := true) (tj_val (ej_isi (T := "tuple") (r := true) m_isinstance m_tuple (ej_dat (d := .tuple ds) 0)))) fun _ => wj_orT (tj_is (tj_neI G.hu (ej_lenT (ds := ds) m_len (ej_dat (d := .tuple ds) 0)) ej_int) (by rw [decide_eq_false (by omega)]; rfl)))) (fun _ => sj_ret ej_bl ⟨congrArg PyData.bool (jForm_len c).symm, rfl⟩) (fun h => Bool.noConfusion h)
  · have h : tupB d = false := by simpa using h
    refine sj_when (x := true) (tj_w (wj_orT (tj_is (tj_not (tj_val (ej_isT m_isinstance m_tuple (ej_dat (d := d) 0)))) (by rw [h]; rfl)))) (fun _ => sj_ret ej_bl ⟨?_, rfl⟩) (fun h => Bool.noConfusion h)
    cases d <;> first | rfl | cases h

abbrev s_l_is_way : Stmt := topS 24
theorem sc_l_is_way : FnScope ["_law_thing"] ["_law_thing"] (defScope s_l_is_way) := ⟨rfl, rfl, rfl, by decide +kernel, rfl, by decide +kernel, by decide +kernel⟩

theorem c_of_l_is_way /-H-/ (m_isinstance : mg "isinstance" = none) (m_str : mg "str" = none) (c_l_ways : Cal P w K mg base "_law_ways" 4 R_ways) /-E-/ (T : At K mg "_law_is_way" s_l_is_way ["_law_thing"]) : Cal P w K mg base "_law_is_way" 5 (R_anyB jWay) :=
  cal_at T sc_l_is_way (by rintro _ _ _ _ ⟨⟩; rfl) fun f cd0 A out s H E0 G Γ B r B' hR => by
  obtain ⟨d, B, hd, hl⟩ := hR
  cases d with
  | none => exact sj_ret (ej_and (x := false) (y := false) (ej_isi (T := "str") (r := false) m_isinstance m_str (ej_dat (d := .none) 0)) fun h => Bool.noConfusion h) ⟨rfl, rfl⟩
  | bool i => exact sj_ret (ej_and (x := false) (y := false) (ej_isi (T := "str") (r := false) m_isinstance m_str (ej_dat (d := .bool i) 0)) fun h => Bool.noConfusion h) ⟨rfl, rfl⟩
  | int i => exact sj_ret (ej_and (x := false) (y := false) (ej_isi (T := "str") (r := false) m_isinstance m_str (ej_dat (d := .int i) 0)) fun h => Bool.noConfusion h) ⟨rfl, rfl⟩
  | list i => exact sj_ret (ej_and (x := false) (y := false) (ej_isi (T := "str") (r := false) m_isinstance m_str (ej_dat (d := .list i) 0)) fun h => Bool.noConfusion h) ⟨rfl, rfl⟩
  | tuple i => exact sj_ret (ej_and (x := false) (y := false) (ej_isi (T := "str") (r := false) m_isinstance m_str (ej_dat (d := .tuple i) 0)) fun h => Bool.noConfusion h) ⟨rfl, rfl⟩
  | dict i => exact sj_ret (ej_and (x := false) (y := false) (ej_isi (T := "str") (r := false) m_isinstance m_str (ej_dat (d := .dict i) 0)) fun h => Bool.noConfusion h) ⟨rfl, rfl⟩
  | str x => exact sj_ret (ej_and (x := true) (y := wayList.any fun s => decide (s = x)) (ej_isi (T := "str") (r := true) m_isinstance m_str (ej_dat (d := .str x) 0)) fun _ => ej_one (ej_inTL (ss := wayList) (ej_dat (d := .str x) 0) (ej_is (ej_call0 c_l_ways (G.le (by decide)) (R_ways.mk B)) rfl))) ⟨rfl, rfl⟩

abbrev s_l_are_flags : Stmt := topS 25
theorem sc_l_are_flags : FnScope ["_law_thing", "_law_words", "_law_one", "_law_word"] ["_law_thing"] (defScope s_l_are_flags) := ⟨rfl, rfl, rfl, by decide +kernel, rfl, by decide +kernel, by decide +kernel⟩

theorem c_of_l_are_flags /-H-/ (m_isinstance : mg "isinstance" = none) (m_tuple : mg "tuple" = none) (m_str : mg "str" = none) (m_list : mg "list" = none) /-E-/ (T : At K mg "_law_are_flags" s_l_are_flags ["_law_thing"]) : Cal P w K mg base "_law_are_flags" 5 R_flags :=
  cal_at T sc_l_are_flags (by rintro _ _ _ _ ⟨⟩; rfl) fun f cd0 A out s H E0 G Γ B r B' hR => by
  obtain ⟨d, B, hd, hl⟩ := hR
  by_cases h : tupB d = true
  · obtain ⟨ds, rfl⟩ := tupB_inv h
    refine sj_when (x := !((ds.filter fun v => !strB v).map id).isEmpty) (tj_w (wj_or (x := false) (tj_not (x := true) (tj_val (ej_isT m_isinstance m_tuple (ej_dat (d := .tuple ds) 0)))) fun _ => wj_or1 (tj_neLE G.hu (ej_lcF1T (j := 2) (x := "_law_one") G.nd G.calm (blkOk_by (N := ["_law_thing", "_law_words", "_law_one", "_law_word"]) (sc := defScope s_l_are_flags) (by decide +kernel)) (fun _ _ _ _ _ => pg_name (i := 2) G.nd rfl (Or.inl rfl))
      (rj_lcF1T ds id id (fun v => !strB v) (ej_is (ej_dat (d := .tuple ds) 0) (congrArg PyData.tuple (List.map_id ds).symm)) hl (fun i hi s0 H0 C cl fp => tj_not (tj_val ?_)) (fun i hi hf s0 H0 C cl fp => ej_dat (d := i) 2))) (ej_lstD ad_nil (Nat.le_of_ble_eq_true rfl))))) (fun h => ?_) (fun h => ?_)
    · cases i with
      | str x => exact ej_isi (T := "str") (r := true) m_isinstance m_str (ej_dat (d := .str x) 2)
      | none => exact ej_isi (T := "str") (r := false) m_isinstance m_str (ej_dat (d := .none) 2)
      | bool x => exact ej_isi (T := "str") (r := false) m_isinstance m_str (ej_dat (d := .bool x) 2)
      | int x => exact ej_isi (T := "str") (r := false) m_isinstance m_str (ej_dat (d := .int x) 2)
      | list x => exact ej_isi (T := "str") (r := false) m_isinstance m_str (ej_dat (d := .list x) 2)
      | tuple x => exact ej_isi (T := "str") (r := false) m_isinstance m_str (ej_dat (d := .tuple x) 2)
      | dict x => exact ej_isi (T := "str") (r := false) m_isinstance m_str (ej_dat (d := .dict x) 2)
    · refine sj_ret ej_bl ⟨congrArg PyData.bool (jFlags_no h).symm, rfl⟩
    · obtain ⟨ss, rfl⟩ := strs_of (filt_strs h)
      refine sj_set 1 G.nd (d := .da (.list (flgW.map .str))) (ej_is (ej_lstD (ad_cons ej_str (ad_cons ej_str (ad_cons ej_str (ad_cons ej_str (ad_cons ej_str ad_nil))))) (Nat.le_of_ble_eq_true rfl)) rfl) ?_
      have ok1 := (strs_okd hd).shaped
      have ok2 : SeqAt.shaped (.list ((flgW.filter fun w => ss.any fun s => decide (s = w)).map .str)) = true := flg_shaped _
      refine sj_ret (ej_is (ej_eq (x := .list (ss.map .str)) (y := .list ((flgW.filter fun w => ss.any fun s => decide (s = w)).map .str)) G.hu (ej_listT m_list (ej_dat (d := .tuple (ss.map .str)) 0)) (ej_lcF1 (j := 3) (x := "_law_word") G.nd G.calm (blkOk_by (N := ["_law_thing", "_law_words", "_law_one", "_law_word"]) (sc := defScope s_l_are_flags) (by decide +kernel)) (fun _ _ _ _ _ => pg_name (i := 3) G.nd rfl (Or.inl rfl))
        (rj_lcF1 flgW .str .str (fun w => ss.any fun s => decide (s = w)) (ej_dat (d := .list (flgW.map .str)) 1) (Nat.le_of_ble_eq_true rfl) (fun i hi s0 H0 C cl fp => tj_inT (ss := ss) (ej_dat (d := .str i) 3) (ej_dat (d := .tuple (ss.map .str)) 0)) (fun i hi hf s0 H0 C cl fp => ej_dat (d := .str i) 3))) ok1 ok2) (congrArg PyData.bool ((eqv_strs _ _).trans (flags_eq ss)))) ⟨rfl, rfl⟩
  · have h : tupB d = false := by simpa using h
    refine sj_when (x := true) (tj_w (wj_orT (tj_is (tj_not (tj_val (ej_isT m_isinstance m_tuple (ej_dat (d := d) 0)))) (by rw [h]; rfl)))) (fun _ => sj_ret ej_bl ⟨?_, rfl⟩) (fun h => Bool.noConfusion h)
    cases d <;> first | rfl | cases h

abbrev s_l_odd : Stmt := topS 26
theorem sc_l_odd : FnScope ["_law_bag_here", "_law_menu"] ["_law_bag_here"] (defScope s_l_odd) := ⟨rfl, rfl, rfl, by decide +kernel, rfl, by decide +kernel, by decide +kernel⟩

theorem c_of_l_odd /-H-/ (c_l_to : Cal P w K mg base "_law_to" 4 R_pow) (c_l_some : Cal P w K mg base "_law_some" 5 R_some) /-E-/ (T : At K mg "_law_odd" s_l_odd ["_law_bag_here"]) : CalX P w K mg base "_law_odd" 6 Pre_bag (Post_an 3 20) :=
  calx_at T sc_l_odd (by rintro _ _ ⟨rfl, _⟩; rfl) fun f cd0 A out s0 H E0 G Γ B hPre => by
  obtain ⟨rfl, ok⟩ := hPre
  refine sj_set 1 G.nd (d := .da (.list odd2a)) (ej_is (ej_lstD (ad_cons ej_non (ad_cons ej_bl (ad_cons ej_bl (ad_cons ej_int (ad_cons ej_int (ad_cons ej_int (ad_cons (ej_neg ej_int) (ad_cons (ej_call c_l_to (G.le (by decide)) (aj_cons ej_int (aj_cons ej_int aj_nil)) (R_pow.mk 10 199 B (by decide) (by decide))) (ad_cons (ej_neg (ej_pow ej_int ej_int ⟨by decide, by decide, by decide⟩)) (ad_cons ej_str (ad_cons ej_str (ad_cons ej_str (ad_cons (ej_tupD (ds := []) ad_nil (Nat.le_of_ble_eq_true rfl)) (ad_cons (ej_lstD (ds := []) ad_nil (Nat.le_of_ble_eq_true rfl)) (ad_cons ej_dict0 (ad_cons (ej_tupD (ad_cons ej_int (ad_cons ej_int ad_nil)) (Nat.le_of_ble_eq_true rfl)) ad_nil)))))))))))))))) (Nat.le_of_ble_eq_true rfl)) rfl) ?_
  refine sj_set 1 G.nd (d := .da (.list (odd2a ++ odd2b))) (ej_catL (ej_dat (d := .list odd2a) 1) (ej_is (ej_lstD (ad_cons (ej_tupD (ad_cons ej_int (ad_cons ej_int ad_nil)) (Nat.le_of_ble_eq_true rfl)) (ad_cons (ej_tupD (ad_cons ej_int (ad_cons ej_int ad_nil)) (Nat.le_of_ble_eq_true rfl)) ad_nil)) (Nat.le_of_ble_eq_true rfl)) rfl) (Nat.le_of_ble_eq_true rfl)) ?_
  refine sj_set 1 G.nd (d := .da (.list (odd2a ++ odd2b ++ odd2c))) (ej_catL (ej_dat (d := .list (odd2a ++ odd2b)) 1) (ej_is (ej_lstD (ad_cons (ej_tupD (ad_cons ej_str ad_nil) (Nat.le_of_ble_eq_true rfl)) (ad_cons (ej_tupD (ad_cons ej_str (ad_cons ej_int ad_nil)) (Nat.le_of_ble_eq_true rfl)) (ad_cons (ej_tupD (ad_cons ej_str (ad_cons ej_bl ad_nil)) (Nat.le_of_ble_eq_true rfl)) (ad_cons (ej_tupD (ad_cons ej_str ad_nil) (Nat.le_of_ble_eq_true rfl)) (ad_cons (ej_tupD (ad_cons ej_str (ad_cons ej_int ad_nil)) (Nat.le_of_ble_eq_true rfl)) (ad_cons (ej_tupD (ad_cons ej_str (ad_cons ej_int (ad_cons ej_int (ad_cons ej_int ad_nil)))) (Nat.le_of_ble_eq_true rfl)) (ad_cons (ej_tupD (ad_cons ej_str ad_nil) (Nat.le_of_ble_eq_true rfl)) (ad_cons (ej_lstD (ad_cons ej_str ad_nil) (Nat.le_of_ble_eq_true rfl)) ad_nil)))))))) (Nat.le_of_ble_eq_true rfl)) rfl) (Nat.le_of_ble_eq_true rfl)) ?_
  exact sj_ret (ej_call c_l_some (G.le (by decide)) (aj_cons (ej_bag 0) (aj_cons (ej_catL (ej_dat (d := .list (odd2a ++ odd2b ++ odd2c)) 1) (ej_is (ej_lstD (ad_cons (ej_disp1 G.hu) (ad_cons (ej_tupD (ad_cons (ej_tupD (ds := []) ad_nil (Nat.le_of_ble_eq_true rfl)) ad_nil) (Nat.le_of_ble_eq_true rfl)) (ad_cons (ej_tupD (ad_cons ej_non (ad_cons ej_non ad_nil)) (Nat.le_of_ble_eq_true rfl)) (ad_cons (ej_tupD (ad_cons ej_str (ad_cons (ej_tupD (ad_cons ej_int (ad_cons ej_int ad_nil)) (Nat.le_of_ble_eq_true rfl)) ad_nil)) (Nat.le_of_ble_eq_true rfl)) (ad_cons (ej_tupD (ad_cons ej_str ad_nil) (Nat.le_of_ble_eq_true rfl)) (ad_cons ej_str ad_nil)))))) (Nat.le_of_ble_eq_true rfl)) rfl) (Nat.le_of_ble_eq_true rfl)) aj_nil)) (R_some.mk B odd2 (Nat.le_of_ble_eq_true rfl) (Nat.le_of_ble_eq_true rfl) ok)) ⟨tkB_ok ok _, odd2_an _ (pick_in odd2 B (Nat.le_of_ble_eq_true rfl))⟩

abbrev s_l_bent : Stmt := topS 27
theorem sc_l_bent : FnScope ["_law_bag_here", "_law_thing", "_law_at", "_law_ways_here"] ["_law_bag_here", "_law_thing"] (defScope s_l_bent) := ⟨rfl, rfl, rfl, by decide +kernel, rfl, by decide +kernel, by decide +kernel⟩

theorem c_of_l_bent /-H-/ (m_isinstance : mg "isinstance" = none) (m_tuple : mg "tuple" = none) (m_str : mg "str" = none) (m_len : mg "len" = none) (m_list : mg "list" = none) (c_l_is_int : Cal P w K mg base "_law_is_int" 4 R_anyint) (c_l_odd : CalX P w K mg base "_law_odd" 6 Pre_bag (Post_an 3 20)) (c_l_take : Cal P w K mg base "_law_take" 4 R_take) (c_l_some : Cal P w K mg base "_law_some" 5 R_some) /-E-/ (T : At K mg "_law_bent" s_l_bent ["_law_bag_here", "_law_thing"]) : CalX P w K mg base "_law_bent" 11 (Pre_bend2 3) (Post_anL 6 853) :=
  by
  have step : ∀ n, n ≤ 3 → (∀ m, n = m + 1 → CalX P w K mg base "_law_bent" (m + 8) (Pre_bend2 m) (Post_anL (m + 3) (580 + 91 * m))) → CalX P w K mg base "_law_bent" (n + 8) (Pre_bend2 n) (Post_anL (n + 3) (580 + 91 * n)) := by
    intro n hn ih
    refine calx_at (k := n + 7) (Pre := Pre_bend2 n) (Po := Post_anL (n + 3) (580 + 91 * n)) T sc_l_bent (by rintro _ _ ⟨d, rfl, _⟩; rfl) fun f cd0 A out s0 H E0 G Γ B hPre => ?_
    obtain ⟨d, rfl, hd, ok⟩ := hPre
    have one : ∀ (ds : List PyData) (B1 : Bag) (hB : Bok B1), 0 < ds.length → ds.length ≤ 1000 → (∀ x ∈ ds, LenOk x) → (∀ x ∈ ds, An (n + 3) (580 + 91 * n) x) → ∃ r B', R_some [.bag, .da (.list ds)] B1 r B' ∧ Bok B' ∧ An (n + 3) (580 + 91 * n) r ∧ LenOk r := fun ds B1 hB h0 h1 hL ha => ⟨_, _, R_some.mk B1 ds h0 h1 hB, tkB_ok hB _, ha _ (pick_in ds B1 h0), hL _ (pick_in ds B1 h0)⟩
    have w20 : ∀ {x : Str}, PyData.strOk x = true → x.cps.size ≤ 20 → An (n + 3) (580 + 91 * n) (.str x) := fun h h2 => An.str h (by omega)
    cases d with
    | none =>
      refine sj_when (x := false) (tj_w (wj_andF (tj_val (ej_isi (T := "tuple") (r := false) m_isinstance m_tuple (ej_dat (d := .none) 1))))) (fun h => Bool.noConfusion h) (fun _ => ?_)
      refine sj_when (x := false) (tj_val (ej_isi (T := "tuple") (r := false) m_isinstance m_tuple (ej_dat (d := .none) 1))) (fun h => Bool.noConfusion h) (fun _ => ?_)
      refine sj_when (x := false) (tj_w (wj_andF (tj_val (ej_call c_l_is_int (G.le (by omega)) (aj_cons (ej_dat (d := .none) 1) aj_nil) (R_anyint.mk .none B))))) (fun h => Bool.noConfusion h) (fun _ => ?_)
      refine sj_when (x := false) (tj_w (wj_andF (tj_val (ej_isi (T := "str") (r := false) m_isinstance m_str (ej_dat (d := .none) 1))))) (fun h => Bool.noConfusion h) (fun _ => ?_)
      exact sj_retX (ex_call c_l_odd (G.le (by omega)) (ax_bag 0 (ax_nil ⟨⟨rfl, ok⟩, fun r B1 hp => ⟨hp.1, hp.2.le (by omega) (by omega), hp.2.len (by decide)⟩⟩)))
    | bool b =>
      refine sj_when (x := false) (tj_w (wj_andF (tj_val (ej_isi (T := "tuple") (r := false) m_isinstance m_tuple (ej_dat (d := .bool b) 1))))) (fun h => Bool.noConfusion h) (fun _ => ?_)
      refine sj_when (x := false) (tj_val (ej_isi (T := "tuple") (r := false) m_isinstance m_tuple (ej_dat (d := .bool b) 1))) (fun h => Bool.noConfusion h) (fun _ => ?_)
      refine sj_when (x := false) (tj_w (wj_andF (tj_val (ej_call c_l_is_int (G.le (by omega)) (aj_cons (ej_dat (d := .bool b) 1) aj_nil) (R_anyint.mk (.bool b) B))))) (fun h => Bool.noConfusion h) (fun _ => ?_)
      refine sj_when (x := false) (tj_w (wj_andF (tj_val (ej_isi (T := "str") (r := false) m_isinstance m_str (ej_dat (d := .bool b) 1))))) (fun h => Bool.noConfusion h) (fun _ => ?_)
      exact sj_retX (ex_call c_l_odd (G.le (by omega)) (ax_bag 0 (ax_nil ⟨⟨rfl, ok⟩, fun r B1 hp => ⟨hp.1, hp.2.le (by omega) (by omega), hp.2.len (by decide)⟩⟩)))
    | list b =>
      refine sj_when (x := false) (tj_w (wj_andF (tj_val (ej_isi (T := "tuple") (r := false) m_isinstance m_tuple (ej_dat (d := .list b) 1))))) (fun h => Bool.noConfusion h) (fun _ => ?_)
      refine sj_when (x := false) (tj_val (ej_isi (T := "tuple") (r := false) m_isinstance m_tuple (ej_dat (d := .list b) 1))) (fun h => Bool.noConfusion h) (fun _ => ?_)
      refine sj_when (x := false) (tj_w (wj_andF (tj_val (ej_call c_l_is_int (G.le (by omega)) (aj_cons (ej_dat (d := .list b) 1) aj_nil) (R_anyint.mk (.list b) B))))) (fun h => Bool.noConfusion h) (fun _ => ?_)
      refine sj_when (x := false) (tj_w (wj_andF (tj_val (ej_isi (T := "str") (r := false) m_isinstance m_str (ej_dat (d := .list b) 1))))) (fun h => Bool.noConfusion h) (fun _ => ?_)
      exact sj_retX (ex_call c_l_odd (G.le (by omega)) (ax_bag 0 (ax_nil ⟨⟨rfl, ok⟩, fun r B1 hp => ⟨hp.1, hp.2.le (by omega) (by omega), hp.2.len (by decide)⟩⟩)))
    | dict b =>
      refine sj_when (x := false) (tj_w (wj_andF (tj_val (ej_isi (T := "tuple") (r := false) m_isinstance m_tuple (ej_dat (d := .dict b) 1))))) (fun h => Bool.noConfusion h) (fun _ => ?_)
      refine sj_when (x := false) (tj_val (ej_isi (T := "tuple") (r := false) m_isinstance m_tuple (ej_dat (d := .dict b) 1))) (fun h => Bool.noConfusion h) (fun _ => ?_)
      refine sj_when (x := false) (tj_w (wj_andF (tj_val (ej_call c_l_is_int (G.le (by omega)) (aj_cons (ej_dat (d := .dict b) 1) aj_nil) (R_anyint.mk (.dict b) B))))) (fun h => Bool.noConfusion h) (fun _ => ?_)
      refine sj_when (x := false) (tj_w (wj_andF (tj_val (ej_isi (T := "str") (r := false) m_isinstance m_str (ej_dat (d := .dict b) 1))))) (fun h => Bool.noConfusion h) (fun _ => ?_)
      exact sj_retX (ex_call c_l_odd (G.le (by omega)) (ax_bag 0 (ax_nil ⟨⟨rfl, ok⟩, fun r B1 hp => ⟨hp.1, hp.2.le (by omega) (by omega), hp.2.len (by decide)⟩⟩)))
    | int i =>
      have hl : i.natAbs.log2 < 1900 := by have := hd.ok; simp only [bendB, decide_eq_true_eq] at this; exact this
      have hi : Bd 1900 i := lt_of_log2 hl
      refine sj_when (x := false) (tj_w (wj_andF (tj_val (ej_isi (T := "tuple") (r := false) m_isinstance m_tuple (ej_dat (d := .int i) 1))))) (fun h => Bool.noConfusion h) (fun _ => ?_)
      refine sj_when (x := false) (tj_val (ej_isi (T := "tuple") (r := false) m_isinstance m_tuple (ej_dat (d := .int i) 1))) (fun h => Bool.noConfusion h) (fun _ => ?_)
      have ok1 := tkB_ok ok 5
      have r5 := R_take.mk B 5 (by decide) (by unfold Bd; decide +kernel) ok
      generalize tkB B 5 = B1 at *
      refine sj_when (x := decide (0 < tkV B 5)) (tj_w (wj_andT (tj_val (ej_call c_l_is_int (G.le (by omega)) (aj_cons (ej_dat (d := .int i) 1) aj_nil) (R_anyint.mk (.int i) B))) (wj_and1 (tj_gt (ej_call c_l_take (G.le (by omega)) (aj_cons (ej_bag 0) (aj_cons ej_int aj_nil)) r5) ej_int)))) (fun _ => ?_) (fun _ => ?_)
      · obtain ⟨r', B', hr, hB, ha⟩ := one [.int (i + 1), .int (i - 1), .int (0 - i), .int (2 * i), .bool (decide (i = 1)), .str (toString i), .int (i + 10 ^ 41)] B1 ok1 (by simp) (by simp) (fun x hx => by
          simp only [List.mem_cons, List.not_mem_nil, or_false] at hx
          rcases hx with rfl | rfl | rfl | rfl | rfl | rfl | rfl <;> trivial) (fun x hx => by
          simp only [List.mem_cons, List.not_mem_nil, or_false] at hx
          have b1 : Bd 1900 (1 : Int) := (show Bd 1 (1 : Int) by unfold Bd; decide).le (by decide)
          have b0 : Bd 1900 (0 : Int) := (show Bd 1 (0 : Int) by unfold Bd; decide).le (by decide)
          have b41 : Bd 1900 ((10 : Int) ^ 41) := (show Bd 140 ((10 : Int) ^ 41) by unfold Bd; decide +kernel).le (by decide)
          rcases hx with rfl | rfl | rfl | rfl | rfl | rfl | rfl
          · exact An.int (n := 1901) (bd_add1 hi b1)
          · exact An.int (n := 1901) (bd_sub1 hi b1)
          · exact An.int (n := 1901) (bd_sub1 b0 hi)
          · rw [show 2 * i = i + i by omega]; exact An.int (n := 1901) (bd_add1 hi hi)
          · exact An.bool
          · exact (strI_an2 (D := 0) hl).le (by omega) (by omega)
          · exact An.int (n := 1901) (bd_add1 hi b41))
        exact sj_ret (ej_call c_l_some (G.le (by omega)) (aj_cons (ej_bag 0) (aj_cons (ej_lstD (ad_cons (ej_add (ej_dat 1) ej_int) (ad_cons (ej_sub (ej_dat 1) ej_int) (ad_cons (ej_sub ej_int (ej_dat 1)) (ad_cons (ej_mul ej_int (ej_dat 1) (cm (n := 4) (m := 1900) (by unfold Bd; decide) hi (by decide))) (ad_cons (ej_eqI G.hu (ej_dat 1) ej_int) (ad_cons (ej_strI (by omega) m_str (ej_dat 1)) (ad_cons (ej_add (ej_dat 1) (ej_pow ej_int ej_int ⟨by decide, by decide, by decide⟩)) ad_nil))))))) (Nat.le_of_ble_eq_true rfl)) aj_nil)) hr) ⟨hB, ha⟩
      · refine sj_when (x := false) (tj_w (wj_andF (tj_val (ej_isi (T := "str") (r := false) m_isinstance m_str (ej_dat (d := .int i) 1))))) (fun h => Bool.noConfusion h) (fun _ => ?_)
        exact sj_retX (ex_call c_l_odd (G.le (by omega)) (ax_bag 0 (ax_nil ⟨⟨rfl, ok1⟩, fun r B1 hp => ⟨hp.1, hp.2.le (by omega) (by omega), hp.2.len (by decide)⟩⟩)))
    | str x =>
      have hx := hd.ok
      simp only [bendB] at hx
      have fx := bendW_facts x (by simpa using hx)
      have lx : x.length ≤ 10 := fx.1.2
      have z1 : x.length + ("s" : Str).length ≤ sizeLine := Nat.le_trans (show x.length + ("s" : Str).length ≤ 11 from Nat.add_le_add_right lx 1) (Nat.le_of_ble_eq_true rfl)
      have z2 : x.length ≤ sizeLine := Nat.le_trans lx (Nat.le_of_ble_eq_true rfl)
      refine sj_when (x := false) (tj_w (wj_andF (tj_val (ej_isi (T := "tuple") (r := false) m_isinstance m_tuple (ej_dat (d := .str x) 1))))) (fun h => Bool.noConfusion h) (fun _ => ?_)
      refine sj_when (x := false) (tj_val (ej_isi (T := "tuple") (r := false) m_isinstance m_tuple (ej_dat (d := .str x) 1))) (fun h => Bool.noConfusion h) (fun _ => ?_)
      refine sj_when (x := false) (tj_w (wj_andF (tj_val (ej_call c_l_is_int (G.le (by omega)) (aj_cons (ej_dat (d := .str x) 1) aj_nil) (R_anyint.mk (.str x) B))))) (fun h => Bool.noConfusion h) (fun _ => ?_)
      have ok1 := tkB_ok ok 3
      have r3 := R_take.mk B 3 (by decide) (by unfold Bd; decide +kernel) ok
      generalize tkB B 3 = B1 at *
      refine sj_when (x := decide (0 < tkV B 3)) (tj_w (wj_andT (tj_val (ej_isi (T := "str") (r := true) m_isinstance m_str (ej_dat (d := .str x) 1))) (wj_and1 (tj_gt (ej_call c_l_take (G.le (by omega)) (aj_cons (ej_bag 0) (aj_cons ej_int aj_nil)) r3) ej_int)))) (fun _ => ?_) (fun _ => ?_)
      · obtain ⟨r', B', hr, hB, ha⟩ := one [.str (x ++ "s"), .str (cutS x none (some (-1))), .str (Txt.upper x), .str "num", .str "inf", .str "nan", .str "add", .str "input", .str "span"] B1 ok1 (by simp) (by simp) (fun x hx => by
          simp only [List.mem_cons, List.not_mem_nil, or_false] at hx
          rcases hx with rfl | rfl | rfl | rfl | rfl | rfl | rfl | rfl | rfl <;> trivial) (fun y hy => by
          simp only [List.mem_cons, List.not_mem_nil, or_false] at hy
          rcases hy with rfl | rfl | rfl | rfl | rfl | rfl | rfl | rfl | rfl
          · exact w20 fx.2.1.1 fx.2.1.2
          · exact w20 fx.2.2.1.1 fx.2.2.1.2
          · exact w20 fx.2.2.2.1 fx.2.2.2.2
          · exact w20 (by decide +kernel) (by decide)
          · exact w20 (by decide +kernel) (by decide)
          · exact w20 (by decide +kernel) (by decide)
          · exact w20 (by decide +kernel) (by decide)
          · exact w20 (by decide +kernel) (by decide)
          · exact w20 (by decide +kernel) (by decide))
        exact sj_ret (ej_call c_l_some (G.le (by omega)) (aj_cons (ej_bag 0) (aj_cons (ej_lstD (ad_cons (ej_catS (ej_dat (d := .str x) 1) ej_str z1) (ad_cons (ej_sliceS (ej_dat (d := .str x) 1) oj_none (oj_some (ej_neg ej_int)) z2) (ad_cons (ej_upper (ej_dat (d := .str x) 1) (Nat.le_trans lx (by decide))) (ad_cons ej_str (ad_cons ej_str (ad_cons ej_str (ad_cons ej_str (ad_cons ej_str (ad_cons ej_str ad_nil))))))))) (Nat.le_of_ble_eq_true rfl)) aj_nil)) hr) ⟨hB, ha⟩
      · exact sj_retX (ex_call c_l_odd (G.le (by omega)) (ax_bag 0 (ax_nil ⟨⟨rfl, ok1⟩, fun r B1 hp => ⟨hp.1, hp.2.le (by omega) (by omega), hp.2.len (by decide)⟩⟩)))
    | tuple ds =>
      obtain ⟨hn1, ha, hit⟩ := hd.tup
      have hl : ds.length ≤ 300 := Nat.le_trans (Nat.le_trans (len_bulk ds) ha.bk) (by decide)
      by_cases hne : ds = []
      · refine sj_when (x := false) (tj_w (wj_andT (tj_val (ej_isi (T := "tuple") (r := true) m_isinstance m_tuple (ej_dat (d := .tuple ds) 1))) (wj_andF (tj_is (tj_neE G.hu (ej_dat (d := .tuple ds) 1) (ej_tupD (ds := []) ad_nil (Nat.le_of_ble_eq_true rfl))) (by rw [hne]; rfl))))) (fun h => Bool.noConfusion h) (fun _ => ?_)
        refine sj_when (x := true) (tj_val (ej_isi (T := "tuple") (r := true) m_isinstance m_tuple (ej_dat (d := .tuple ds) 1))) (fun _ => ?_) (fun h => Bool.noConfusion h)
        have lb : Bd 8000 (((ds.length : Nat) : Int) + 1) := (show Bd 10 (((ds.length : Nat) : Int) + 1) by unfold Bd; omega).le (by decide)
        have g2 := tkV_ge B (m := ((ds.length : Nat) : Int) + 1) (by omega)
        have l2 := tkV_lt B (m := ((ds.length : Nat) : Int) + 1) (by omega)
        have ok2 := tkB_ok ok (((ds.length : Nat) : Int) + 1)
        have rt := R_take.mk B (((ds.length : Nat) : Int) + 1) (by omega) lb ok
        generalize tkB B (((ds.length : Nat) : Int) + 1) = B2 at *
        obtain ⟨j, eat, hat⟩ : ∃ j : Nat, tkV B (((ds.length : Nat) : Int) + 1) = (j : Int) ∧ j ≤ ds.length := ⟨(tkV B (((ds.length : Nat) : Int) + 1)).toNat, by omega, by omega⟩
        rw [eat] at rt
        clear g2 l2 eat
        refine sj_set 2 G.nd (d := .da (.int (j : Nat))) (B1 := B2) (ej_call c_l_take (G.le (by omega)) (aj_cons (ej_bag 0) (aj_cons (ej_add (ej_lenT m_len (ej_dat (d := .tuple ds) 1)) ej_int) aj_nil)) rt) ?_
        have q1 := cutP_len ds none (some 1)
        have q2 := cutP_len ds none (some ((j : Nat) : Int))
        have q3 := cutP_len ds (some ((j : Nat) : Int)) none
        refine sj_set 3 G.nd (d := .da (.list [.list ds, .tuple (cutP ds none (some (-1))), .tuple (cutP ds (some 1) none), .tuple ds.reverse, .tuple (ds ++ cutP ds none (some 1)), .tuple (cutP ds none (some ((j : Nat) : Int)) ++ [.int 0] ++ cutP ds (some ((j : Nat) : Int)) none)])) (ej_lstD (ad_cons (ej_listT m_list (ej_dat (d := .tuple ds) 1)) (ad_cons (ej_sliceT (ej_dat (d := .tuple ds) 1) oj_none (oj_some (ej_neg ej_int))) (ad_cons (ej_sliceT (ej_dat (d := .tuple ds) 1) (oj_some ej_int) oj_none) (ad_cons (ej_revT (ej_dat (d := .tuple ds) 1)) (ad_cons (ej_catT (ej_dat (d := .tuple ds) 1) (ej_sliceT (ej_dat (d := .tuple ds) 1) oj_none (oj_some ej_int)) (by omega)) (ad_cons (ej_catT (ej_catT (ej_sliceT (ej_dat (d := .tuple ds) 1) oj_none (oj_some (ej_dat (d := .int (j : Nat)) 2))) (ej_tupD (ad_cons ej_int ad_nil) (Nat.le_of_ble_eq_true rfl)) (by simp only [List.length_cons, List.length_nil]; omega)) (ej_sliceT (ej_dat (d := .tuple ds) 1) (oj_some (ej_dat (d := .int (j : Nat)) 2)) oj_none) (by simp only [List.length_append, List.length_cons, List.length_nil]; omega)) ad_nil)))))) (Nat.le_of_ble_eq_true rfl)) ?_
        have fin : ∀ (r : PyData) (B3 : Bag), Post_an 3 20 [.bag] B2 r B3 → ∃ r' B', R_some [.bag, .da (.list ([.list ds, .tuple (cutP ds none (some (-1))), .tuple (cutP ds (some 1) none), .tuple ds.reverse, .tuple (ds ++ cutP ds none (some 1)), .tuple (cutP ds none (some ((j : Nat) : Int)) ++ [.int 0] ++ cutP ds (some ((j : Nat) : Int)) none)] ++ [r, .tuple (ds ++ [.none])]))] B3 r' B' ∧ Bok B' ∧ An (n + 3) (580 + 91 * n) r' ∧ LenOk r' := fun r B3 hp => one _ B3 hp.1 (by simp) (by simp) (fun x hx => by
              simp only [List.cons_append, List.nil_append, List.mem_cons, List.not_mem_nil, or_false] at hx
              rcases hx with rfl | rfl | rfl | rfl | rfl | rfl | rfl | rfl
              · trivial
              · exact Nat.le_trans (cutP_len ds _ _) (by omega)
              · exact Nat.le_trans (cutP_len ds _ _) (by omega)
              · show ds.reverse.length ≤ 1000; rw [List.length_reverse]; omega
              · show (ds ++ cutP ds none (some 1)).length ≤ 1000; rw [List.length_append]; omega
              · show (cutP ds none (some ((j : Nat) : Int)) ++ [PyData.int 0] ++ cutP ds (some ((j : Nat) : Int)) none).length ≤ 1000; simp only [List.length_append, List.length_cons, List.length_nil]; omega
              · exact hp.2.len (by decide)
              · show (ds ++ [PyData.none]).length ≤ 1000; simp only [List.length_append, List.length_cons, List.length_nil]; omega) (fun x hx => by
          simp only [List.cons_append, List.nil_append, List.mem_cons, List.not_mem_nil, or_false] at hx
          rcases hx with rfl | rfl | rfl | rfl | rfl | rfl | rfl | rfl
          · exact (An.lst ha).le (by omega) (by omega)
          · exact (An.tup (ha.sub (cutP_sub ds _ _))).le (by omega) (by omega)
          · exact (An.tup (ha.sub (cutP_sub ds _ _))).le (by omega) (by omega)
          · exact (An.tup ha.rev).le (by omega) (by omega)
          · exact (An.tup (ha.app (ha.sub (cutP_sub ds _ _)))).le (by omega) (by omega)
          · exact (An.tup (((ha.sub (cutP_sub ds _ _)).app (AnA.cons (small_int (D := n - 1) (W := 0) (i := 0) (by decide) (by decide)) (AnA.nil (W := 0)))).app (ha.sub (cutP_sub ds _ _)))).le (by omega) (by omega)
          · exact hp.2.le (by omega) (by omega)
          · exact (An.tup (ha.app (AnA.cons (An.none (D := n - 1) (W := 0)) (AnA.nil (W := 0))))).le (by omega) (by omega))
        refine sj_retX (ex_callD c_l_some (G.le (by omega)) (ax_bag 0 (ax_cons (ex_catL (ex_ej (ej_dat (d := .list [.list ds, .tuple (cutP ds none (some (-1))), .tuple (cutP ds (some 1) none), .tuple ds.reverse, .tuple (ds ++ cutP ds none (some 1)), .tuple (cutP ds none (some ((j : Nat) : Int)) ++ [.int 0] ++ cutP ds (some ((j : Nat) : Int)) none)]) 3) (ex_lst (ax_cons (ex_call c_l_odd (G.le (by omega)) (ax_bag 0 (ax_nil ⟨⟨rfl, ok2⟩, fun r B3 hp => ax_aj (aj_cons (ej_catT (ej_dat (d := .tuple ds) 1) (ej_tupD (ad_cons ej_non ad_nil) (Nat.le_of_ble_eq_true rfl)) (by simp only [List.length_cons, List.length_nil]; omega)) aj_nil) ⟨[r, .tuple (ds ++ [.none])], rfl, by simp, _, _, rfl, rfl, by simp, ax_nil (fin r B3 hp)⟩⟩))))))))))
      · have hem : ds.isEmpty = false := by cases ds <;> first | rfl | exact absurd rfl hne
        have h0 : 0 < ds.length := List.length_pos_iff.mpr hne
        obtain ⟨m, rfl⟩ : ∃ m, n = m + 1 := ⟨n - 1, by have := hn1 hne; omega⟩
        have ih := ih m rfl
        have ok1 := tkB_ok ok 4
        have r4 := R_take.mk B 4 (by decide) (by unfold Bd; decide +kernel) ok
        generalize tkB B 4 = B1 at *
        refine sj_when (x := decide (0 < tkV B 4)) (tj_w (wj_andT (tj_val (ej_isi (T := "tuple") (r := true) m_isinstance m_tuple (ej_dat (d := .tuple ds) 1))) (wj_andT (tj_is (tj_neE G.hu (ej_dat (d := .tuple ds) 1) (ej_tupD (ds := []) ad_nil (Nat.le_of_ble_eq_true rfl))) (by rw [hem]; rfl)) (wj_and1 (tj_gt (ej_call c_l_take (G.le (by omega)) (aj_cons (ej_bag 0) (aj_cons ej_int aj_nil)) r4) ej_int))))) (fun _ => ?_) (fun _ => ?_)
        · have lb : Bd 8000 ((ds.length : Nat) : Int) := (show Bd 10 ((ds.length : Nat) : Int) by unfold Bd; omega).le (by decide)
          have g2 := tkV_ge B1 (m := ((ds.length : Nat) : Int)) (by omega)
          have l2 := tkV_lt B1 (m := ((ds.length : Nat) : Int)) (by omega)
          have ok2 := tkB_ok ok1 ((ds.length : Nat) : Int)
          have rt := R_take.mk B1 ((ds.length : Nat) : Int) (by omega) lb ok1
          generalize tkB B1 ((ds.length : Nat) : Int) = B2 at *
          obtain ⟨at', eat, hat⟩ : ∃ j : Nat, tkV B1 ((ds.length : Nat) : Int) = (j : Int) ∧ j < ds.length := ⟨(tkV B1 ((ds.length : Nat) : Int)).toNat, by omega, by omega⟩
          rw [eat] at rt
          clear g2 l2 eat
          refine sj_set 2 G.nd (d := .da (.int (at' : Nat))) (B1 := B2) (ej_call c_l_take (G.le (by omega)) (aj_cons (ej_bag 0) (aj_cons (ej_lenT m_len (ej_dat (d := .tuple ds) 1)) aj_nil)) rt) ?_
          have hget : ds[at']? = some ds[at'] := List.getElem?_eq_getElem hat
          have hm := List.mem_of_getElem? hget
          have hi := hit _ hm
          have ha : AnA m 90 ds := ha
          have e2 : cutP ds (some ((at' : Int) + 1)) none = ds.drop (at' + 1) := cut2 ds (at' + 1)
          have e1 : cutP ds none (some (at' : Int)) = ds.take at' := cutT ds at'
          refine sj_retX (ex_catT (ex_catT (ex_ej (ej_is (ej_sliceT (ej_dat (d := .tuple ds) 1) oj_none (oj_some (ej_dat (d := .int (at' : Nat)) 2))) (congrArg PyData.tuple e1)) (ex_tup (ax_cons (ex_call ih (G.le (by omega)) (ax_bag 0 (ax_aj (aj_cons (ej_ixT (ej_dat (d := .tuple ds) 1) (ej_dat (d := .int (at' : Nat)) 2) (atI_nat hget) fun _ _ => rfl) aj_nil) ⟨⟨_, rfl, hi, ok2⟩, fun r B3 hp => ax_nil ⟨[r], rfl, by simp, _, _, rfl, rfl, ?_, ex_ej (ej_is (ej_sliceT (ej_dat (d := .tuple ds) 1) (oj_some (ej_add (ej_dat (d := .int (at' : Nat)) 2) ej_int)) oj_none) (congrArg PyData.tuple e2)) ⟨_, _, rfl, rfl, ?_, hp.1, ?_, ?_⟩⟩⟩))))))))
          · rw [List.length_take]; simp; omega
          · rw [List.length_append, List.length_take, List.length_drop]; simp; omega
          · have a1 := ha.cutmid at' hp.2.1
            exact (An.tup a1).le (by omega) (by omega)
          · show (_ : List PyData).length ≤ 1000
            rw [List.length_append, List.length_append, List.length_take, List.length_drop]; simp; omega
        · refine sj_when (x := true) (tj_val (ej_isi (T := "tuple") (r := true) m_isinstance m_tuple (ej_dat (d := .tuple ds) 1))) (fun _ => ?_) (fun h => Bool.noConfusion h)
          have lb : Bd 8000 (((ds.length : Nat) : Int) + 1) := (show Bd 10 (((ds.length : Nat) : Int) + 1) by unfold Bd; omega).le (by decide)
          have g2 := tkV_ge B1 (m := ((ds.length : Nat) : Int) + 1) (by omega)
          have l2 := tkV_lt B1 (m := ((ds.length : Nat) : Int) + 1) (by omega)
          have ok2 := tkB_ok ok1 (((ds.length : Nat) : Int) + 1)
          have rt := R_take.mk B1 (((ds.length : Nat) : Int) + 1) (by omega) lb ok1
          generalize tkB B1 (((ds.length : Nat) : Int) + 1) = B2 at *
          obtain ⟨j, eat, hat⟩ : ∃ j : Nat, tkV B1 (((ds.length : Nat) : Int) + 1) = (j : Int) ∧ j ≤ ds.length := ⟨(tkV B1 (((ds.length : Nat) : Int) + 1)).toNat, by omega, by omega⟩
          rw [eat] at rt
          clear g2 l2 eat
          refine sj_set 2 G.nd (d := .da (.int (j : Nat))) (B1 := B2) (ej_call c_l_take (G.le (by omega)) (aj_cons (ej_bag 0) (aj_cons (ej_add (ej_lenT m_len (ej_dat (d := .tuple ds) 1)) ej_int) aj_nil)) rt) ?_
          have q1 := cutP_len ds none (some 1)
          have q2 := cutP_len ds none (some ((j : Nat) : Int))
          have q3 := cutP_len ds (some ((j : Nat) : Int)) none
          refine sj_set 3 G.nd (d := .da (.list [.list ds, .tuple (cutP ds none (some (-1))), .tuple (cutP ds (some 1) none), .tuple ds.reverse, .tuple (ds ++ cutP ds none (some 1)), .tuple (cutP ds none (some ((j : Nat) : Int)) ++ [.int 0] ++ cutP ds (some ((j : Nat) : Int)) none)])) (ej_lstD (ad_cons (ej_listT m_list (ej_dat (d := .tuple ds) 1)) (ad_cons (ej_sliceT (ej_dat (d := .tuple ds) 1) oj_none (oj_some (ej_neg ej_int))) (ad_cons (ej_sliceT (ej_dat (d := .tuple ds) 1) (oj_some ej_int) oj_none) (ad_cons (ej_revT (ej_dat (d := .tuple ds) 1)) (ad_cons (ej_catT (ej_dat (d := .tuple ds) 1) (ej_sliceT (ej_dat (d := .tuple ds) 1) oj_none (oj_some ej_int)) (by omega)) (ad_cons (ej_catT (ej_catT (ej_sliceT (ej_dat (d := .tuple ds) 1) oj_none (oj_some (ej_dat (d := .int (j : Nat)) 2))) (ej_tupD (ad_cons ej_int ad_nil) (Nat.le_of_ble_eq_true rfl)) (by simp only [List.length_cons, List.length_nil]; omega)) (ej_sliceT (ej_dat (d := .tuple ds) 1) (oj_some (ej_dat (d := .int (j : Nat)) 2)) oj_none) (by simp only [List.length_append, List.length_cons, List.length_nil]; omega)) ad_nil)))))) (Nat.le_of_ble_eq_true rfl)) ?_
          have fin : ∀ (r : PyData) (B3 : Bag), Post_an 3 20 [.bag] B2 r B3 → ∃ r' B', R_some [.bag, .da (.list ([.list ds, .tuple (cutP ds none (some (-1))), .tuple (cutP ds (some 1) none), .tuple ds.reverse, .tuple (ds ++ cutP ds none (some 1)), .tuple (cutP ds none (some ((j : Nat) : Int)) ++ [.int 0] ++ cutP ds (some ((j : Nat) : Int)) none)] ++ [r, .tuple (ds ++ [.none])]))] B3 r' B' ∧ Bok B' ∧ An (m + 1 + 3) (580 + 91 * (m + 1)) r' ∧ LenOk r' := fun r B3 hp => one _ B3 hp.1 (by simp) (by simp) (fun x hx => by
              simp only [List.cons_append, List.nil_append, List.mem_cons, List.not_mem_nil, or_false] at hx
              rcases hx with rfl | rfl | rfl | rfl | rfl | rfl | rfl | rfl
              · trivial
              · exact Nat.le_trans (cutP_len ds _ _) (by omega)
              · exact Nat.le_trans (cutP_len ds _ _) (by omega)
              · show ds.reverse.length ≤ 1000; rw [List.length_reverse]; omega
              · show (ds ++ cutP ds none (some 1)).length ≤ 1000; rw [List.length_append]; omega
              · show (cutP ds none (some ((j : Nat) : Int)) ++ [PyData.int 0] ++ cutP ds (some ((j : Nat) : Int)) none).length ≤ 1000; simp only [List.length_append, List.length_cons, List.length_nil]; omega
              · exact hp.2.len (by decide)
              · show (ds ++ [PyData.none]).length ≤ 1000; simp only [List.length_append, List.length_cons, List.length_nil]; omega) (fun x hx => by
            simp only [List.cons_append, List.nil_append, List.mem_cons, List.not_mem_nil, or_false] at hx
            rcases hx with rfl | rfl | rfl | rfl | rfl | rfl | rfl | rfl
            · exact (An.lst ha).le (by omega) (by omega)
            · exact (An.tup (ha.sub (cutP_sub ds _ _))).le (by omega) (by omega)
            · exact (An.tup (ha.sub (cutP_sub ds _ _))).le (by omega) (by omega)
            · exact (An.tup ha.rev).le (by omega) (by omega)
            · exact (An.tup (ha.app (ha.sub (cutP_sub ds _ _)))).le (by omega) (by omega)
            · exact (An.tup (((ha.sub (cutP_sub ds _ _)).app (AnA.cons (small_int (D := m + 1 - 1) (W := 0) (i := 0) (by decide) (by decide)) (AnA.nil (W := 0)))).app (ha.sub (cutP_sub ds _ _)))).le (by omega) (by omega)
            · exact hp.2.le (by omega) (by omega)
            · exact (An.tup (ha.app (AnA.cons (An.none (D := m + 1 - 1) (W := 0)) (AnA.nil (W := 0))))).le (by omega) (by omega))
          refine sj_retX (ex_callD c_l_some (G.le (by omega)) (ax_bag 0 (ax_cons (ex_catL (ex_ej (ej_dat (d := .list [.list ds, .tuple (cutP ds none (some (-1))), .tuple (cutP ds (some 1) none), .tuple ds.reverse, .tuple (ds ++ cutP ds none (some 1)), .tuple (cutP ds none (some ((j : Nat) : Int)) ++ [.int 0] ++ cutP ds (some ((j : Nat) : Int)) none)]) 3) (ex_lst (ax_cons (ex_call c_l_odd (G.le (by omega)) (ax_bag 0 (ax_nil ⟨⟨rfl, ok2⟩, fun r B3 hp => ax_aj (aj_cons (ej_catT (ej_dat (d := .tuple ds) 1) (ej_tupD (ad_cons ej_non ad_nil) (Nat.le_of_ble_eq_true rfl)) (by simp only [List.length_cons, List.length_nil]; omega)) aj_nil) ⟨[r, .tuple (ds ++ [.none])], rfl, by simp, _, _, rfl, rfl, by simp, ax_nil (fin r B3 hp)⟩⟩))))))))))
  have key : ∀ n, n ≤ 3 → CalX P w K mg base "_law_bent" (n + 8) (Pre_bend2 n) (Post_anL (n + 3) (580 + 91 * n)) := by
    intro n
    induction n with
    | zero => intro h; exact step 0 h (fun m e => by omega)
    | succ n ih => intro h; exact step (n + 1) h (fun m e => by cases e; exact ih (by omega))
  exact key 3 (by decide)

abbrev s_l_is_told : Stmt := topS 28
theorem sc_l_is_told : FnScope ["_law_told", "_law_thing", "_law_due", "_law_said"] ["_law_told", "_law_thing", "_law_due"] (defScope s_l_is_told) := ⟨rfl, rfl, rfl, by decide +kernel, rfl, by decide +kernel, by decide +kernel⟩

theorem c_of_l_is_told (sk : KSys K) /-H-/ (m_repr : mg "repr" = none) (c_l_alike : Cal P w K mg base "_law_alike" 4 R_alikeA) /-E-/ (T : At K mg "_law_is_told" s_l_is_told ["_law_told", "_law_thing", "_law_due"]) : Cal P w K mg base "_law_is_told" 7 (R_istold P w K mg base) :=
  cal_at T sc_l_is_told (by rintro _ _ _ _ ⟨⟩; rfl) fun f cd0 A out s H E0 G Γ B r B' hR => by
  obtain ⟨fn, f0, j, c, hm, d, B, hd, hl⟩ := hR
  have okb : Okd (.bool (j d)) := ⟨by simp only [nice], by simp only [PyData.depth]; omega, by simp only [PyData.bulk]; omega⟩
  refine sj_set 3 G.nd (d := .da (.str d.shown)) (ej_reprA G sk m_repr (ej_dat (d := d) 1) hd) ?_
  exact sj_ret (ej_and (x := true) (y := true) (ej_call c_l_alike (G.le (by decide)) (aj_cons (ej_callV 0 c hm rfl (G.le (by decide)) (aj_cons (ej_dat (d := d) 1) aj_nil) (R_anyB.mk d B hd hl)) (aj_cons (ej_dat (d := .bool (j d)) 2) aj_nil)) (R_alikeA.mk (.bool (j d)) B okb (.inr (.inr (.inl ⟨j d, rfl⟩))))) fun _ => ej_one (ej_is (ej_eqS (ej_reprA G sk m_repr (ej_dat (d := d) 1) hd) (ej_dat (d := .str d.shown) 3)) (congrArg PyData.bool (decide_eq_true rfl)))) ⟨rfl, rfl⟩

abbrev s_l_edge_format : Stmt := topS 29
theorem sc_l_edge_format : FnScope ["_law_bag_here", "_law_some_here"] ["_law_bag_here"] (defScope s_l_edge_format) := ⟨rfl, rfl, rfl, by decide +kernel, rfl, by decide +kernel, by decide +kernel⟩

theorem c_of_l_edge_format /-H-/ (m_tuple : mg "tuple" = none) (c_l_some : Cal P w K mg base "_law_some" 5 R_some) /-E-/ (T : At K mg "_law_edge_format" s_l_edge_format ["_law_bag_here"]) : CalX P w K mg base "_law_edge_format" 6 Pre_bag (Post_bn 1 10) :=
  calx_at T sc_l_edge_format (by rintro _ _ ⟨rfl, _⟩; rfl) fun f cd0 A out s0 H E0 G Γ B hPre => by
  obtain ⟨rfl, ok⟩ := hPre
  obtain ⟨i1, B1, r1, b1, ok1⟩ := pick_int12 [2, 36, 0, 38, 3, 10, -2, 1] B (by decide) (by decide) (by unfold Bd; decide) ok
  obtain ⟨i2, B2, r2, b2, ok2⟩ := pick_int12 [2, 120, 1, 121, 7] B1 (by decide) (by decide) (by unfold Bd; decide) ok1
  obtain ⟨i3, B3, r3, b3, ok3⟩ := pick_int12 [-1200, -1201, 0, 5, 1200] B2 (by decide) (by decide) (by unfold Bd; decide) ok2
  obtain ⟨i4, B4, r4, b4, ok4⟩ := pick_int12 [1200, 1201, 0, 5, -1200] B3 (by decide) (by decide) (by unfold Bd; decide) ok3
  refine sj_set 1 G.nd (d := .da (.list [.int i1, .int i2])) (ej_lstD (ad_cons (ej_call c_l_some (G.le (by decide)) (aj_cons (ej_bag 0) (aj_cons (ej_is (ej_lstD (ad_cons ej_int (ad_cons ej_int (ad_cons ej_int (ad_cons ej_int (ad_cons ej_int (ad_cons ej_int (ad_cons (ej_neg ej_int) (ad_cons ej_int ad_nil)))))))) (Nat.le_of_ble_eq_true rfl)) rfl) aj_nil)) (r1)) (ad_cons (ej_call c_l_some (G.le (by decide)) (aj_cons (ej_bag 0) (aj_cons (ej_is (ej_lstD (ad_cons ej_int (ad_cons ej_int (ad_cons ej_int (ad_cons ej_int (ad_cons ej_int ad_nil))))) (Nat.le_of_ble_eq_true rfl)) rfl) aj_nil)) (r2)) ad_nil)) (Nat.le_of_ble_eq_true rfl)) ?_
  exact sj_ret (ej_tupleL m_tuple (ej_is (ej_catL (ej_dat (d := .list [.int i1, .int i2]) 1) (ej_lstD (ad_cons (ej_call c_l_some (G.le (by decide)) (aj_cons (ej_bag 0) (aj_cons (ej_is (ej_lstD (ad_cons (ej_neg ej_int) (ad_cons (ej_neg ej_int) (ad_cons ej_int (ad_cons ej_int (ad_cons ej_int ad_nil))))) (Nat.le_of_ble_eq_true rfl)) rfl) aj_nil)) (r3)) (ad_cons (ej_call c_l_some (G.le (by decide)) (aj_cons (ej_bag 0) (aj_cons (ej_is (ej_lstD (ad_cons ej_int (ad_cons ej_int (ad_cons ej_int (ad_cons ej_int (ad_cons (ej_neg ej_int) ad_nil))))) (Nat.le_of_ble_eq_true rfl)) rfl) aj_nil)) (r4)) ad_nil)) (Nat.le_of_ble_eq_true rfl)) (Nat.le_of_ble_eq_true rfl)) rfl)) ⟨ok4, int4_bend b1 b2 b3 b4⟩

abbrev s_law : Stmt := topS 30
theorem sc_law : FnScope ["_law_script", "_law_bag_here", "_law_words", "_law_flags", "_law_things", "_law_near", "_law_thing", "_law_told", "_law_due", "_law_k", "_law_one", "_law_its"] ["_law_script"] (defScope s_law) := ⟨rfl, rfl, rfl, by decide +kernel, rfl, by decide +kernel, by decide +kernel⟩

theorem ok_law {f : Addr} {fd : FuncData} /-H-/ (m_tuple : mg "tuple" = none) (m_sorted : mg "sorted" = none) (m_list : mg "list" = none) (m_range : mg "range" = none) (m_zip : mg "zip" = none) (c_l_take : Cal P w K mg base "_law_take" 4 R_take) (c_l_over : Cal P w K mg base "_law_over" 5 R_reduced) (c_l_formats : Cal P w K mg base "_law_formats" 6 (R_fmt smallV smallB)) (c_l_wide_format : Cal P w K mg base "_law_wide_format" 6 (R_fmt wideV wideB)) (c_l_some : Cal P w K mg base "_law_some" 5 R_some) (c_l_to : Cal P w K mg base "_law_to" 4 R_pow) (c_l_is_int : Cal P w K mg base "_law_is_int" 4 R_anyint) (c_l_is_fraction : Cal P w K mg base "_law_is_fraction" 5 (R_anyB jFrac)) (c_l_is_format : Cal P w K mg base "_law_is_format" 5 (R_anyB jForm)) (c_l_is_way : Cal P w K mg base "_law_is_way" 5 (R_anyB jWay)) (c_l_are_flags : Cal P w K mg base "_law_are_flags" 5 R_flags) (c_l_bag : Cal P w K mg base "_law_bag" 4 R_bag) (c_l_mixed : CalX P w K mg base "_law_mixed" 5 Pre_mixed Post_mixed) (c_l_edge_format : CalX P w K mg base "_law_edge_format" 6 Pre_bag (Post_bn 1 10)) (c_l_ways : Cal P w K mg base "_law_ways" 4 R_ways) (c_l_bent : CalX P w K mg base "_law_bent" 11 (Pre_bend2 3) (Post_anL 6 853)) (c_is_integer : Cal P w K mg base "is_integer" 4 R_anyint) (c_is_fraction : Cal P w K mg base "is_fraction" 5 (R_anyB jFrac)) (c_is_format : Cal P w K mg base "is_format" 5 (R_anyB jForm)) (c_is_way : Cal P w K mg base "is_way" 5 (R_anyB jWay)) (c_are_flags : Cal P w K mg base "are_flags" 6 R_flags) (c_l_odd : CalX P w K mg base "_law_odd" 6 Pre_bag (Post_an 3 20)) (c_l_is_told : Cal P w K mg base "_law_is_told" 7 (R_istold P w K mg base)) /-E-/
    (F : Fun K "law" "law" s_law f fd) : FnG P w K mg base 12 f fd ["_law_script"] (spLaw K) := by
  refine fnG_of F sc_law (by rintro vs H Q E ⟨a, ns, rfl, _⟩; rfl) fun cd0 A out s H vs Q E G hsp => ?_
  obtain ⟨a, ns, rfl, hS, hlen, q⟩ := hsp
  have Ev : EnvD K none H (L2.start ["_law_script", "_law_bag_here", "_law_words", "_law_flags", "_law_things", "_law_near", "_law_thing", "_law_told", "_law_due", "_law_k", "_law_one", "_law_its"] [.ref a]) ([.scr ns] ++ List.replicate (12 - 1) .no) := start_env (Γ := [.scr ns]) ⟨⟨a, rfl, hS⟩, trivial⟩ (Nat.le_of_ble_eq_true rfl)
  have O : On K none ⟨0, 0, 0, []⟩ H H := ⟨Same.refl _, fun _ _ z => nomatch z⟩
  refine sj_law 1 G.nd (y := 1234567891) (ns := (ns.take 63).map absI) (ej_call c_l_bag (G.le (by decide)) (aj_cons (ej_var 0 (d := .scr ns) rfl (fun z => nomatch z)) aj_nil) (R_bag.mk ns _ hlen)) ?_ (Ev := Ev) (O := O) (q := q)
  generalize hB0 : (⟨0, 1234567891, 0, (ns.take 63).map absI⟩ : Bag) = B0
  have okB : Bok B0 := by rw [← hB0]; show ((ns.take 63).map absI).length ≤ 63; rw [List.length_map, List.length_take]; omega
  clear hB0
  refine sj_setX 2 G.nd (ex_call c_l_mixed (G.le (by decide)) (ax_bag 1 (ax_aj (aj_cons (ej_is (y := lisD true (flgW.map .str)) (ej_lstD (ad_cons ej_str (ad_cons ej_str (ad_cons ej_str (ad_cons ej_str (ad_cons ej_str ad_nil))))) (Nat.le_of_ble_eq_true rfl)) rfl) aj_nil) ⟨⟨true, flgW.map .str, rfl, by decide, by decide, okB⟩, fun r B1 hp => ?_⟩)))
  obtain ⟨ok1, hm⟩ := hp
  obtain ⟨ds', rfl, hp⟩ := hm true (flgW.map .str) rfl
  obtain ⟨ws, rfl, hw⟩ := perm_strs hp
  clear hm hp
  have wl : ws.length = 5 := hw.length_eq
  have rt := R_take.mk B1 6 (by decide) (by unfold Bd; decide +kernel) ok1
  have t0 := tkV_ge B1 (m := 6) (by decide)
  have t1 := tkV_lt B1 (m := 6) (by decide)
  have ok2 := tkB_ok ok1 6
  obtain ⟨n, en⟩ : ∃ n : Nat, tkV B1 6 = (n : Int) := ⟨(tkV B1 6).toNat, by omega⟩
  rw [en] at rt t0 t1
  generalize tkB B1 6 = B2 at *
  have hn : n ≤ 5 := by omega
  refine sj_set 3 G.nd (d := .da (.tuple ((ws.take n).map .str))) (ej_is (ej_tupleL m_tuple (ej_sliceL (ej_dat (d := .list (ws.map .str)) 2) oj_none (oj_some (ej_call c_l_take (G.le (by decide)) (aj_cons (ej_bag 1) (aj_cons ej_int aj_nil)) (rt))))) (by rw [cutN _ _ (by rw [List.length_map]; omega), List.map_take])) ?_
  obtain ⟨fs, efs, fm, fl⟩ : ∃ fs, ws.take n = fs ∧ (∀ x ∈ fs, x ∈ flgW) ∧ fs.length ≤ 5 := ⟨_, rfl, fun x hx => hw.mem_iff.mp (List.mem_of_mem_take hx), by rw [List.length_take]; omega⟩
  rw [efs]
  clear efs rt en t0 t1 hw wl
  have e1 : cutP (fs.map PyData.str) none (some 1) = (fs.take 1).map .str := by
    cases fs with
    | nil => rfl
    | cons x r => rw [show ((1 : Int) = ((1 : Nat) : Int)) from rfl, cutN _ 1 (by simp), List.map_take]
  refine sj_setX 4 G.nd (ex_mono (Φ := fun y B3 => B3 = B2 ∧ ∃ S : List PyData, y = .list S ∧ S.length = 6 ∧ ∀ d ∈ S, BN 1 60 d) (ex_lst (ax_cons (ex_ej (ej_dat (d := .tuple (fs.map .str)) 3) (ax_cons (ex_tupleL m_tuple (ex_sortedTS m_sorted (ej_dat (d := .tuple (fs.map .str)) 3) (by omega) (fun n1 p1 s1 => ⟨_, rfl, ax_cons (ex_catT (ex_tupleL m_tuple (ex_sortedTS m_sorted (ej_dat (d := .tuple (fs.map .str)) 3) (by omega) (fun n2 p2 s2 => ⟨_, rfl, ex_ej (ej_is (ej_sliceT (ej_dat (d := .tuple (fs.map .str)) 3) oj_none (oj_some ej_int)) (congrArg PyData.tuple e1)) ⟨_, _, rfl, rfl, ?_, ax_aj (aj_cons (ej_listT m_list (ej_dat (d := .tuple (fs.map .str)) 3)) (aj_cons ej_str (aj_cons (ej_tupD (ad_cons ej_str ad_nil) (Nat.le_of_ble_eq_true rfl)) aj_nil))) ⟨[_, _, _, _, _, _], rfl, by simp, rfl, _, rfl, rfl, ?_⟩⟩⟩))))⟩))))))) fun y B3 hy => ?_)
  · have := p2.length_eq
    simp only [List.length_map, List.length_take]; omega
  · have q1 : ∀ x ∈ n1, x ∈ flgW := fun x hx => fm x (p1.mem_iff.mp hx)
    have l1 := p1.length_eq
    have q2 : ∀ x ∈ n2 ++ fs.take 1, x ∈ flgW := fun x hx => by
      rcases List.mem_append.mp hx with hx | hx
      · exact fm x (p2.mem_iff.mp hx)
      · exact fm x (List.mem_of_mem_take hx)
    have l2 : (n2 ++ fs.take 1).length ≤ 6 := by have := p2.length_eq; rw [List.length_append, List.length_take]; omega
    intro d hd
    simp only [List.mem_cons, List.not_mem_nil, or_false] at hd
    rcases hd with rfl | rfl | rfl | rfl | rfl | rfl
    · exact (flgs_bn fm (by omega)).1
    · exact (flgs_bn q1 (by omega)).1
    · rw [← List.map_append]; exact (flgs_bn q2 l2).1
    · exact (flgs_bn fm (by omega)).2
    · exact (BN.word (n := 1) (W := 60))
    · exact (BN.mktup (BNA.cons (BN.word (n := 0) (W := 10)) (BNA.nil (W := 0)))).le (by decide) (by decide)
  obtain ⟨rfl, S, rfl, hS6, hS⟩ := hy
  clear e1 fm fl
  have M0 : (0 : Int) < 10 ^ (60 : Int).toNat := by decide
  have rt1 := R_take.mk B3 (10 ^ (60 : Int).toNat) M0 (by unfold Bd; decide +kernel) ok2
  have t10 := tkV_ge B3 (m := 10 ^ (60 : Int).toNat) M0
  have t11 := tkV_lt B3 (m := 10 ^ (60 : Int).toNat) M0
  have ok3 := tkB_ok ok2 (10 ^ (60 : Int).toNat)
  generalize tkV B3 (10 ^ (60 : Int).toNat) = v1 at *
  generalize tkB B3 (10 ^ (60 : Int).toNat) = B4 at *
  have rt2 := R_take.mk B4 (10 ^ (60 : Int).toNat) M0 (by unfold Bd; decide +kernel) ok3
  have t20 := tkV_ge B4 (m := 10 ^ (60 : Int).toNat) M0
  have t21 := tkV_lt B4 (m := 10 ^ (60 : Int).toNat) M0
  have ok4 := tkB_ok ok3 (10 ^ (60 : Int).toNat)
  generalize tkV B4 (10 ^ (60 : Int).toNat) = v2 at *
  generalize tkB B4 (10 ^ (60 : Int).toNat) = B5 at *
  have eM : (10 : Int) ^ (60 : Int).toNat = 1000000000000000000000000000000000000000000000000000000000000 := by decide
  have eN : (5 : Int) * 10 ^ (59 : Int).toNat = 500000000000000000000000000000000000000000000000000000000000 := by decide
  have bn : Bd 201 (v1 - 5 * 10 ^ (59 : Int).toNat) := by rw [eM] at t11; rw [eN]; unfold Bd; omega
  have bd : Bd 201 (1 + v2) := by rw [eM] at t21; unfold Bd; omega
  have d0 : (1 + v2) ≠ 0 := by omega
  have hov := over_bn bn bd d0 (by decide)
  refine sj_set 4 G.nd (d := .da (.list (S ++ [fq ((v1 - 5 * 10 ^ (59 : Int).toNat) /. (1 + v2)), .tuple [.int 0, .int 1], .tuple [.int 0, .int 2]]))) (ej_catL (ej_dat (d := .list S) 4) (ej_lstD (ad_cons (ej_call c_l_over (G.le (by decide)) (aj_cons (ej_sub (ej_call c_l_take (G.le (by decide)) (aj_cons (ej_bag 1) (aj_cons (ej_pow ej_int ej_int ⟨by decide, by decide, by decide⟩) aj_nil)) (rt1)) (ej_mul ej_int (ej_pow ej_int ej_int ⟨by decide, by decide, by decide⟩) (cm (n := 4) (m := 200) (by unfold Bd; decide) (by unfold Bd; decide +kernel) (by decide)))) (aj_cons (ej_add ej_int (ej_call c_l_take (G.le (by decide)) (aj_cons (ej_bag 1) (aj_cons (ej_pow ej_int ej_int ⟨by decide, by decide, by decide⟩) aj_nil)) (rt2))) aj_nil)) (R_reduced.mk _ _ B5 d0 (bd.le (by decide)))) (ad_cons (ej_tupD (ad_cons ej_int (ad_cons ej_int ad_nil)) (Nat.le_of_ble_eq_true rfl)) (ad_cons (ej_tupD (ad_cons ej_int (ad_cons ej_int ad_nil)) (Nat.le_of_ble_eq_true rfl)) ad_nil))) (Nat.le_of_ble_eq_true rfl)) (by simp [hS6])) ?_
  obtain ⟨S2, eS, hS2, hB2⟩ : ∃ S2, S ++ [fq ((v1 - 5 * 10 ^ (59 : Int).toNat) /. (1 + v2)), .tuple [.int 0, .int 1], .tuple [.int 0, .int 2]] = S2 ∧ S2.length = 9 ∧ ∀ d ∈ S2, BN 1 60 d := by
    refine ⟨_, rfl, by simp [hS6], fun d hd => ?_⟩
    rcases List.mem_append.mp hd with hd | hd
    · exact hS d hd
    · simp only [List.mem_cons, List.not_mem_nil, or_false] at hd
      rcases hd with rfl | rfl | rfl
      · exact hov.le (by decide) (by decide)
      · exact (BN.mktup (BNA.cons (int_bn (n := 0) (W := 1) (k := 2) (by unfold Bd; decide)) (BNA.cons (int_bn (n := 0) (W := 1) (k := 2) (by unfold Bd; decide)) (BNA.nil (W := 0))))).le (by decide) (by decide)
      · exact (BN.mktup (BNA.cons (int_bn (n := 0) (W := 1) (k := 2) (by unfold Bd; decide)) (BNA.cons (int_bn (n := 0) (W := 1) (k := 2) (by unfold Bd; decide)) (BNA.nil (W := 0))))).le (by decide) (by decide)
  rw [eS]
  clear eS hov bn bd d0 rt1 rt2 eM eN t10 t11 t20 t21 M0 hS hS6
  have F1 := smallV_ok B5
  have ok5 := smallB_ok ok4
  have r1 := R_fmt.mk (f := smallV) (g := smallB) B5 ok4
  generalize smallV B5 = t at *
  generalize smallB B5 = B6 at *
  obtain ⟨b, p, low, high⟩ := t
  have F1 : Fm b p low high := F1
  have r1 : R_fmt smallV smallB [.bag] B5 (fmP b p low high) B6 := r1
  have F2 := wideV_ok B6
  have ok6 := wideB_ok ok5
  have r2 := R_fmt.mk (f := wideV) (g := wideB) B6 ok5
  generalize wideV B6 = t at *
  generalize wideB B6 = B7 at *
  obtain ⟨b', p', low', high'⟩ := t
  have F2 : Fm b' p' low' high' := F2
  have r2 : R_fmt wideV wideB [.bag] B6 (fmP b' p' low' high') B7 := r2
  refine sj_setX 4 G.nd (ex_mono (Φ := fun y B3 => Bok B3 ∧ ∃ S : List PyData, y = .list S ∧ S.length = 13 ∧ ∀ d ∈ S, BN 1 60 d) (ex_catL (ex_ej (ej_dat (d := .list S2) 4) (ex_lst (ax_cons (ex_ej (ej_call c_l_formats (G.le (by decide)) (aj_cons (ej_bag 1) aj_nil) (r1)) (ax_cons (ex_ej (ej_call c_l_wide_format (G.le (by decide)) (aj_cons (ej_bag 1) aj_nil) (r2)) (ax_cons (ex_call c_l_edge_format (G.le (by decide)) (ax_bag 1 (ax_nil ⟨⟨rfl, ok6⟩, fun r3 B8 hp3 => ax_one (ex_call c_l_edge_format (G.le (by decide)) (ax_bag 1 (ax_nil ⟨⟨rfl, hp3.1⟩, fun r4 B9 hp4 => ⟨[_, _, r3, r4], rfl, by simp, S2, _, rfl, rfl, by simp [hS2], hp4.1, _, rfl, by simp [hS2], fun d hd => ?_⟩⟩)))⟩))))))))))) fun y B9 hy => ?_)
  · rcases List.mem_append.mp hd with hd | hd
    · exact hB2 d hd
    · simp only [List.mem_cons, List.not_mem_nil, or_false] at hd
      rcases hd with rfl | rfl | rfl | rfl
      · exact (fm_bn F1).le (by decide) (by decide)
      · exact (fm_bn F2).le (by decide) (by decide)
      · exact hp3.2.le (by decide) (by decide)
      · exact hp4.2.le (by decide) (by decide)
  obtain ⟨ok9, S3, rfl, hS3, hB3⟩ := hy
  clear r1 r2 F1 F2 hB2 hS2
  have rw1 := R_some.mk B9 (wayList.map .str) (by decide) (by decide) ok9
  rw [pick_str wayList B9 (by decide)] at rw1
  have hw := pickS_mem wayList B9 (by decide)
  have ok10 := tkB_ok ok9 (wayList.map PyData.str).length
  generalize tkB B9 (wayList.map PyData.str).length = B10 at *
  generalize pickS wayList B9 = way at *
  have rt := R_take.mk B10 5 (by decide) (by unfold Bd; decide +kernel) ok10
  have t0 := tkV_ge B10 (m := 5) (by decide)
  have t1 := tkV_lt B10 (m := 5) (by decide)
  have ok11 := tkB_ok ok10 5
  generalize tkV B10 5 = v5 at *
  generalize tkB B10 5 = B11 at *
  refine sj_set 4 G.nd (d := .da (.list (S3 ++ [.str way, .str "near", .int v5, .bool true, .int ((10 ^ 199 : Nat) : Int)]))) (ej_catL (ej_dat (d := .list S3) 4) (ej_lstD (ad_cons (ej_call c_l_some (G.le (by decide)) (aj_cons (ej_bag 1) (aj_cons (ej_call0 c_l_ways (G.le (by decide)) (R_ways.mk B9)) aj_nil)) (rw1)) (ad_cons ej_str (ad_cons (ej_call c_l_take (G.le (by decide)) (aj_cons (ej_bag 1) (aj_cons ej_int aj_nil)) (rt)) (ad_cons ej_bl (ad_cons (ej_call c_l_to (G.le (by decide)) (aj_cons ej_int (aj_cons ej_int aj_nil)) (R_pow.mk 10 199 B11 (by decide) (by decide))) ad_nil))))) (Nat.le_of_ble_eq_true rfl)) (by simp [hS3])) ?_
  obtain ⟨T, eT, hT, hBT⟩ : ∃ T, S3 ++ [.str way, .str "near", .int v5, .bool true, .int ((10 ^ 199 : Nat) : Int)] = T ∧ T.length = 18 ∧ ∀ d ∈ T, BN 1 60 d := by
    refine ⟨_, rfl, by simp [hS3], fun d hd => ?_⟩
    rcases List.mem_append.mp hd with hd | hd
    · exact hB3 d hd
    · simp only [List.mem_cons, List.not_mem_nil, or_false] at hd
      rcases hd with rfl | rfl | rfl | rfl | rfl
      · rcases ways hw with rfl | rfl | rfl | rfl | rfl <;> exact (BN.word (n := 1) (W := 60))
      · exact (BN.word (n := 1) (W := 60))
      · exact int_bn (k := 4) (by unfold Bd; omega)
      · exact ⟨by simp only [bendB, datB], by simp only [PyData.depth]; omega, by simp only [PyData.bulk]; omega⟩
      · exact int_bn (k := 700) (by unfold Bd; decide +kernel)
  rw [eT]
  clear eT rw1 rt t0 t1 hB3 hS3 hw
  refine sj_setLcRX 5 (x := "_law_k") (j := 9) G.nd G.calm m_range (blkOk_by (N := ["_law_script", "_law_bag_here", "_law_words", "_law_flags", "_law_things", "_law_near", "_law_thing", "_law_told", "_law_due", "_law_k", "_law_one", "_law_its"]) (sc := defScope s_law) (by decide +kernel)) (fun _ _ _ _ _ => pg_name (i := 9) G.nd rfl (Or.inl rfl)) (sw_true rfl rfl rfl (by decide +kernel)) (rx_lcR (n := 16) (fun k acc B' => Bok B' ∧ ∀ d ∈ acc, An 6 853 d) (aj_cons (ej_is ej_int rfl) aj_nil) ⟨ok11, fun _ h => nomatch h⟩ (by decide) (fun k acc B' hk hl hI => ?_) (fun U B12 hU hI => ?_))
  · intro s1 H1 C1 cl1 fp1
    have hpk := hBT _ (pick_in T B' (by omega))
    refine ex_call c_l_bent ⟨G.gd, G.rm.mono (by decide), G.nd, G.calm⟩ (ax_bag 1 (ax_aj (aj_cons (ej_call c_l_some ⟨G.gd, G.rm.mono (by decide), G.nd, G.calm⟩ (aj_cons (ej_bag 1) (aj_cons (ej_dat (d := .list T) 4) aj_nil)) (R_some.mk B' T (by omega) (by omega) hI.1)) aj_nil) ⟨⟨_, rfl, hpk.le (by decide) (by decide), tkB_ok hI.1 _⟩, fun r B2 hp => ⟨hp.1, fun d hd => ?_⟩⟩))
    rcases List.mem_append.mp hd with hd | hd
    · exact hI.2 d hd
    · rw [List.mem_singleton.mp hd]; exact hp.2.1
  obtain ⟨ok12, hBU⟩ := hI
  obtain ⟨f1, h1⟩ := c_is_integer.ref
  obtain ⟨f2, h2⟩ := c_is_fraction.ref
  obtain ⟨f3, h3⟩ := c_is_format.ref
  obtain ⟨f4, h4⟩ := c_is_way.ref
  obtain ⟨f5, h5⟩ := c_are_flags.ref
  have k1 : Cal P w K mg base "is_integer" 6 (R_anyB intB) := (c_is_integer.imp (R' := R_anyB intB) fun Γ B r B' h => by obtain ⟨d, B, _, _⟩ := h; exact R_anyint.mk d B).up (by decide)
  have k2 : Cal P w K mg base "is_fraction" 6 (R_anyB jFrac) := c_is_fraction.up (by decide)
  have k3 : Cal P w K mg base "is_format" 6 (R_anyB jForm) := c_is_format.up (by decide)
  have k4 : Cal P w K mg base "is_way" 6 (R_anyB jWay) := c_is_way.up (by decide)
  have k5 : Cal P w K mg base "are_flags" 6 (R_anyB jFlags) := c_are_flags.imp (R' := R_anyB jFlags) fun Γ B r B' h => by obtain ⟨d, B, h1, h2⟩ := h; exact R_flags.mk d B h1 h2
  refine sj_forLX 6 G.nd G.calm (ex_mono (Φ := fun y B2 => Bok B2 ∧ ∃ ds : List PyData, y = .list ds ∧ ∀ d ∈ ds, An 6 853 d) (ex_catL (ex_catL (ex_ej (ej_dat (d := .list T) 4) (ex_ej (ej_dat (d := .list U) 5) ⟨T, U, rfl, rfl, by omega, ex_lcR (x := "_law_k") (j := 9) G.nd G.calm m_range (blkOk_by (N := ["_law_script", "_law_bag_here", "_law_words", "_law_flags", "_law_things", "_law_near", "_law_thing", "_law_told", "_law_due", "_law_k", "_law_one", "_law_its"]) (sc := defScope s_law) (by decide +kernel)) (fun _ _ _ _ _ => pg_name (i := 9) G.nd rfl (Or.inl rfl)) (rx_lcR (n := 6) (fun k acc B' => Bok B' ∧ ∀ d ∈ acc, An 6 853 d) (aj_cons (ej_is ej_int rfl) aj_nil) ⟨ok12, fun _ h => nomatch h⟩ (by decide) (fun k acc B' hk hl hI => ?_) (fun acc B' hl hI => ⟨T ++ U, acc, rfl, rfl, by rw [List.length_append]; omega, hI.1, _, rfl, fun d hd => ?_⟩))⟩)))) fun y B13 hy => ?_)
  · intro s1 H1 C1 cl1 fp1
    exact ex_call c_l_odd ⟨G.gd, G.rm.mono (by decide), G.nd, G.calm⟩ (ax_bag 1 (ax_nil ⟨⟨rfl, hI.1⟩, fun r B2 hp => ⟨hp.1, fun d hd => by
      rcases List.mem_append.mp hd with hd | hd
      · exact hI.2 d hd
      · rw [List.mem_singleton.mp hd]; exact hp.2.le (by decide) (by decide)⟩⟩))
  · rcases List.mem_append.mp hd with hd | hd
    · rcases List.mem_append.mp hd with hd | hd
      · exact (hBT d hd).an.le (by decide) (by decide)
      · exact hBU d hd
    · exact hI.2 d hd
  obtain ⟨ok13, ds, rfl, hds⟩ := hy
  refine ⟨ds, rfl, fun i Γ' B' => (∃ g6 g7 g8, Γ' = [.no, .bag, .da (.list (ws.map .str)), .da (.tuple (fs.map .str)), .da (.list T), .da (.list U), g6, g7, g8, .no, .no, .no]) ∧ B' = B13, ⟨⟨_, _, _, rfl⟩, rfl⟩, fun i y Γ' B' hy hI => ?_, fun Γ' B' hI => ?_⟩
  · obtain ⟨⟨g6, g7, g8, rfl⟩, rfl⟩ := hI
    have hy2 := hds y (List.mem_of_getElem? hy)
    have oky := hy2.ok (by decide) (by decide)
    have ly := hy2.len (by decide)
    refine sj_set 7 G.nd (d := .fns [f1, f2, f3, f4, f5]) (ej_lstFn (aj_cons (ej_fn h1) (aj_cons (ej_fn h2) (aj_cons (ej_fn h3) (aj_cons (ej_fn h4) (aj_cons (ej_fn h5) aj_nil))))) (Nat.le_of_ble_eq_true rfl)) ?_
    refine sj_own 8 G.nd (ds := [.bool (intB y), .bool (jFrac y), .bool (jForm y), .bool (jWay y)]) (fj_lstD (aj_cons (ej_call c_l_is_int (G.le (by decide)) (aj_cons (ej_dat (d := y) 6) aj_nil) (R_anyint.mk y B')) (aj_cons (ej_call c_l_is_fraction (G.le (by decide)) (aj_cons (ej_dat (d := y) 6) aj_nil) (R_anyB.mk y B' oky ly)) (aj_cons (ej_call c_l_is_format (G.le (by decide)) (aj_cons (ej_dat (d := y) 6) aj_nil) (R_anyB.mk y B' oky ly)) (aj_cons (ej_call c_l_is_way (G.le (by decide)) (aj_cons (ej_dat (d := y) 6) aj_nil) (R_anyB.mk y B' oky ly)) aj_nil)))) (Nat.le_of_ble_eq_true rfl)) (Nat.le_of_ble_eq_true rfl) ?_
    refine ow_app G.nd (y := .bool (jFlags y)) (ej_call c_l_are_flags (G.le (by decide)) (aj_cons (ej_dat (d := y) 6) aj_nil) (R_flags.mk y B' oky ly)) (Nat.le_of_ble_eq_true rfl) (ow_end ?_)
    have rr : ∀ t ∈ ([(f1, intB y), (f2, jFrac y), (f3, jForm y), (f4, jWay y), (f5, jFlags y)] : List (Addr × Bool)), R_istold P w K mg base [.fn t.1, .da y, .da (.bool t.2)] B' (.bool true) B' := by
      intro t ht
      simp only [List.mem_cons, List.not_mem_nil, or_false] at ht
      rcases ht with rfl | rfl | rfl | rfl | rfl
      · exact R_istold.mk _ _ _ k1 h1 y B' oky ly
      · exact R_istold.mk _ _ _ k2 h2 y B' oky ly
      · exact R_istold.mk _ _ _ k3 h3 y B' oky ly
      · exact R_istold.mk _ _ _ k4 h4 y B' oky ly
      · exact R_istold.mk _ _ _ k5 h5 y B' oky ly
    refine sj_when (x := false) (tj_neLE (ds := (([(f1, intB y), (f2, jFrac y), (f3, jForm y), (f4, jWay y), (f5, jFlags y)] : List (Addr × Bool)).filter fun _ => false).map fun _ => .int 1) G.hu (ej_lcFZ (j1 := 10) (j2 := 11) (x1 := "_law_one") (x2 := "_law_its") G.nd G.calm m_zip (blkOk_by (N := ["_law_script", "_law_bag_here", "_law_words", "_law_flags", "_law_things", "_law_near", "_law_thing", "_law_told", "_law_due", "_law_k", "_law_one", "_law_its"]) (sc := defScope s_law) (by decide +kernel)) (fun _ _ _ _ _ => pg_tup G.calm (pgs_cons (pg_name (i := 10) G.nd rfl (Or.inl rfl)) (pgs_cons (pg_name (i := 11) G.nd rfl (Or.inl rfl)) pgs_nil))) (rj_lcFZF ([(f1, intB y), (f2, jFrac y), (f3, jForm y), (f4, jWay y), (f5, jFlags y)] : List (Addr × Bool)) (fun t => t.1) (fun t => .bool t.2) (fun _ => .int 1) (fun _ => false) (by decide) (aj_cons (ej_var 7 (d := .fns [f1, f2, f3, f4, f5]) rfl (fun z => nomatch z)) (aj_cons (ej_dat (d := .list ([.bool (intB y), .bool (jFrac y), .bool (jForm y), .bool (jWay y)] ++ [.bool (jFlags y)])) 8) aj_nil)) (Nat.le_of_ble_eq_true rfl) (fun t ht => ?_) (fun t ht h => Bool.noConfusion h))) (ej_lstD ad_nil (Nat.le_of_ble_eq_true rfl))) (fun h => Bool.noConfusion h) (fun _ => sj_nil ⟨⟨_, _, _, rfl⟩, rfl⟩)
    intro s0 H0 C0 cl0 fp0
    exact tj_is (tj_not (tj_val (ej_call c_l_is_told ⟨G.gd, G.rm.mono (by decide), G.nd, G.calm⟩ (aj_cons (ej_var 10 (d := .fn t.1) rfl (fun z => nomatch z)) (aj_cons (ej_dat (d := y) 6) (aj_cons (ej_dat (d := .bool t.2) 11) aj_nil))) (rr t ht)))) rfl
  · obtain ⟨⟨g6, g7, g8, rfl⟩, rfl⟩ := hI
    exact sj_ret ej_bl rfl

end K01
namespace Gd
open PySem PySem.Spec PyProof.Rows L2
theorem repAll_ok {K : PySem.W.Frag} {f : Value → PyData → Bool} (hf : ∀ v d, f v d = true → ∃ u : V, RelV u v ∧ ∀ H, Rp K H u d) :
    ∀ (vs : List Value) (ds : List PyData), repAll f vs ds = true → ∃ us : List V, Vals us vs ∧ ∀ H, RpAll K H us ds
  | [], [], _ => ⟨[], .nil, fun _ => .nil⟩
  | v :: vs, d :: ds, h => by
    have h' : (f v d && repAll f vs ds) = true := h
    rw [Bool.and_eq_true] at h'
    obtain ⟨u, a, b⟩ := hf _ _ h'.1
    obtain ⟨us, c, e⟩ := repAll_ok hf vs ds h'.2
    exact ⟨u :: us, .cons a c, fun H => .cons (b H) (e H)⟩
  | [], _ :: _, h => by cases h
  | _ :: _, [], h => by cases h
theorem repB_ok {K : PySem.W.Frag} : ∀ (n : Nat) (v : Value) (d : PyData), repB K n v d = true → ∃ u : V, RelV u v ∧ ∀ H, Rp K H u d
  | 0, _, _, h => by simp [repB] at h
  | n + 1, v, d, h => by
    unfold repB at h
    split at h
    · cases h
    · have e := of_decide_eq_true h
      subst e
      exact ⟨.str _, ⟨_, rfl⟩, fun _ => .str _⟩
    · have e := of_decide_eq_true h
      subst e
      exact ⟨.int _, ⟨_, rfl⟩, fun _ => .int _⟩
    · split at h
      · rename_i a ds c od its k sl hl
        rw [Bool.and_eq_true, Bool.and_eq_true] at h
        obtain ⟨h1, h2, h3⟩ := h
        have e := of_decide_eq_true h1
        subst e
        injection ‹n + 1 = _› with e1
        subst e1
        obtain ⟨us, r, q⟩ := repAll_ok (repB_ok n) _ _ h3
        exact ⟨.ref _, rfl, fun H => Rp.tup (sq_keep hl (Nat.le_of_ble_eq_true h2) r) (q H)⟩
      · cases h
    · cases h
theorem globB_ok {K : PySem.W.Frag} {h : Heap} {mg : Str → Option Value} {x : Str} {d : PyData} (X : K.In h) (G : h.Ns mainGlobals mg) (c : globB K x d = true) : Glob K mg x d := by
  unfold globB at c
  split at c
  · obtain ⟨u, a, b⟩ := repB_ok _ _ _ c
    exact ⟨u, _, PySem.W.mg_of X G ‹_›, a, b⟩
  · cases c
theorem bltB_ok {K : PySem.W.Frag} {h : Heap} {mg : Str → Option Value} {x : Str} {b : String} (X : K.In h) (G : h.Ns mainGlobals mg) (c : bltB K x b = true) : mg x = some (.builtin b) :=
  PySem.W.mg_of X G (He.eqO_ok c)
theorem ckM_glob {gl : List (Str × PyData)} {bl : List (Str × String)} {K : PySem.W.Frag} {h : Heap} {mg : Str → Option Value} {x : Str} {d : PyData} (X : K.In h) (G : h.Ns mainGlobals mg) (c : ckM gl bl K = true) (i : Nat) (e : gl[i]? = some (x, d)) : Glob K mg x d := by
  have c' : (gl.all (fun p => globB K p.1 p.2) && bl.all (fun p => bltB K p.1 p.2)) = true := c
  rw [Bool.and_eq_true] at c'
  exact globB_ok X G (List.all_eq_true.1 c'.1 _ (List.mem_of_getElem? e))
theorem ckM_blt {gl : List (Str × PyData)} {bl : List (Str × String)} {K : PySem.W.Frag} {h : Heap} {mg : Str → Option Value} {x : Str} {b : String} (X : K.In h) (G : h.Ns mainGlobals mg) (c : ckM gl bl K = true) (i : Nat) (e : bl[i]? = some (x, b)) : mg x = some (.builtin b) := by
  have c' : (gl.all (fun p => globB K p.1 p.2) && bl.all (fun p => bltB K p.1 p.2)) = true := c
  rw [Bool.and_eq_true] at c'
  exact bltB_ok X G (List.all_eq_true.1 c'.2 _ (List.mem_of_getElem? e))
theorem obM_eq {fa : List He.Fa} {fn : List He.DefD} {ck : PySem.W.Frag → Bool} (s : PySem.W.SharedT) : obM fa fn ck s = (hkM fa fn ck).obs s.abs := by
  have e : HandSHeadRun.getT s = s.abs.heap.get? := funext (HandSHeadRun.getT_eq s)
  unfold obM hkM
  rw [e]
theorem defD_at {K : PySem.W.Frag} {h : Heap} {mg : Str → Option Value} {fa : List He.Fa} {fn : List He.DefD} (X : K.In h) (G : h.Ns mainGlobals mg) (c : He.SaysD fa fn K) {y x : Str} {st : Stmt} (i : Nat) (e : fn[i]? = some (dfD y x st)) (ef : fa[i]? = some (.glo y)) :
    ∃ (f : Addr) (oc : Value) (od an : Option Addr) (osl : Array (Option Value)) (kV doc pm cdv ct : Value), PySem.W.nsIn K mainGlobals y = some (some (.ref f)) ∧
      K.lookup f = some ⟨oc, od, .func (PySem.W.fnOf x x (defArgs st) (defBody st) (defScope st) .none kV doc pm an cdv ct), osl⟩ ∧ PySem.W.codeIn K cdv x = true ∧ PySem.W.keepIn K (.ref f) = true := by
  have g := He.eqO_ok (c.fact i (f := .glo y) ef)
  obtain ⟨fd, ⟨oc, od, dV, kV, doc, pm, an, cdv, ct, osl, e1, e2, e3, e4, e5⟩, kp⟩ := c.def_ i (d := dfD y x st) e
  have d0 : dV = .none := by
    rcases e4 with ⟨_, z⟩ | ⟨z, _⟩
    · exact z
    · exact absurd rfl z
  subst d0 e1
  exact ⟨_, oc, od, an, osl, kV, doc, pm, cdv, ct, g, e2, e3, kp⟩
theorem at_mkH {K : PySem.W.Frag} {h : Heap} {mg : Str → Option Value} {fa : List He.Fa} {fn : List He.DefD} {x : Str} {st : Stmt} (ps : List Str) (X : K.In h) (G : h.Ns mainGlobals mg) (c : He.SaysD fa fn K) (i : Nat) (e : fn[i]? = some (dfD x x st)) (ef : fa[i]? = some (.glo x))
    (b : ∀ (kV doc pm : Value) (an : Option Addr) (cdv ct : Value) (us : List Value), us.length = ps.length → bindArgs (PySem.W.fnOf x x (defArgs st) (defBody st) (defScope st) .none kV doc pm an cdv ct) ⟨us, []⟩ = pure (ps.zip us)) :
    At K mg x st ps :=
  let ⟨_, _, _, _, _, _, _, _, _, _, a, l, d, k⟩ := defD_at X G c i e ef
  at_mk ps X G a l d k b
theorem law_mkH {P : Program} {w : World} {K : PySem.W.Frag} {h : Heap} {mg : Str → Option Value} {fas : List He.Fa} {fn : List He.DefD} {st : Stmt} {fa : Addr} {n : Nat}
    (X : K.In h) (G : h.Ns mainGlobals mg) (hfa : mg "law" = some (.ref fa)) (c : He.SaysD fas fn K) (i : Nat) (e : fn[i]? = some (dfD "law" "law" st)) (ef : fas[i]? = some (.glo "law"))
    (b : ∀ (kV doc pm : Value) (an : Option Addr) (cdv ct : Value) (s : Shared) (v : Value), BindsTo s (PySem.W.fnOf "law" "law" (defArgs st) (defBody st) (defScope st) .none kV doc pm an cdv ct) ⟨[v], []⟩ [("_law_script", v)])
    (H : ∀ (base : Heap) (f : Addr) (fd : FuncData), Fun K "law" "law" st f fd → FnG P w K mg base n f fd ["_law_script"] (spLaw K)) :
    ∃ fd : FuncData, (∀ (s : Shared) (v : Value), BindsTo s fd ⟨[v], []⟩ [("_law_script", v)]) ∧ ∀ base : Heap, K.In base → base.Ns mainGlobals mg → FnG P w K mg base n fa fd ["_law_script"] (spLaw K) :=
  let ⟨_, _, _, _, _, _, _, _, _, _, a, l, d, k⟩ := defD_at X G c i e ef
  law_mk X G hfa a l d k (fun s v => b _ _ _ _ _ _ s v) H
theorem walk_ofGH {l : PySem.W.OpenLaw} {k : Nat} {q : Program} {loose : List Str} {XP : (Str → Option Value) → Heap → Prop} {d : DefRec} {fas : List He.Fa} {fn : List He.DefD} {ck : PySem.W.Frag → Bool} {x : Str}
    (hn : l.most = some 63) (hdf : d.params.defaults = []) (hr : Room k callerA)
    (F : ∀ (w : World) (K : PySem.W.Frag) (mg : Str → Option Value) (fa : Addr) (h : Heap), K.In h → h.Ns mainGlobals mg → mg d.name = some (.ref fa) → He.SaysD fas fn K → ck K = true →
      ∃ fd : FuncData, (∀ (s : Shared) (u : Value), BindsTo s fd ⟨[u], []⟩ [(x, u)]) ∧ ∀ base : Heap, K.In base → base.Ns mainGlobals mg → FnG l.prog w K mg base k fa fd [x] (spLaw K)) :
    PySem.W.WalkO q loose XP (hkM fas fn ck).says l.row.toRowW d [] fun f vs => PySem.call f vs := by
  refine Att.attach_call hn hdf fun w sw sx mg mb fa o pm cd doc a vs ns G Y ho hd hcd hmg hobj hints hlen hg => ?_
  obtain ⟨K, KI, c1, c2⟩ := Y
  have ⟨fd, hb, hF⟩ := F w K mg fa _ KI G.T.g hmg c1 c2
  exact law_callG KI G.T.g G.T.b G.T.builtins G.T.nolimit hg hobj hints (Nat.le_trans hlen (by decide)) hr hF hb fun H hS => ⟨a, ns, rfl, hS, hlen, fun _ => rfl⟩
end Gd
namespace Gd
open PySem PySem.Spec PyProof.Rows
theorem endG_ok {M : Nat} {p : Program} {w : World} {s0 : Shared} {s : PySem.W.SharedT} (h : endG (PySem.W.stepT (denote treeTable) p w) M p s0 = some s) :
    PySem.W.topRun treeTable p w s0.heap.objs.size (s0.heap.nsMap mainGlobals (Str.ofString "__annotations__")) M s0 (PySem.W.topStub p) = some s.abs := by
  unfold endG at h
  split at h
  · rename_i t n e
    rw [HandSHeadRun.frNat_eq] at h
    have q := HandSHeadRun.goF_ok h
    have eh := HandSHeadRun.putAll_heap e
    have en : s0.heap.objs.size = n := by rw [← eh]; exact PySem.W.absHeap_size _ _ _
    rw [en]
    have eb : (PySem.W.SharedT.mk t n s0.heap.life s0.gens s0.drawn s0.toks s0.os).abs = s0 := by
      unfold PySem.W.SharedT.abs
      rw [eh]
    rw [eb] at q
    exact q
  · cases h
theorem endG_eq (M : Nat) (p : Program) (w : World) (s0 : Shared) : endG (PySem.W.stepT (denote treeTable) p w) M p s0 = endG (HandSHeadRun.stepQ (HandSHeadRun.denQ HandSHeadRun.tabQ) p w) M p s0 := by
  rw [HandSHeadRun.stepQ_eq, HandSHeadRun.denQ_eq, HandSHeadRun.tabQ_eq]
theorem goI_ok {tb : String → Option Builtin} {p : Program} {w : World} : ∀ (m : Nat) (s s' : PySem.W.SharedT) (t : Thread), goI (PySem.W.stepT (denote tb) p w) m s t = some s' → importEnds tb p w m s.abs t = some s'.abs
  | 0, _, _, _, h => by cases h
  | m + 1, s, s', t, h => by
    unfold goI at h
    unfold importEnds
    split at h
    · rename_i e
      rw [e]
      cases h
      rfl
    · cases h
    · rename_i e
      rw [e]
      split at h
      · rename_i s2 t2 e2
        rw [HandSHeadRun.frS_eq] at h
        have q := PySem.W.stepT_spec e2
        show (match step (denote tb) p w s.abs t with | .go s' t' => importEnds tb p w m s' t' | .halt _ _ => none) = _
        rw [q]
        exact goI_ok m _ _ _ h
      · cases h
theorem openI_ok {N : Nat} {p : Program} {w : World} {s0 : Shared} (h : openI (PySem.W.stepT (denote treeTable) (PySem.W.opening p) w) N p = some s0) : PySem.W.fencedOpening treeTable p w N = some s0 := by
  obtain ⟨s, a, b⟩ := Option.bind_eq_some_iff.mp h
  have q := goI_ok _ _ _ _ a
  unfold PySem.W.fencedOpening
  have e : (PySem.W.SharedT.mk PySem.W.BT.nil 0 {} #[] {} 1 (start (PySem.W.opening p)).1.os).abs = (start (PySem.W.opening p)).1 := by
    unfold PySem.W.SharedT.abs PySem.start
    simp only [HandSHeadRun.abs_nil]
  rw [e] at q
  rw [q]
  exact b
theorem left_two {r : PySem.W.OpenRow} {q : Program} {H : PySem.W.Hook} {ob : PySem.W.SharedT → H.α} {N M : Nat} {loose : List Str} (ho : ∀ s, ob s = H.obs s.abs) (le : M ≤ N) (runA : ∀ w, RunA r q N M loose w) (runB : ∀ w, RunB r H ob N M w) :
    PySem.W.LeftO r.prog q loose (fun s => PySem.W.xlAt q [] s && PySem.W.recOk r.records s) (fun s => H.obs s) H.val N := fun w => by
  obtain ⟨⟨s0, s⟩, hr, hv⟩ := Option.map_eq_some_iff.mp (runA w)
  have l3 : ob s = H.val w := by
    have z := runB w
    unfold RunB at z
    rw [hr] at z
    injection z
  obtain ⟨l1, l2⟩ : ((s0.heap.isNs mainGlobals && s0.gens.size == 0) && HandSHeadRun.looksF r.prog s0.heap s.abs) = true ∧ HandSHeadRun.seenQ q loose (importedModules r.prog.main.body) (fun s => PySem.W.xlAt q [] s && PySem.W.recOk r.records s) s.abs = PySem.W.openGood q loose := by
    injection hv with h1 h2
    exact ⟨h1, h2⟩
  unfold runI at hr
  obtain ⟨s0', a, b⟩ := Option.bind_eq_some_iff.mp hr
  obtain ⟨s', hs, hz⟩ := Option.map_eq_some_iff.mp b
  cases hz
  rw [← endG_eq] at hs
  have a' : openI (PySem.W.stepT (denote treeTable) (PySem.W.opening r.prog) w) N r.prog = some s0 := by
    rw [HandSHeadRun.stepQ_eq, HandSHeadRun.denQ_eq, HandSHeadRun.tabQ_eq]
    exact a
  have a := openI_ok a'
  have t0 := endG_ok hs
  have t1 := PySem.W.topRun_mono (N - M) M _ _ _ t0
  rw [show M + (N - M) = N by omega] at t1
  rw [Bool.and_eq_true] at l1
  have l1' : (PySem.W.staticsOk (importedModules r.prog.main.body) s0.heap s.abs.heap && PySem.W.namesBound r.prog s.abs.heap && PySem.W.gensDone s.abs && PySem.W.laidKept s0.heap s.abs.heap) = true := l1.2
  have tt : PySem.W.topFrom treeTable r.prog w N s0 = some s.abs := by
    unfold PySem.W.topFrom
    rw [l1.1]
    show (PySem.W.topRun _ _ _ _ _ _ _ _).bind _ = _
    rw [t1]
    show (match _ with | true => _ | false => _) = _
    rw [l1']
  show Option.map _ (PySem.W.openEnds treeTable r.prog w N) = _
  unfold PySem.W.openEnds
  rw [a]
  show Option.map _ (PySem.W.topFrom treeTable r.prog w N s0) = _
  rw [tt]
  show some (PySem.W.openSeen q loose _ _ true s.abs, H.obs s.abs) = _
  rw [HandSHeadRun.seenQ_eq, l2, ← ho s, l3]
theorem head_two {r : PySem.W.OpenRow} {q : Program} {H : PySem.W.Hook} {ob : PySem.W.SharedT → H.α} {N M : Nat} {loose : List Str} {d : DefRec} {kwd : List (Str × Expr)} (ho : ∀ s, ob s = H.obs s.abs) (le : M ≤ N) (runA : ∀ w, RunA r q N M loose w) (runB : ∀ w, RunB r H ob N M w)
    (hdef : PySem.W.defOf q r.name = some (d, kwd)) (hp : r.prog.theDef r.name = some (d.params, d.body, d.scope)) (hk : PySem.W.kwWritten? d.params.kwonlyargs d.params.kw_defaults = some kwd)
    (hwr : (!r.writes || List.isEmpty r.records) = true) (k1 : r.wellSaid = true) (ok : (PySem.W.chainsOk q && PySem.W.opensWell r.prog && (PySem.W.frees r.toRowW && r.within.isEmpty)) = true) (hb : r.prog.bare) (hw : r.promised)
    (call : PySem.W.WalkO q loose (PySem.W.XL q []) H.says r.toRowW d kwd fun f vs => PySem.call f vs) : r.Holds :=
  PySem.W.holds_open (left_two ho le runA runB) H.of H.keeps (fun s z => PySem.W.xl_of s (Bool.and_eq_true_iff.mp z).left) PySem.W.XL.keeps hdef hp hk
    (fun s z => PySem.W.recFacts_of (Bool.and_eq_true_iff.mp z).right) hwr k1 ok hb hw call
end Gd
namespace Gd
open PySem PySem.Spec PyProof.Rows L2
theorem ckS_ok {K : PySem.W.Frag} (h : ckS K = true) : KSys K := Option.isSome_iff_exists.mp h
end Gd
namespace K01
open PySem PySem.Spec PyProof.Rows L2 Gd Lw K01H
theorem all_mk {w : World} {K : PySem.W.Frag} {h : Heap} {mg : Str → Option Value} {fa : Addr} (X : K.In h) (G : h.Ns mainGlobals mg) (hfa : mg "law" = some (.ref fa)) (c : He.SaysD fas fn K) (kk : ck K = true) :
    ∃ fd : FuncData, (∀ (s : Shared) (v : Value), BindsTo s fd ⟨[v], []⟩ [("_law_script", v)]) ∧ ∀ base : Heap, K.In base → base.Ns mainGlobals mg → FnG PySem.Challenge.pw_nearestheld_k01_fractions_and_formats_of w K mg base 12 fa fd ["_law_script"] (spLaw K) := by
  have T_is_integer : At K mg "is_integer" s_is_integer ["thing"] := at_mkH ["thing"] X G c 0 rfl rfl (fun _ _ _ _ _ _ us hl => match us, hl with | [_], _ => rfl)
  have T_is_fraction : At K mg "is_fraction" s_is_fraction ["thing"] := at_mkH ["thing"] X G c 1 rfl rfl (fun _ _ _ _ _ _ us hl => match us, hl with | [_], _ => rfl)
  have T_is_format : At K mg "is_format" s_is_format ["thing"] := at_mkH ["thing"] X G c 2 rfl rfl (fun _ _ _ _ _ _ us hl => match us, hl with | [_], _ => rfl)
  have T_is_way : At K mg "is_way" s_is_way ["thing"] := at_mkH ["thing"] X G c 3 rfl rfl (fun _ _ _ _ _ _ us hl => match us, hl with | [_], _ => rfl)
  have T_are_flags : At K mg "are_flags" s_are_flags ["thing"] := at_mkH ["thing"] X G c 4 rfl rfl (fun _ _ _ _ _ _ us hl => match us, hl with | [_], _ => rfl)
  have T_l_bag : At K mg "_law_bag" s_l_bag ["_law_script"] := at_mkH ["_law_script"] X G c 5 rfl rfl (fun _ _ _ _ _ _ us hl => match us, hl with | [_], _ => rfl)
  have T_l_take : At K mg "_law_take" s_l_take ["_law_bag_here", "_law_many"] := at_mkH ["_law_bag_here", "_law_many"] X G c 6 rfl rfl (fun _ _ _ _ _ _ us hl => match us, hl with | [_, _], _ => rfl)
  have T_l_some : At K mg "_law_some" s_l_some ["_law_bag_here", "_law_things"] := at_mkH ["_law_bag_here", "_law_things"] X G c 7 rfl rfl (fun _ _ _ _ _ _ us hl => match us, hl with | [_, _], _ => rfl)
  have T_l_mixed : At K mg "_law_mixed" s_l_mixed ["_law_bag_here", "_law_things"] := at_mkH ["_law_bag_here", "_law_things"] X G c 8 rfl rfl (fun _ _ _ _ _ _ us hl => match us, hl with | [_, _], _ => rfl)
  have T_l_alike : At K mg "_law_alike" s_l_alike ["_law_found", "_law_due"] := at_mkH ["_law_found", "_law_due"] X G c 9 rfl rfl (fun _ _ _ _ _ _ us hl => match us, hl with | [_, _], _ => rfl)
  have T_l_is_int : At K mg "_law_is_int" s_l_is_int ["_law_thing"] := at_mkH ["_law_thing"] X G c 10 rfl rfl (fun _ _ _ _ _ _ us hl => match us, hl with | [_], _ => rfl)
  have T_l_common : At K mg "_law_common" s_l_common ["_law_one", "_law_other"] := at_mkH ["_law_one", "_law_other"] X G c 11 rfl rfl (fun _ _ _ _ _ _ us hl => match us, hl with | [_, _], _ => rfl)
  have T_l_to : At K mg "_law_to" s_l_to ["_law_base", "_law_n"] := at_mkH ["_law_base", "_law_n"] X G c 12 rfl rfl (fun _ _ _ _ _ _ us hl => match us, hl with | [_, _], _ => rfl)
  have T_l_over : At K mg "_law_over" s_l_over ["_law_n", "_law_d"] := at_mkH ["_law_n", "_law_d"] X G c 13 rfl rfl (fun _ _ _ _ _ _ us hl => match us, hl with | [_, _], _ => rfl)
  have T_l_formats : At K mg "_law_formats" s_l_formats ["_law_bag_here"] := at_mkH ["_law_bag_here"] X G c 14 rfl rfl (fun _ _ _ _ _ _ us hl => match us, hl with | [_], _ => rfl)
  have T_l_wide_format : At K mg "_law_wide_format" s_l_wide_format ["_law_bag_here"] := at_mkH ["_law_bag_here"] X G c 15 rfl rfl (fun _ _ _ _ _ _ us hl => match us, hl with | [_], _ => rfl)
  have T_l_ways : At K mg "_law_ways" s_l_ways [] := at_mkH [] X G c 16 rfl rfl (fun _ _ _ _ _ _ us hl => match us, hl with | [], _ => rfl)
  have T_l_is_fraction : At K mg "_law_is_fraction" s_l_is_fraction ["_law_thing"] := at_mkH ["_law_thing"] X G c 17 rfl rfl (fun _ _ _ _ _ _ us hl => match us, hl with | [_], _ => rfl)
  have T_l_is_format : At K mg "_law_is_format" s_l_is_format ["_law_thing"] := at_mkH ["_law_thing"] X G c 18 rfl rfl (fun _ _ _ _ _ _ us hl => match us, hl with | [_], _ => rfl)
  have T_l_is_way : At K mg "_law_is_way" s_l_is_way ["_law_thing"] := at_mkH ["_law_thing"] X G c 19 rfl rfl (fun _ _ _ _ _ _ us hl => match us, hl with | [_], _ => rfl)
  have T_l_are_flags : At K mg "_law_are_flags" s_l_are_flags ["_law_thing"] := at_mkH ["_law_thing"] X G c 20 rfl rfl (fun _ _ _ _ _ _ us hl => match us, hl with | [_], _ => rfl)
  have T_l_odd : At K mg "_law_odd" s_l_odd ["_law_bag_here"] := at_mkH ["_law_bag_here"] X G c 21 rfl rfl (fun _ _ _ _ _ _ us hl => match us, hl with | [_], _ => rfl)
  have T_l_bent : At K mg "_law_bent" s_l_bent ["_law_bag_here", "_law_thing"] := at_mkH ["_law_bag_here", "_law_thing"] X G c 22 rfl rfl (fun _ _ _ _ _ _ us hl => match us, hl with | [_, _], _ => rfl)
  have T_l_is_told : At K mg "_law_is_told" s_l_is_told ["_law_told", "_law_thing", "_law_due"] := at_mkH ["_law_told", "_law_thing", "_law_due"] X G c 23 rfl rfl (fun _ _ _ _ _ _ us hl => match us, hl with | [_, _, _], _ => rfl)
  have T_l_edge_format : At K mg "_law_edge_format" s_l_edge_format ["_law_bag_here"] := at_mkH ["_law_bag_here"] X G c 24 rfl rfl (fun _ _ _ _ _ _ us hl => match us, hl with | [_], _ => rfl)
  have m_abs : mg "abs" = none := He.free_ok X G (c.fact 26 (f := .free "abs") rfl)
  have m_all : mg "all" = none := He.free_ok X G (c.fact 27 (f := .free "all") rfl)
  have m_bool : mg "bool" = none := He.free_ok X G (c.fact 28 (f := .free "bool") rfl)
  have m_int : mg "int" = none := He.free_ok X G (c.fact 29 (f := .free "int") rfl)
  have m_isinstance : mg "isinstance" = none := He.free_ok X G (c.fact 30 (f := .free "isinstance") rfl)
  have m_len : mg "len" = none := He.free_ok X G (c.fact 31 (f := .free "len") rfl)
  have m_list : mg "list" = none := He.free_ok X G (c.fact 32 (f := .free "list") rfl)
  have m_range : mg "range" = none := He.free_ok X G (c.fact 33 (f := .free "range") rfl)
  have m_repr : mg "repr" = none := He.free_ok X G (c.fact 34 (f := .free "repr") rfl)
  have m_sorted : mg "sorted" = none := He.free_ok X G (c.fact 35 (f := .free "sorted") rfl)
  have m_str : mg "str" = none := He.free_ok X G (c.fact 36 (f := .free "str") rfl)
  have m_tuple : mg "tuple" = none := He.free_ok X G (c.fact 37 (f := .free "tuple") rfl)
  have m_zip : mg "zip" = none := He.free_ok X G (c.fact 38 (f := .free "zip") rfl)
  have sk : KSys K := ckS_ok (Bool.and_eq_true_iff.mp kk).2
  have kk := (Bool.and_eq_true_iff.mp kk).1
  have m_gcd : mg "gcd" = some (.builtin "math.gcd") := ckM_blt X G kk 0 rfl
  have g_words : Glob K mg "FLAG_WORDS" (words flagAll) := ckM_glob X G kk 0 rfl
  have g_ways : Glob K mg "WAYS" (.tuple (wayList.map .str)) := ckM_glob X G kk 1 rfl
  refine law_mkH (st := s_law) (n := 12) X G hfa c 25 rfl rfl (fun _ _ _ _ _ _ _ _ => .of_eq rfl) (fun base f fd F => ?_)
  have c_l_take := c_of_l_take (P := PySem.Challenge.pw_nearestheld_k01_fractions_and_formats_of) (w := w) (base := base) m_int T_l_take
  have c_l_common := c_of_l_common (P := PySem.Challenge.pw_nearestheld_k01_fractions_and_formats_of) (w := w) (base := base) m_abs m_int T_l_common
  have c_l_over := c_of_l_over (P := PySem.Challenge.pw_nearestheld_k01_fractions_and_formats_of) (w := w) (base := base) m_int c_l_common T_l_over
  have c_l_some := c_of_l_some (P := PySem.Challenge.pw_nearestheld_k01_fractions_and_formats_of) (w := w) (base := base) m_len c_l_take T_l_some
  have c_l_formats := c_of_l_formats (P := PySem.Challenge.pw_nearestheld_k01_fractions_and_formats_of) (w := w) (base := base) c_l_some T_l_formats
  have c_l_wide_format := c_of_l_wide_format (P := PySem.Challenge.pw_nearestheld_k01_fractions_and_formats_of) (w := w) (base := base) c_l_some c_l_take T_l_wide_format
  have c_l_to := c_of_l_to (P := PySem.Challenge.pw_nearestheld_k01_fractions_and_formats_of) (w := w) (base := base) m_int T_l_to
  have c_l_is_int := c_of_l_is_int (P := PySem.Challenge.pw_nearestheld_k01_fractions_and_formats_of) (w := w) (base := base) m_isinstance m_int m_bool T_l_is_int
  have c_l_is_fraction := c_of_l_is_fraction (P := PySem.Challenge.pw_nearestheld_k01_fractions_and_formats_of) (w := w) (base := base) m_isinstance m_tuple m_len c_l_is_int c_l_common T_l_is_fraction
  have c_l_is_format := c_of_l_is_format (P := PySem.Challenge.pw_nearestheld_k01_fractions_and_formats_of) (w := w) (base := base) m_isinstance m_tuple m_len m_int c_l_is_int T_l_is_format
  have c_l_ways := c_of_l_ways (P := PySem.Challenge.pw_nearestheld_k01_fractions_and_formats_of) (w := w) (base := base) T_l_ways
  have c_l_is_way := c_of_l_is_way (P := PySem.Challenge.pw_nearestheld_k01_fractions_and_formats_of) (w := w) (base := base) m_isinstance m_str c_l_ways T_l_is_way
  have c_l_are_flags := c_of_l_are_flags (P := PySem.Challenge.pw_nearestheld_k01_fractions_and_formats_of) (w := w) (base := base) m_isinstance m_tuple m_str m_list T_l_are_flags
  have c_l_bag := c_of_l_bag (P := PySem.Challenge.pw_nearestheld_k01_fractions_and_formats_of) (w := w) (base := base) m_abs T_l_bag
  have c_l_mixed := c_of_l_mixed (P := PySem.Challenge.pw_nearestheld_k01_fractions_and_formats_of) (w := w) (base := base) m_len c_l_take T_l_mixed
  have c_l_edge_format := c_of_l_edge_format (P := PySem.Challenge.pw_nearestheld_k01_fractions_and_formats_of) (w := w) (base := base) m_tuple c_l_some T_l_edge_format
  have c_l_odd := c_of_l_odd (P := PySem.Challenge.pw_nearestheld_k01_fractions_and_formats_of) (w := w) (base := base) c_l_to c_l_some T_l_odd
  have c_l_bent := c_of_l_bent (P := PySem.Challenge.pw_nearestheld_k01_fractions_and_formats_of) (w := w) (base := base) m_isinstance m_tuple m_str m_len m_list c_l_is_int c_l_odd c_l_take c_l_some T_l_bent
  have c_is_integer := c_of_is_integer (P := PySem.Challenge.pw_nearestheld_k01_fractions_and_formats_of) (w := w) (base := base) m_isinstance m_int m_bool T_is_integer
  have c_is_fraction := c_of_is_fraction (P := PySem.Challenge.pw_nearestheld_k01_fractions_and_formats_of) (w := w) (base := base) m_gcd m_isinstance m_tuple m_len c_is_integer T_is_fraction
  have c_is_format := c_of_is_format (P := PySem.Challenge.pw_nearestheld_k01_fractions_and_formats_of) (w := w) (base := base) m_isinstance m_tuple m_len m_all c_is_integer T_is_format
  have c_is_way := c_of_is_way (P := PySem.Challenge.pw_nearestheld_k01_fractions_and_formats_of) (w := w) (base := base) g_ways m_isinstance m_str T_is_way
  have c_are_flags := c_of_are_flags (P := PySem.Challenge.pw_nearestheld_k01_fractions_and_formats_of) (w := w) (base := base) g_words m_isinstance m_tuple m_all m_str m_zip T_are_flags
  have c_l_alike := c_of_l_alike (P := PySem.Challenge.pw_nearestheld_k01_fractions_and_formats_of) (w := w) (base := base) m_repr T_l_alike
  have c_l_is_told := c_of_l_is_told (P := PySem.Challenge.pw_nearestheld_k01_fractions_and_formats_of) (w := w) (base := base) sk m_repr c_l_alike T_l_is_told
  exact ok_law m_tuple m_sorted m_list m_range m_zip c_l_take c_l_over c_l_formats c_l_wide_format c_l_some c_l_to c_l_is_int c_l_is_fraction c_l_is_format c_l_is_way c_l_are_flags c_l_bag c_l_mixed c_l_edge_format c_l_ways c_l_bent c_is_integer c_is_fraction c_is_format c_is_way c_are_flags c_l_odd c_l_is_told F
end K01
open PySem PySem.W PySem.Calls PyProof.Rows
set_option maxRecDepth 100000 in
set_option maxHeartbeats 0 in
theorem PySem.Challenge.cw_nearestheld_k01_fractions_and_formats_of_holds : PySem.Challenge.rw_nearestheld_k01_fractions_and_formats_of.Holds := by
  w_on; o_law
  refine Gd.head_two (r := OpenLaw.row PySem.Challenge.rw_nearestheld_k01_fractions_and_formats_of) (q := view (OpenLaw.row PySem.Challenge.rw_nearestheld_k01_fractions_and_formats_of).prog [30]) (H := Gd.hkM K01H.fas K01H.fn K01H.ck) (ob := Gd.obM K01H.fas K01H.fn K01H.ck) (N := 8000) (M := 8000) (loose := K01H.loose) (d := HandSHeadRun.topDef (OpenLaw.row PySem.Challenge.rw_nearestheld_k01_fractions_and_formats_of).prog 30) (kwd := []) Gd.obM_eq (Nat.le_refl _)
    K01H.runA K01H.runB K01H.hdefT K01H.hpT K01H.hkT (by rfl) (by first | assumption | decide +kernel) K01H.okT K01H.hbT ?hw ?hc
  case hw => w_witness2
  case hc =>
    refine Gd.walk_ofGH (l := PySem.Challenge.rw_nearestheld_k01_fractions_and_formats_of) (k := 12) (x := "_law_script") (ck := K01H.ck) (fas := K01H.fas) (fn := K01H.fn) rfl rfl ⟨rfl, by decide, by decide⟩ ?F
    intro w K mg fa h KX G hmg c kk
    have hl : mg ("law" : PySem.Str) = some (.ref fa) := by
      have e : (HandSHeadRun.topDef (OpenLaw.row PySem.Challenge.rw_nearestheld_k01_fractions_and_formats_of).prog 30).name = ("law" : PySem.Str) := K01H.nameT
      rw [← e]
      exact hmg
    exact K01.all_mk KX G hl c kk
