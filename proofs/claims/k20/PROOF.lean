import PyProof.Rows.All
import Wide.All
import OpenK.AllK
import Wide.FinOn
import HandS.ForMost
import HandS.Wide
import HandS.WideBits
import HandS.Gcd
import HandS.TupAny
import HandS.Flow
import HandS.Set
import HandS.SetFor
import HandS.Strs
import HandS.Rev
import HandS.Style
import HandS.TryOnly
import HandS.RaiseMore
import HandS.Deep
import HandS.TupMul
import HandS.Flt
import HandS.Zip
import HandS.IsInst
import HandS.Dict
import KE.KBits
import KE.DataMinMax
import HandS.SortKw
import HandS.More
import KE.GoesEnum
import HandS.Walk
import PyProof.ToksMono
import KE.DataMinKey
import KE.KMathG
import Flt.RightSqrt
import PySem.Challenge.RW_nearestheld_k20_whole_rounded_roots
set_option Elab.async false
set_option linter.all false
set_option maxRecDepth 100000
set_option maxHeartbeats 4000001
namespace Gd
open PySem PySem.Spec PyProof.Rows L2
mutual
inductive Rp (K : PySem.W.Frag) (H : Hp) : V → PyData → Prop
  | non : Rp K H .non .none
  | bl (b : Bool) : Rp K H (.bl b) (.bool b)
  | int (i : Int) : Rp K H (.int i) (.int i)
  | str (x : Str) : Rp K H (.str x) (.str x)
  | lst {a xs ds} (h : H a = some (.lst xs)) (r : RpAll K H xs ds) : Rp K H (.ref a) (.list ds)
  | tup {a xs ds} (h : SqT K H a xs) (r : RpAll K H xs ds) : Rp K H (.ref a) (.tuple ds)
inductive RpAll (K : PySem.W.Frag) (H : Hp) : List V → List PyData → Prop
  | nil : RpAll K H [] []
  | cons {v vs d ds} (h : Rp K H v d) (r : RpAll K H vs ds) : RpAll K H (v :: vs) (d :: ds)
end
section
variable {K : PySem.W.Frag} {H H' : Hp}
theorem seqT (e : Same H H') {a : Addr} {xs : List V} (h : SqT K H a xs) : SqT K H' a xs := by
  rcases h with (hh | ⟨ob, hh⟩) | hh
  · exact .inl (.inl (e _ _ hh))
  · exact .inl (.inr ⟨ob, e _ _ hh⟩)
  · exact .inr hh
mutual
theorem Rp.mono (e : Same H H') : ∀ {v : V} {d : PyData}, Rp K H v d → Rp K H' v d
  | _, _, .non => .non
  | _, _, .bl b => .bl b
  | _, _, .int i => .int i
  | _, _, .str x => .str x
  | _, _, .lst h r => .lst (e _ _ h) (RpAll.mono e r)
  | _, _, .tup h r => .tup (seqT e h) (RpAll.mono e r)
theorem RpAll.mono (e : Same H H') : ∀ {vs : List V} {ds : List PyData}, RpAll K H vs ds → RpAll K H' vs ds
  | _, _, .nil => .nil
  | _, _, .cons h r => .cons (Rp.mono e h) (RpAll.mono e r)
end
mutual
theorem Rp.dp : ∀ {v : V} {d : PyData}, Rp K H v d → Dp K H v d
  | _, _, .non => .non
  | _, _, .bl b => .bl b
  | _, _, .int i => .int i
  | _, _, .str x => .str x
  | _, _, .lst h r => .lst (SqL.of h) (RpAll.dp r)
  | _, _, .tup h r => .tup h (RpAll.dp r)
theorem RpAll.dp : ∀ {vs : List V} {ds : List PyData}, RpAll K H vs ds → DpAll K H vs ds
  | _, _, .nil => .nil
  | _, _, .cons h r => .cons (Rp.dp h) (RpAll.dp r)
end
theorem RpAll.length : ∀ {vs : List V} {ds : List PyData}, RpAll K H vs ds → vs.length = ds.length
  | _, _, .nil => rfl
  | _, _, .cons _ r => congrArg (· + 1) (RpAll.length r)
theorem RpAll.get : ∀ {vs : List V} {ds : List PyData} {i : Nat} {v : V}, RpAll K H vs ds → vs[i]? = some v → ∃ d, ds[i]? = some d ∧ Rp K H v d
  | _, _, 0, _, .cons h _, e => by cases e; exact ⟨_, rfl, h⟩
  | _, _, i + 1, _, .cons _ r, e => RpAll.get (i := i) r e
  | _, _, i, _, .nil, e => by simp at e
theorem RpAll.getD : ∀ {vs : List V} {ds : List PyData} {i : Nat} {d : PyData}, RpAll K H vs ds → ds[i]? = some d → ∃ v, vs[i]? = some v ∧ Rp K H v d
  | _, _, 0, _, .cons h _, e => by cases e; exact ⟨_, rfl, h⟩
  | _, _, i + 1, _, .cons _ r, e => RpAll.getD (i := i) r e
  | _, _, i, _, .nil, e => by simp at e
theorem RpAll.app : ∀ {vs ws : List V} {ds es : List PyData}, RpAll K H vs ds → RpAll K H ws es → RpAll K H (vs ++ ws) (ds ++ es)
  | _, _, _, _, .nil, q => q
  | _, _, _, _, .cons h r, q => .cons h (RpAll.app r q)
theorem RpAll.take : ∀ {vs : List V} {ds : List PyData} (n : Nat), RpAll K H vs ds → RpAll K H (vs.take n) (ds.take n)
  | _, _, 0, _ => .nil
  | _, _, _ + 1, .nil => .nil
  | _, _, n + 1, .cons h r => .cons h (RpAll.take n r)
theorem RpAll.drop : ∀ {vs : List V} {ds : List PyData} (n : Nat), RpAll K H vs ds → RpAll K H (vs.drop n) (ds.drop n)
  | _, _, 0, r => r
  | _, _, _ + 1, .nil => .nil
  | _, _, n + 1, .cons _ r => RpAll.drop n r
end
structure Bag where
  x : Int
  y : Int
  z : Int
  cs : List Int
abbrev Gh := Option (Addr × Addr)
def bagCells (B : Bag) (l : Addr) : List V := [.int B.x, .int B.y, .int B.z, .ref l]
structure On (K : PySem.W.Frag) (g : Gh) (B : Bag) (H0 H : Hp) : Prop where
  ex : Same H0 H
  bag : ∀ a l, g = some (a, l) → H0 a = none ∧ H a = some (.lst (bagCells B l)) ∧ H0 l = some (.lst (B.cs.map V.int))
def Off (g : Gh) (a : Addr) : Prop := ∀ l, g ≠ some (a, l)
structure To (g : Gh) (H0 H H0' H' : Hp) : Prop where
  ex : Same H0 H0'
  un : ∀ a o, Off g a → H0 a = none → H a = some o → H0' a = none ∧ H' a = some o
theorem To.refl {g : Gh} {H0 H : Hp} : To g H0 H H0 H := ⟨Same.refl _, fun _ _ _ h1 h2 => ⟨h1, h2⟩⟩
theorem To.trans {g : Gh} {H0 H H1 H' H2 H'' : Hp} (s : To g H0 H H1 H') (t : To g H1 H' H2 H'') : To g H0 H H2 H'' :=
  ⟨s.ex.trans t.ex, fun a o f h1 h2 => let ⟨p, q⟩ := s.un a o f h1 h2; t.un a o f p q⟩
inductive VD where
  | no
  | da (d : PyData)
  | bag
  | scr (ns : List Int)
  | dct (kvs : List (Str × PyData))
def Rv (K : PySem.W.Frag) (g : Gh) (H0 : Hp) (v : V) : VD → Prop
  | .no => True
  | .da d => Rp K H0 v d
  | .bag => ∃ a l, g = some (a, l) ∧ v = .ref a
  | .scr ns => ∃ a, v = .ref a ∧ SqL K H0 a (ns.map V.int)
  | .dct kvs => ∃ a xs, v = .ref a ∧ H0 a = some (.dK xs) ∧ xs.map (·.1) = kvs.map (fun kv => Sum.inr kv.1) ∧ RpAll K H0 (xs.map (·.2)) (kvs.map (·.2))
theorem Rv.mono {K : PySem.W.Frag} {g : Gh} {H0 H1 : Hp} (e : Same H0 H1) {v : V} : ∀ {d : VD}, Rv K g H0 v d → Rv K g H1 v d
  | .no, h => h
  | .da _, h => Rp.mono e h
  | .bag, h => h
  | .scr _, ⟨a, h1, h2⟩ => ⟨a, h1, e.seq h2⟩
  | .dct _, ⟨a, xs, h1, h2, h3, h4⟩ => ⟨a, xs, h1, e _ _ h2, h3, h4.mono e⟩
def RvAll (K : PySem.W.Frag) (g : Gh) (H0 : Hp) : List V → List VD → Prop
  | [], [] => True
  | v :: vs, d :: ds => Rv K g H0 v d ∧ RvAll K g H0 vs ds
  | _, _ => False
theorem RvAll.mono {K : PySem.W.Frag} {g : Gh} {H0 H1 : Hp} (e : Same H0 H1) : ∀ {vs : List V} {ds : List VD}, RvAll K g H0 vs ds → RvAll K g H1 vs ds
  | [], [], h => h
  | _ :: _, _ :: _, h => ⟨h.1.mono e, RvAll.mono e h.2⟩
  | [], _ :: _, h => h.elim
  | _ :: _, [], h => h.elim
theorem RvAll.length {K : PySem.W.Frag} {g : Gh} {H0 : Hp} : ∀ {vs : List V} {ds : List VD}, RvAll K g H0 vs ds → vs.length = ds.length
  | [], [], _ => rfl
  | _ :: _, _ :: _, h => congrArg (· + 1) (RvAll.length h.2)
  | [], _ :: _, h => h.elim
  | _ :: _, [], h => h.elim
structure EnvD (K : PySem.W.Frag) (g : Gh) (H0 : Hp) (σ : L2.St) (Γ : List VD) : Prop where
  len : σ.length = Γ.length
  at' : ∀ (i : Nat) (d : VD), Γ[i]? = some d → d ≠ .no → ∃ v : V, σ[i]? = some (some v) ∧ Rv K g H0 v d
theorem EnvD.mono {K : PySem.W.Frag} {g : Gh} {H0 H1 : Hp} {σ : L2.St} {Γ : List VD} (e : Same H0 H1) (h : EnvD K g H0 σ Γ) : EnvD K g H1 σ Γ :=
  ⟨h.len, fun i d h1 h2 => let ⟨v, p, q⟩ := h.at' i d h1 h2; ⟨v, p, q.mono e⟩⟩
theorem EnvD.set {K : PySem.W.Frag} {g : Gh} {H0 : Hp} {σ : L2.St} {Γ : List VD} {v : V} {d : VD} (h : EnvD K g H0 σ Γ) (i : Nat) (r : Rv K g H0 v d) : EnvD K g H0 (σ.set i (some v)) (Γ.set i d) := by
  refine ⟨by rw [List.length_set, List.length_set, h.len], fun j e h1 h2 => ?_⟩
  by_cases hj : i = j
  · subst hj
    have hi : i < Γ.length := by
      have := (List.getElem?_eq_some_iff.mp h1).1
      rwa [List.length_set] at this
    rw [List.getElem?_set_self hi] at h1
    cases h1
    exact ⟨v, List.getElem?_set_self (by rw [h.len]; exact hi), r⟩
  · rw [List.getElem?_set_ne hj] at h1 ⊢
    exact h.at' j e h1 h2
def WE (X : Cx) (e : Expr) : TE := fun σ H Q => ∃ t, PE X e t ∧ t σ H Q
def WT (X : Cx) (e : Expr) : TT := fun σ H Q => ∃ t, PT X e t ∧ t σ H Q
def WA (X : Cx) (es : List Expr) : TA := fun σ H Q => ∃ t, PA X es t ∧ t σ H Q
def WS (X : Cx) (ss : List Stmt) : TS := fun D σ H => ∃ t, PSs X ss t ∧ t D σ H
theorem we {X : Cx} (e : Expr) : PE X e (WE X e) := ⟨fun p s σ H Q I ⟨_, ht, h⟩ => ht.run p s σ H Q I h⟩
theorem wt {X : Cx} (e : Expr) : PT X e (WT X e) := ⟨fun p s σ H Q I ⟨_, ht, h⟩ => ht.run p s σ H Q I h⟩
theorem wa {X : Cx} (es : List Expr) : PA X es (WA X es) := ⟨fun o p s σ H Q I ⟨_, ht, h⟩ => ht.run o p s σ H Q I h⟩
theorem ws {X : Cx} (ss : List Stmt) : PSs X ss (WS X ss) := ⟨fun p s σ H D I ⟨_, ht, h⟩ => ht.run p s σ H D I h⟩
def EJ (X : Cx) (Γ : List VD) (B : Bag) (e : Expr) (d : VD) (B' : Bag) : Prop :=
  ∀ g σ H0 H, EnvD X.K g H0 σ Γ → On X.K g B H0 H → ∀ Q : VK,
    (∀ v H0' H', To g H0 H H0' H' → On X.K g B' H0' H' → Rv X.K g H0' v d → Q v H') → WE X e σ H Q
def TJ (X : Cx) (Γ : List VD) (B : Bag) (e : Expr) (b : Bool) (B' : Bag) : Prop :=
  ∀ g σ H0 H, EnvD X.K g H0 σ Γ → On X.K g B H0 H → ∀ Q : Bool → Hp → Prop,
    (∀ H0' H', To g H0 H H0' H' → On X.K g B' H0' H' → Q b H') → WT X e σ H Q
def AJ (X : Cx) (Γ : List VD) (B : Bag) (es : List Expr) (ds : List VD) (B' : Bag) : Prop :=
  ∀ g σ H0 H, EnvD X.K g H0 σ Γ → On X.K g B H0 H → ∀ Q : List V → Hp → Prop,
    (∀ vs H0' H', To g H0 H H0' H' → On X.K g B' H0' H' → RvAll X.K g H0' vs ds → Q vs H') → WA X es σ H Q
structure En where
  nx : List VD → Bag → Prop
  rt : PyData → Bag → Prop
  bk : List VD → Bag → Prop := fun _ _ => False
  ct : List VD → Bag → Prop := fun _ _ => False
structure Gets (X : Cx) (E : En) (g : Gh) (H0 H : Hp) (D : Ends) : Prop where
  nx : ∀ Γ B σ H1 H', E.nx Γ B → To g H0 H H1 H' → EnvD X.K g H1 σ Γ → On X.K g B H1 H' → D.nx σ H'
  rt : ∀ r B v H1 H', E.rt r B → To g H0 H H1 H' → On X.K g B H1 H' → Rp X.K H1 v r → D.rt v H'
  bk : ∀ Γ B σ H1 H', E.bk Γ B → To g H0 H H1 H' → EnvD X.K g H1 σ Γ → On X.K g B H1 H' → D.bk σ H'
  ct : ∀ Γ B σ H1 H', E.ct Γ B → To g H0 H H1 H' → EnvD X.K g H1 σ Γ → On X.K g B H1 H' → D.ct σ H'
theorem Gets.on {X : Cx} {E : En} {g : Gh} {H0 H H1 H' : Hp} {D : Ends} (G : Gets X E g H0 H D) (t : To g H0 H H1 H') : Gets X E g H1 H' D :=
  ⟨fun Γ B σ a b e u => G.nx Γ B σ a b e (t.trans u), fun r B v a b e u => G.rt r B v a b e (t.trans u),
   fun Γ B σ a b e u => G.bk Γ B σ a b e (t.trans u), fun Γ B σ a b e u => G.ct Γ B σ a b e (t.trans u)⟩
def SJ (X : Cx) (Γ : List VD) (B : Bag) (ss : List Stmt) (E : En) : Prop :=
  ∀ g σ H0 H, EnvD X.K g H0 σ Γ → On X.K g B H0 H → ∀ D : Ends, Gets X E g H0 H D → WS X ss D σ H
section
variable {X : Cx} {Γ : List VD} {B B1 B2 B' : Bag} {e a b c : Expr} {es : List Expr} {d da db dc : VD} {pos p : Pos}
theorem laid {K : PySem.W.Frag} {g : Gh} {B : Bag} {H0 H : Hp} {p : Addr} {o : HO} (O : On K g B H0 H) (n : H p = none) :
    To g H0 H (upd H0 p o) (upd H p o) ∧ On K g B (upd H0 p o) (upd H p o) := by
  have n0 : H0 p = none := O.ex.free n
  refine ⟨⟨fun q u h => ?_, fun q u f h1 h2 => ?_⟩, ⟨fun q u h => ?_, fun q l h => ?_⟩⟩
  · rw [upd_ne (ne_of_none h n0)]; exact h
  · have hq := ne_of_none h2 n
    rw [upd_ne hq, upd_ne hq]; exact ⟨h1, h2⟩
  · by_cases hq : q = p
    · subst hq; rw [upd_same] at h ⊢; exact h
    · rw [upd_ne hq] at h ⊢; exact O.ex _ _ h
  · obtain ⟨h1, h2, h3⟩ := O.bag q l h
    have hq := ne_of_none h2 n
    have hl := ne_of_none h3 n0
    rw [upd_ne hq, upd_ne hq, upd_ne hl]; exact ⟨h1, h2, h3⟩
theorem ej_c {v : V} {d : PyData} (h : PE X e (tC v)) (r : ∀ H0, Rp X.K H0 v d) : EJ X Γ B e (.da d) B :=
  fun g σ H0 H _ O Q q => ⟨_, h, q v H0 H To.refl O (r H0)⟩
theorem ej_int {i : Int} {j} : EJ X Γ B (.Constant (.int i) j pos) (.da (.int i)) B := ej_c pe_int fun _ => .int i
theorem ej_bl {i : Bool} {j} : EJ X Γ B (.Constant (.bool i) j pos) (.da (.bool i)) B := ej_c pe_bl fun _ => .bl i
theorem ej_str {i : Str} {j} : EJ X Γ B (.Constant (.str i) j pos) (.da (.str i)) B := ej_c pe_str fun _ => .str i
theorem ej_var (i : Nat) {x : Str} (h : Γ[i]? = some d) (hd : d ≠ .no) (hN : X.N[i]? = some x := by rfl)
    (hv : Vis X.env.scope x := by first | exact Or.inl rfl | exact Or.inr (Or.inl rfl) | exact Or.inr (Or.inr rfl))
    (h1 : (x == ("__debug__" : Str)) = false := by decide) (h2 : (x == ("__classdict__" : Str)) = false := by decide) : EJ X Γ B (.Name x pos) d B :=
  fun g σ H0 H E O Q q => let ⟨v, hs, r⟩ := E.at' i d h hd; ⟨_, pe_var hN hv h1 h2, v, hs, q v H0 H To.refl O r⟩
theorem ej_dat (i : Nat) {x : Str} {d : PyData} (h : Γ[i]? = some (.da d) := by rfl) (hN : X.N[i]? = some x := by rfl)
    (hv : Vis X.env.scope x := by first | exact Or.inl rfl | exact Or.inr (Or.inl rfl) | exact Or.inr (Or.inr rfl))
    (h1 : (x == ("__debug__" : Str)) = false := by decide) (h2 : (x == ("__classdict__" : Str)) = false := by decide) : EJ X Γ B (.Name x pos) (.da d) B :=
  ej_var i h (fun z => nomatch z) hN hv h1 h2
theorem ej_bag (i : Nat) {x : Str} (h : Γ[i]? = some .bag := by rfl) (hN : X.N[i]? = some x := by rfl)
    (hv : Vis X.env.scope x := by first | exact Or.inl rfl | exact Or.inr (Or.inl rfl) | exact Or.inr (Or.inr rfl))
    (h1 : (x == ("__debug__" : Str)) = false := by decide) (h2 : (x == ("__classdict__" : Str)) = false := by decide) : EJ X Γ B (.Name x pos) .bag B :=
  ej_var i h (fun z => nomatch z) hN hv h1 h2
theorem ej_un {r : V → Hp → VK → Prop} (ha : EJ X Γ B a da B1) (hp : ∀ t, PE X a t → PE X e (tUn r t))
    (hr : ∀ g v H0 H, On X.K g B1 H0 H → Rv X.K g H0 v da → ∀ Q : VK, (∀ z H0' H', To g H0 H H0' H' → On X.K g B1 H0' H' → Rv X.K g H0' z d → Q z H') → r v H Q) :
    EJ X Γ B e d B1 := fun g σ H0 H E O Q q =>
  ⟨_, hp _ (we a), ha g σ H0 H E O _ fun v H1 H' t o rv => hr g v H1 H' o rv Q fun z H2 H'' t2 o2 r2 => q z H2 H'' (t.trans t2) o2 r2⟩
theorem ej_bin {r : R2} (ha : EJ X Γ B a da B1) (hb : EJ X Γ B1 b db B2) (hp : ∀ t u, PE X a t → PE X b u → PE X e (tOp r t u))
    (hr : ∀ g v w H0 H, On X.K g B2 H0 H → Rv X.K g H0 v da → Rv X.K g H0 w db → ∀ Q : VK, (∀ z H0' H', To g H0 H H0' H' → On X.K g B2 H0' H' → Rv X.K g H0' z d → Q z H') → r v w H Q) :
    EJ X Γ B e d B2 := fun g σ H0 H E O Q q =>
  ⟨_, hp _ _ (we a) (we b), ha g σ H0 H E O _ fun v H1 H' t o rv => hb g σ H1 H' (E.mono t.ex) o _ fun w H2 H'' t2 o2 rw' =>
    hr g v w H2 H'' o2 (rv.mono t2.ex) rw' Q fun z H3 H3' t3 o3 r3 => q z H3 H3' ((t.trans t2).trans t3) o3 r3⟩
theorem rvI {K : PySem.W.Frag} {g : Gh} {H0 : Hp} {v : V} {i : Int} (h : Rv K g H0 v (.da (.int i))) : v = .int i := by
  have h : Rp K H0 v (.int i) := h
  cases h; rfl
theorem rvB {K : PySem.W.Frag} {g : Gh} {H0 : Hp} {v : V} {i : Bool} (h : Rv K g H0 v (.da (.bool i))) : v = .bl i := by
  have h : Rp K H0 v (.bool i) := h
  cases h; rfl
theorem rvS {K : PySem.W.Frag} {g : Gh} {H0 : Hp} {v : V} {i : Str} (h : Rv K g H0 v (.da (.str i))) : v = .str i := by
  have h : Rp K H0 v (.str i) := h
  cases h; rfl
theorem rvL {K : PySem.W.Frag} {g : Gh} {H0 : Hp} {v : V} {ds : List PyData} (h : Rv K g H0 v (.da (.list ds))) : ∃ a xs, v = .ref a ∧ H0 a = some (.lst xs) ∧ RpAll K H0 xs ds := by
  have h : Rp K H0 v (.list ds) := h
  cases h with
  | lst h1 r => exact ⟨_, _, rfl, h1, r⟩
theorem rvT {K : PySem.W.Frag} {g : Gh} {H0 : Hp} {v : V} {ds : List PyData} (h : Rv K g H0 v (.da (.tuple ds))) : ∃ a xs, v = .ref a ∧ SqT K H0 a xs ∧ RpAll K H0 xs ds := by
  have h : Rp K H0 v (.tuple ds) := h
  cases h with
  | tup h1 r => exact ⟨_, _, rfl, h1, r⟩
theorem ej_ii {i j : Int} {z : Int → Int → V} {y : PyData} {op : Operator} (ha : EJ X Γ B a (.da (.int i)) B1) (hb : EJ X Γ B1 b (.da (.int j)) B2)
    (ho : OpR X (binaryOp op) (rI0 z)) (hz : ∀ H0, Rp X.K H0 (z i j) y) : EJ X Γ B (.BinOp a op b pos) (.da y) B2 :=
  ej_bin ha hb (fun _ _ h1 h2 => pe_op ho h1 h2) fun g v w H0 H O r1 r2 Q q => ⟨i, j, rvI r1, rvI r2, q _ H0 H To.refl O (hz H0)⟩
theorem ej_iic {i j : Int} {C : Int → Int → Prop} {z : Int → Int → V} {y : PyData} {op : Operator} (ha : EJ X Γ B a (.da (.int i)) B1) (hb : EJ X Γ B1 b (.da (.int j)) B2)
    (ho : OpR X (binaryOp op) (rI C z)) (hc : C i j) (hz : ∀ H0, Rp X.K H0 (z i j) y) : EJ X Γ B (.BinOp a op b pos) (.da y) B2 :=
  ej_bin ha hb (fun _ _ h1 h2 => pe_op ho h1 h2) fun g v w H0 H O r1 r2 Q q => ⟨i, j, rvI r1, rvI r2, hc, q _ H0 H To.refl O (hz H0)⟩
theorem ej_add {i j : Int} (ha : EJ X Γ B a (.da (.int i)) B1) (hb : EJ X Γ B1 b (.da (.int j)) B2) : EJ X Γ B (.BinOp a .Add b pos) (.da (.int (i + j))) B2 :=
  ej_ii ha hb op_add fun _ => .int _
theorem ej_sub {i j : Int} (ha : EJ X Γ B a (.da (.int i)) B1) (hb : EJ X Γ B1 b (.da (.int j)) B2) : EJ X Γ B (.BinOp a .Sub b pos) (.da (.int (i - j))) B2 :=
  ej_ii ha hb op_sub fun _ => .int _
theorem ej_mul {i j : Int} (ha : EJ X Γ B a (.da (.int i)) B1) (hb : EJ X Γ B1 b (.da (.int j)) B2) (hc : CMulW i j) : EJ X Γ B (.BinOp a .Mult b pos) (.da (.int (i * j))) B2 :=
  ej_iic ha hb op_mulW hc fun _ => .int _
theorem ej_fdiv {i j : Int} (ha : EJ X Γ B a (.da (.int i)) B1) (hb : EJ X Γ B1 b (.da (.int j)) B2) (hc : CDivW i j) : EJ X Γ B (.BinOp a .FloorDiv b pos) (.da (.int (i / j))) B2 :=
  ej_iic ha hb op_fdivW hc fun _ => .int _
theorem ej_mod {i j : Int} (ha : EJ X Γ B a (.da (.int i)) B1) (hb : EJ X Γ B1 b (.da (.int j)) B2) (hc : 0 < j) : EJ X Γ B (.BinOp a .Mod b pos) (.da (.int (i % j))) B2 :=
  ej_iic ha hb op_mod hc fun _ => .int _
theorem ej_pow {i j : Int} (ha : EJ X Γ B a (.da (.int i)) B1) (hb : EJ X Γ B1 b (.da (.int j)) B2) (hc : CPow i j) : EJ X Γ B (.BinOp a .Pow b pos) (.da (.int (i ^ j.toNat))) B2 :=
  ej_iic ha hb op_pow hc fun _ => .int _
theorem ej_neg {i : Int} (ha : EJ X Γ B a (.da (.int i)) B1) : EJ X Γ B (.UnaryOp .USub a pos) (.da (.int (-i))) B1 :=
  ej_un ha (fun _ h => pe_un un_neg h) fun g v H0 H O r Q q => ⟨i, rvI r, q _ H0 H To.refl O (Rp.int _)⟩
theorem ej_cmpI {i j : Int} {z : Int → Int → V} {y : PyData} {op : CmpOp} (ha : EJ X Γ B a (.da (.int i)) B1) (hb : EJ X Γ B1 b (.da (.int j)) B2)
    (ho : OpR X (compareOp op) (rI0 z)) (hz : ∀ H0, Rp X.K H0 (z i j) y) (hm : behindInMarks op b = false) : EJ X Γ B (.Compare a [op] [b] pos) (.da y) B2 :=
  ej_bin ha hb (fun _ _ h1 h2 => pe_cmpR ho h1 h2 hm) fun g v w H0 H O r1 r2 Q q => ⟨i, j, rvI r1, rvI r2, q _ H0 H To.refl O (hz H0)⟩
theorem ej_lt {i j : Int} (ha : EJ X Γ B a (.da (.int i)) B1) (hb : EJ X Γ B1 b (.da (.int j)) B2) : EJ X Γ B (.Compare a [.Lt] [b] pos) (.da (.bool (decide (i < j)))) B2 :=
  ej_cmpI ha hb op_lt (fun _ => .bl _) (nomark _)
theorem ej_ge {i j : Int} (ha : EJ X Γ B a (.da (.int i)) B1) (hb : EJ X Γ B1 b (.da (.int j)) B2) : EJ X Γ B (.Compare a [.GtE] [b] pos) (.da (.bool (decide (j ≤ i)))) B2 :=
  ej_cmpI ha hb op_ge (fun _ => .bl _) (nomark _)
theorem ej_eq {x y : PyData} (hu : X.A.units + 64 < cLine) (ha : EJ X Γ B a (.da x) B1) (hb : EJ X Γ B1 b (.da y) B2) (hx : SeqAt.shaped x = true) (hy : SeqAt.shaped y = true) :
    EJ X Γ B (.Compare a [.Eq] [b] pos) (.da (.bool (PyData.eqv x y))) B2 :=
  ej_bin ha hb (fun _ _ h1 h2 => pe_cmpR (op_eqD hu) h1 h2 (nomark _)) fun g v w H0 H O r1 r2 Q q =>
    ⟨x, y, (Rp.mono O.ex r1).dp, (Rp.mono O.ex r2).dp, hx, hy, q _ H0 H To.refl O (Rp.bl _)⟩
theorem ej_eqI {i j : Int} (hu : X.A.units + 64 < cLine) (ha : EJ X Γ B a (.da (.int i)) B1) (hb : EJ X Γ B1 b (.da (.int j)) B2) : EJ X Γ B (.Compare a [.Eq] [b] pos) (.da (.bool (decide (i = j)))) B2 := by
  have h := ej_eq (pos := pos) hu ha hb rfl rfl
  have e : PyData.eqv (.int i) (.int j) = decide (i = j) := by simp only [PyData.eqv]; exact Bool.beq_eq_decide_eq i j
  rw [e] at h; exact h
theorem ej_eqS {i j : Str} (ha : EJ X Γ B a (.da (.str i)) B1) (hb : EJ X Γ B1 b (.da (.str j)) B2) : EJ X Γ B (.Compare a [.Eq] [b] pos) (.da (.bool (decide (i = j)))) B2 :=
  ej_bin ha hb (fun _ _ h1 h2 => pe_cmpR op_eq h1 h2 (nomark _)) fun g v w H0 H O r1 r2 Q q => by
    rw [rvS r1, rvS r2]
    have e : decide (V.str i = V.str j) = decide (i = j) := by
      by_cases h : i = j
      · subst h; simp
      · rw [decide_eq_false h, decide_eq_false fun z => h (V.str.inj z)]
    refine ⟨rfl, ?_⟩
    rw [e]; exact q _ H0 H To.refl O (Rp.bl _)
theorem ej_ixT {ds : List PyData} {i : Int} {y : PyData} (ha : EJ X Γ B a (.da (.tuple ds)) B1) (hb : EJ X Γ B1 b (.da (.int i)) B2) (h : atI ds i = some y) (hs : PlainIx b) :
    EJ X Γ B (.Subscript a b pos) (.da y) B2 :=
  ej_bin ha hb (fun _ _ h1 h2 => pe_ix ix_tup h1 h2 hs) fun g v w H0 H O r1 r2 Q q => by
    obtain ⟨p, xs, rfl, hx, rs⟩ := rvT r1
    obtain ⟨j, h1, h2⟩ := Option.bind_eq_some_iff.mp h
    rw [← rs.length] at h1
    obtain ⟨z, h3, h4⟩ := rs.getD h2
    exact ⟨p, xs, i, z, rfl, rvI r2, seqT O.ex hx, Option.bind_eq_some_iff.mpr ⟨j, h1, h3⟩, q z H0 H To.refl O h4⟩
theorem ej_ixL {ds : List PyData} {i : Int} {y : PyData} (ha : EJ X Γ B a (.da (.list ds)) B1) (hb : EJ X Γ B1 b (.da (.int i)) B2) (h : atI ds i = some y) (hs : PlainIx b) :
    EJ X Γ B (.Subscript a b pos) (.da y) B2 :=
  ej_bin ha hb (fun _ _ h1 h2 => pe_ix ix_list h1 h2 hs) fun g v w H0 H O r1 r2 Q q => by
    obtain ⟨p, xs, rfl, hx, rs⟩ := rvL r1
    obtain ⟨j, h1, h2⟩ := Option.bind_eq_some_iff.mp h
    rw [← rs.length] at h1
    obtain ⟨z, h3, h4⟩ := rs.getD h2
    exact ⟨p, xs, i, z, rfl, rvI r2, SqL.of (O.ex _ _ hx), Option.bind_eq_some_iff.mpr ⟨j, h1, h3⟩, q z H0 H To.refl O h4⟩
theorem aj_nil : AJ X Γ B [] [] B := fun g σ H0 H _ O Q q => ⟨_, pa_nil, q [] H0 H To.refl O trivial⟩
theorem aj_cons {ds : List VD} (h : EJ X Γ B e d B1) (r : AJ X Γ B1 es ds B2) (hs : starEach (e :: es) X.env = (false, eval e X.env) :: starEach es X.env := by rfl) :
    AJ X Γ B (e :: es) (d :: ds) B2 := fun g σ H0 H E O Q q =>
  ⟨_, pa_cons (we e) (wa es) hs, h g σ H0 H E O _ fun v H1 H' t o rv => r g σ H1 H' (E.mono t.ex) o _ fun vs H2 H'' t2 o2 rs => q (v :: vs) H2 H'' (t.trans t2) o2 ⟨rv.mono t2.ex, rs⟩⟩
theorem RvAll.dat {K : PySem.W.Frag} {g : Gh} {H0 : Hp} : ∀ {vs : List V} {ds : List PyData}, RvAll K g H0 vs (ds.map .da) → RpAll K H0 vs ds
  | [], [], _ => .nil
  | _ :: _, _ :: _, h => .cons h.1 (RvAll.dat h.2)
  | [], _ :: _, h => h.elim
  | _ :: _, [], h => h.elim
theorem ej_tup {ds : List PyData} {k} (h : AJ X Γ B es (ds.map .da) B1) (hl : ds.length ≤ 1000) : EJ X Γ B (.Tuple es k pos) (.da (.tuple ds)) B1 := fun g σ H0 H E O Q q =>
  ⟨_, pe_tup (wa es), h g σ H0 H E O _ fun vs H1 H' t o rs => by
    have rs := RvAll.dat rs
    refine ⟨by rw [rs.length]; exact Nat.le_of_lt (small1000 hl), fun p n => ?_⟩
    obtain ⟨t2, o2⟩ := laid (o := .tup vs) o n
    exact q _ _ _ (t.trans t2) o2 (Rp.tup (SqT.of upd_same) (rs.mono t2.ex))⟩
theorem ej_lst {ds : List PyData} (h : AJ X Γ B es (ds.map .da) B1) (hl : ds.length ≤ 1000) : EJ X Γ B (.List es pos) (.da (.list ds)) B1 := fun g σ H0 H E O Q q =>
  ⟨_, pe_lst (wa es), h g σ H0 H E O _ fun vs H1 H' t o rs => by
    have rs := RvAll.dat rs
    refine ⟨by rw [rs.length]; exact Nat.le_of_lt (small1000 hl), fun p n => ?_⟩
    obtain ⟨t2, o2⟩ := laid (o := .lst vs) o n
    exact q _ _ _ (t.trans t2) o2 (Rp.lst upd_same (rs.mono t2.ex))⟩
theorem ej_catL {ds es' : List PyData} (ha : EJ X Γ B a (.da (.list ds)) B1) (hb : EJ X Γ B1 b (.da (.list es')) B2) (hl : ds.length + es'.length ≤ 1000) :
    EJ X Γ B (.BinOp a .Add b pos) (.da (.list (ds ++ es'))) B2 :=
  ej_bin ha hb (fun _ _ h1 h2 => pe_op op_cat h1 h2) fun g v w H0 H O r1 r2 Q q => by
    obtain ⟨p, xs, rfl, hx, rs⟩ := rvL r1
    obtain ⟨p2, ys, rfl, hy, rs2⟩ := rvL r2
    refine ⟨p, p2, xs, ys, rfl, rfl, O.ex _ _ hx, O.ex _ _ hy, by rw [rs.length, rs2.length]; exact Nat.le_of_lt (small1000 hl), fun n hn => ?_⟩
    obtain ⟨t2, o2⟩ := laid (o := .lst (xs ++ ys)) O hn
    exact q _ _ _ t2 o2 (Rp.lst upd_same ((rs.app rs2).mono t2.ex))
theorem ej_catT {ds es' : List PyData} (ha : EJ X Γ B a (.da (.tuple ds)) B1) (hb : EJ X Γ B1 b (.da (.tuple es')) B2) (hl : ds.length + es'.length ≤ 1000) :
    EJ X Γ B (.BinOp a .Add b pos) (.da (.tuple (ds ++ es'))) B2 :=
  ej_bin ha hb (fun _ _ h1 h2 => pe_op op_catA h1 h2) fun g v w H0 H O r1 r2 Q q => by
    obtain ⟨p, xs, rfl, hx, rs⟩ := rvT r1
    obtain ⟨p2, ys, rfl, hy, rs2⟩ := rvT r2
    refine ⟨p, p2, xs, ys, rfl, rfl, seqT O.ex hx, seqT O.ex hy, by rw [rs.length, rs2.length]; exact Nat.le_of_lt (small1000 hl), fun e => ?_, fun _ e => ?_, fun _ _ n hn => ?_⟩
    · subst e
      cases rs
      exact q _ _ _ To.refl O (Rp.tup hy rs2)
    · subst e
      cases rs2
      rw [List.append_nil] at q
      exact q _ _ _ To.refl O (Rp.tup hx rs)
    · obtain ⟨t2, o2⟩ := laid (o := .tup (xs ++ ys)) O hn
      exact q _ _ _ t2 o2 (Rp.tup (SqT.of upd_same) ((rs.app rs2).mono t2.ex))
end
end Gd
namespace Gd
open PySem PySem.Spec PyProof.Rows L2
structure FnG (P : Program) (w : World) (K : PySem.W.Frag) (mg : Str → Option Value)
    (base : Heap) (k : Nat) (f : Addr) (fd : FuncData) (ps : List Str) (sp : Sp) : Prop where
  len : ∀ vs H Q E, sp vs H Q E → List.length vs = ps.length
  run : ∀ (A : Around) (out : List Env) (s : Shared) (H : Hp) (args : Args) (us : List Value) (vs : List V) (Q : VK) (E : XK),
    A.guards = some [] → Room k A → Env0 P w K mg base A out s H → BindsTo s fd args (ps.zip us) →
    Vals vs us → sp vs H Q E → codeAny (model P w) A (.call (.ref f) args) (CR CX0 out P w H s Q E) s
theorem FnG.le {P : Program} {w : World} {K : PySem.W.Frag} {mg : Str → Option Value} {base : Heap} {j k : Nat} {f : Addr} {fd : FuncData} {ps : List Str} {sp : Sp}
    (F : FnG P w K mg base j f fd ps sp) (h : j ≤ k) : FnG P w K mg base k f fd ps sp :=
  ⟨F.len, fun A o s H ar us vs Q E hg hr => F.run A o s H ar us vs Q E hg (hr.mono h)⟩
structure Gx (k : Nat) (X : Cx) : Prop where
  gd : X.A.guards = some []
  rm : Room k X.A
  nd : X.N.Nodup
  calm : X.calm = true
theorem Gx.hu {k : Nat} {X : Cx} (g : Gx k X) : X.A.units + 64 < cLine := g.rm.units
theorem Gx.le {j k : Nat} {X : Cx} (g : Gx k X) (h : j ≤ k) : Gx j X := ⟨g.gd, g.rm.mono h, g.nd, g.calm⟩
theorem runG {X : Cx} {k : Nat} {f : Addr} {fd : FuncData} {ps : List Str} {sp : Sp} {E : XK} {pins : List (Addr × Obj)} {σ : L2.St} {H : Hp} {s : Shared}
    {Q : VK} {us : List Value} {vs : List V} (F : FnG X.prog X.w X.K X.mg X.base k f fd ps sp) (g : Gx k X) (hb : Binds X.K fd ps [])
    (I : Inv X pins σ H s) (r : Vals vs us) (h : sp vs H Q E) : wpAny (model X.prog X.w) X.A (call (.ref f) us) (EP X pins σ Q) X.xe s := by
  have e : us.length = ps.length := r.length.symm.trans (F.len _ _ _ _ h)
  have hz := hb s us I.kIn (by rw [List.append_nil]; exact e)
  rw [List.append_nil] at hz
  have cc := F.run X.A X.stack s H ⟨us, []⟩ us vs Q E g.gd g.rm I.env0 hz r h
  refine wpAny_call (codeAny_mono cc fun res s2 q => ?_)
  match res, q with
  | .ok (.ret _), q => exact I.after q
  | .ok .next, q => exact q.elim
  | .ok .brk, q => exact q.elim
  | .ok .cont, q => exact q.elim
  | .error _, q => exact q.elim
theorem fnG_of {P : Program} {w : World} {K : PySem.W.Frag} {mg : Str → Option Value} {base : Heap} {x qual : Str} {st : Stmt} {f : Addr} {fd : FuncData}
    {N ps : List Str} {k : Nat} {sp : Sp} (F : Fun K x qual st f fd) (S : FnScope N ps (defScope st)) (len : ∀ vs H Q E, sp vs H Q E → vs.length = ps.length)
    (body : ∀ (cdv : Value) (A : Around) (out : List Env) (s : Shared) (H : Hp) (vs : List V) (Q : VK) (E : XK),
      Gx k (cxOf CX0 P w K mg base N qual (defScope st) f cdv A out s H E).nox → sp vs H Q E →
      WS (cxOf CX0 P w K mg base N qual (defScope st) f cdv A out s H E).nox (defBody st) { nx := fun _ H' => Q .non H', rt := Q } (L2.start N vs) H) :
    FnG P w K mg base (k + 1) f fd ps sp := by
  obtain ⟨c1, c2, c3, c4, c5, c6, cdv, c8, c9, rfl, lk, hcd⟩ := F.ex
  refine ⟨len, ?_⟩
  intro A out s H args us vs Q E hg hr e0 hb r hsp
  have up : ∀ b o, base.get? b = some o → s.heap.get? b = some o := fun b o e => (e0.bs b o e).1
  have KX : K.In s.heap := e0.mod.kin.keeps up
  have lim : s.heap.NoLimit := e0.mod.nolimit.keeps up
  have kinds : ∀ y ∈ ps.zip us, (defScope st).names.lookup y.1 = some .local ∨
      ((defScope st).names.lookup y.1 = some .cell ∧ ((cellsFrom (s.heap.objs.size + 1) (defScope st).names []).lookup y.1).isSome = true) := by
    rintro ⟨n, v⟩ hy
    cases S.par n (List.of_mem_zip hy).1 with
    | inl q => exact .inl q
    | inr q => exact .inr ⟨q, PySem.W.cellsFrom_some _ _ _ (.inl q)⟩
  have recd := PySem.W.codeRec_of KX hcd
  refine codeAny_call_function hr.depth (KX _ _ lk) rfl S.co S.gen rfl recd (hb _ _ _ _ ?_)
  refine wpAny_newFunctionEnv_cells S.kind kinds fun env he s1 x1 => ?_
  subst he
  refine ⟨lim.keeps x1.toInCall.keep, codeAny_func ?_⟩
  have I := inv_start (CX := CX0) (E := E) (qual := qual) (f := f) (cd := cdv) S hr.hd e0 (len _ _ _ _ hsp) r x1
  have G : Gx k (cxOf CX0 P w K mg base N qual (defScope st) f cdv A out s H E).nox := ⟨hg, hr.deeper _, S.nd, rfl⟩
  obtain ⟨t, ht, hq⟩ := body cdv A out s H vs Q E G hsp
  refine wpAny_mono (ht.nox.run [] s1 (L2.start N vs) H _ I hq) (fun fl s2 q => ?_) (fun _ _ q => q)
  match fl, q with
  | .ret u, ⟨v, σ', H', J, rv, q⟩ => exact ⟨v, H', J.os, J.bare, J.base, J.hok, rv, q⟩
  | .next, ⟨σ', H', J, q⟩ => exact ⟨.non, H', J.os, J.bare, J.base, J.hok, rfl, q⟩
  | .brk, ⟨_, _, _, q⟩ => exact q.elim
  | .cont, ⟨_, _, _, q⟩ => exact q.elim
abbrev Rel := List VD → Bag → PyData → Bag → Prop
def DefSp (K : PySem.W.Frag) (R : Rel) : Sp := fun vs H Q _ =>
  ∃ g Γ B H0 r B', RvAll K g H0 vs Γ ∧ On K g B H0 H ∧ R Γ B r B' ∧
    ∀ v H0' H', To g H0 H H0' H' → On K g B' H0' H' → Rp K H0' v r → Q v H'
def Cal (P : Program) (w : World) (K : PySem.W.Frag) (mg : Str → Option Value) (base : Heap) (x : Str) (k : Nat) (R : Rel) : Prop :=
  ∃ f fd ps, FnG P w K mg base k f fd ps (DefSp K R) ∧ mg x = some (.ref f) ∧ PySem.W.keepIn K (.ref f) = true ∧ Binds K fd ps []
theorem Cal.imp {P : Program} {w : World} {K : PySem.W.Frag} {mg : Str → Option Value} {base : Heap} {x : Str} {k : Nat} {R R' : Rel}
    (c : Cal P w K mg base x k R) (h : ∀ Γ B r B', R' Γ B r B' → R Γ B r B') : Cal P w K mg base x k R' := by
  obtain ⟨f, fd, ps, F, h1, h2, h3⟩ := c
  refine ⟨f, fd, ps, ⟨?_, ?_⟩, h1, h2, h3⟩
  · rintro vs H Q E ⟨g, Γ, B, H0, r, B', a, b, c, d⟩
    exact F.len vs H Q E ⟨g, Γ, B, H0, r, B', a, b, h _ _ _ _ c, d⟩
  · intro A o s H ar us vs Q E q1 q2 q3 q4 q5 ⟨g, Γ, B, H0, r, B', a, b, c, d⟩
    exact F.run A o s H ar us vs Q E q1 q2 q3 q4 q5 ⟨g, Γ, B, H0, r, B', a, b, h _ _ _ _ c, d⟩
theorem start_env {K : PySem.W.Frag} {g : Gh} {H0 : Hp} {N : List Str} {vs : List V} {Γ : List VD} (h : RvAll K g H0 vs Γ) (hl : Γ.length ≤ N.length) :
    EnvD K g H0 (L2.start N vs) (Γ ++ List.replicate (N.length - Γ.length) .no) := by
  have e := h.length
  refine ⟨?_, ?_⟩
  · unfold L2.start; rw [List.length_append, List.length_append, List.length_map, List.length_replicate, List.length_replicate]; omega
  · have : ∀ (vs : List V) (Γ : List VD) (m n : Nat), RvAll K g H0 vs Γ → ∀ (i : Nat) (d : VD), (Γ ++ List.replicate m .no)[i]? = some d → d ≠ .no →
        ∃ v : V, (vs.map some ++ List.replicate n (none : Option V))[i]? = some (some v) ∧ Rv K g H0 v d := by
      intro vs
      induction vs with
      | nil =>
        intro Γ m n h i d h1 h2
        cases Γ with
        | nil =>
          rw [List.nil_append, List.getElem?_replicate] at h1
          split at h1
          · cases h1; exact absurd rfl h2
          · cases h1
        | cons _ _ => exact h.elim
      | cons v vs ih =>
        intro Γ m n h i d h1 h2
        cases Γ with
        | nil => exact h.elim
        | cons d' Γ =>
          cases i with
          | zero => cases h1; exact ⟨v, rfl, h.1⟩
          | succ i => exact ih Γ m n h.2 i d h1 h2
    unfold L2.start
    exact this vs Γ _ _ h
theorem cal_of {P : Program} {w : World} {K : PySem.W.Frag} {mg : Str → Option Value} {base : Heap} {x qual : Str} {st : Stmt} {f : Addr} {fd : FuncData}
    {N ps : List Str} {k : Nat} {R : Rel} (F : Fun K x qual st f fd) (hm : mg x = some (.ref f)) (hb : Binds K fd ps []) (S : FnScope N ps (defScope st))
    (len : ∀ Γ B r B', R Γ B r B' → Γ.length = ps.length)
    (body : ∀ (cdv : Value) (A : Around) (out : List Env) (s : Shared) (H : Hp) (E : XK),
      Gx k (cxOf CX0 P w K mg base N qual (defScope st) f cdv A out s H E).nox → ∀ Γ B r B', R Γ B r B' →
      SJ (cxOf CX0 P w K mg base N qual (defScope st) f cdv A out s H E).nox (Γ ++ List.replicate (N.length - ps.length) .no) B (defBody st)
        { nx := fun _ B2 => r = .none ∧ B2 = B', rt := fun d B2 => d = r ∧ B2 = B' }) :
    Cal P w K mg base x (k + 1) R := by
  have hpl : ps.length ≤ N.length := by
    have := congrArg List.length S.pre
    rw [List.length_take] at this; omega
  refine ⟨f, fd, ps, fnG_of F S ?_ ?_, hm, F.kp, hb⟩
  · rintro vs H Q E ⟨g, Γ, B, H0, r, B', a, b, c, d⟩
    rw [a.length]; exact len _ _ _ _ c
  · intro cdv A out s H vs Q E G ⟨g, Γ, B, H0, r, B', a, b, c, d⟩
    have hl := len _ _ _ _ c
    have E0' := start_env (N := N) a (by rw [hl]; exact hpl)
    rw [hl] at E0'
    refine body cdv A out s H E G Γ B r B' c g _ H0 H E0' b _ ⟨?_, ?_, ?_, ?_⟩
    · rintro Γ2 B2 σ H1 H' ⟨rfl, rfl⟩ t _ o
      exact d _ _ _ t o .non
    · rintro r2 B2 v H1 H' ⟨rfl, rfl⟩ t o rv
      exact d _ _ _ t o rv
    · intro _ _ _ _ _ z; exact z.elim
    · intro _ _ _ _ _ z; exact z.elim
section
variable {X : Cx} {Γ : List VD} {B B1 B2 B' : Bag} {e a b c : Expr} {es : List Expr} {d da db dc : VD} {pos p pos' : Pos} {rest ss s1 s2 : List Stmt} {E : En}
theorem ej_call {x : Str} {k : Nat} {R : Rel} {ds : List VD} {r : PyData} (c : Cal X.prog X.w X.K X.mg X.base x k R) (g : Gx k X) (ha : AJ X Γ B (e :: es) ds B1) (hR : R ds B1 r B2)
    (hg : Gl X x := by rfl) (hdb : (x == ("__debug__" : Str)) = false := by decide) (he : starEach (e :: es) X.env = (false, eval e X.env) :: starEach es X.env := by rfl)
    (hpl : (backTo pos (starEach es X.env)).any (·.1) = false := by rfl) : EJ X Γ B (.Call (.Name x p) (e :: es) [] pos) (.da r) B2 := by
  obtain ⟨f, fd, ps, F, hm, hk, hb⟩ := c
  intro gh σ H0 H E O Q q
  refine ⟨fun σ H Q => WA X (e :: es) σ H fun vs H1 => DefSp X.K R vs H1 Q E0, ⟨fun pins s σ H Q I h => ?_⟩, ?_⟩
  · refine wpAny_Call_Name_kw (ld_glob I hg hm ?_ hdb)
    refine PySem.W.callWith_K (h₀ := X.base) I.ok.mod.kin hk (thn ((wa (e :: es)).run pos pins s σ H _ I h) ?_) he hpl
    rintro us s1 ⟨vs, H1, I1, r1, q1⟩
    exact ⟨I1.kIn, runG F g hb I1 r1 q1⟩
  · refine ha gh σ H0 H E O _ fun vs H1 H' t o rs => ?_
    exact ⟨gh, ds, B1, H1, r, B2, rs, o, hR, fun v H2 H'' t2 o2 rv => q v H2 H'' (t.trans t2) o2 rv⟩
theorem ej_call0 {x : Str} {k : Nat} {R : Rel} {r : PyData} (c : Cal X.prog X.w X.K X.mg X.base x k R) (g : Gx k X) (hR : R [] B r B2)
    (hg : Gl X x := by rfl) (hdb : (x == ("__debug__" : Str)) = false := by decide) : EJ X Γ B (.Call (.Name x p) [] [] pos) (.da r) B2 := by
  obtain ⟨f, fd, ps, F, hm, hk, hb⟩ := c
  intro gh σ H0 H E O Q q
  refine ⟨fun σ H Q => DefSp X.K R [] H Q E0, ⟨fun pins s σ H Q I h => ?_⟩, ?_⟩
  · refine wpAny_Call_Name_kw (ld_glob I hg hm ?_ hdb)
    exact PySem.W.callWith_K0 I.kIn hk (runG (us := []) F g hb I .nil h)
  · exact ⟨gh, [], B, H0, r, B2, trivial, O, hR, fun v H2 H'' t2 o2 rv => q v H2 H'' t2 o2 rv⟩
theorem ej_callB {x : Str} {id : String} {r : List V → Hp → VK → Prop} {ds : List VD} (hc : CallR X (.builtin id) r) (hm : X.mg x = none) (ha : AJ X Γ B (e :: es) ds B1)
    (hr : ∀ g vs H0 H, On X.K g B1 H0 H → RvAll X.K g H0 vs ds → ∀ Q : VK, (∀ z H0' H', To g H0 H H0' H' → On X.K g B1 H0' H' → Rv X.K g H0' z d → Q z H') → r vs H Q)
    (hv : bootBuiltins x = some (.builtin id) := by decide +kernel) (hg : Gl X x := by rfl) (hn : x ≠ "__name__" := by decide) (hdb : (x == ("__debug__" : Str)) = false := by decide)
    (hpl : (backTo pos (starEach es X.env)).any (·.1) = false := by rfl) (he : starEach (e :: es) X.env = (false, eval e X.env) :: starEach es X.env := by rfl) :
    EJ X Γ B (.Call (.Name x p) (e :: es) [] pos) d B1 := fun g σ H0 H E O Q q =>
  ⟨_, pe_callB hc hg hm hv (wa (e :: es)) hn hdb he hpl, ha g σ H0 H E O _ fun vs H1 H' t o rs => hr g vs H1 H' o rs Q fun z H2 H'' t2 o2 rz => q z H2 H'' (t.trans t2) o2 rz⟩
theorem ej_callTy {x : Str} {T : String} {r : List V → Hp → VK → Prop} {ds : List VD} (hc : CallR X (.type T) r) (hm : X.mg x = none) (ha : AJ X Γ B (e :: es) ds B1)
    (hr : ∀ g vs H0 H, On X.K g B1 H0 H → RvAll X.K g H0 vs ds → ∀ Q : VK, (∀ z H0' H', To g H0 H H0' H' → On X.K g B1 H0' H' → Rv X.K g H0' z d → Q z H') → r vs H Q)
    (hv : bootBuiltins x = some (.type T) := by decide +kernel) (hg : Gl X x := by rfl) (hn : x ≠ "__name__" := by decide) (hdb : (x == ("__debug__" : Str)) = false := by decide)
    (hpl : (backTo pos (starEach es X.env)).any (·.1) = false := by rfl) (he : starEach (e :: es) X.env = (false, eval e X.env) :: starEach es X.env := by rfl) :
    EJ X Γ B (.Call (.Name x p) (e :: es) [] pos) d B1 := fun g σ H0 H E O Q q =>
  ⟨_, pe_callTy hc hg hm hv (wa (e :: es)) hn hdb he hpl, ha g σ H0 H E O _ fun vs H1 H' t o rs => hr g vs H1 H' o rs Q fun z H2 H'' t2 o2 rz => q z H2 H'' (t.trans t2) o2 rz⟩
theorem rv1 {K : PySem.W.Frag} {g : Gh} {H0 : Hp} {vs : List V} {d : VD} (h : RvAll K g H0 vs [d]) : ∃ v, vs = [v] ∧ Rv K g H0 v d := by
  match vs, h with
  | [v], h => exact ⟨v, rfl, h.1⟩
theorem rv2 {K : PySem.W.Frag} {g : Gh} {H0 : Hp} {vs : List V} {d d' : VD} (h : RvAll K g H0 vs [d, d']) : ∃ v v', vs = [v, v'] ∧ Rv K g H0 v d ∧ Rv K g H0 v' d' := by
  match vs, h with
  | [v, v'], h => exact ⟨v, v', rfl, h.1, h.2.1⟩
theorem ej_abs {i : Int} (hm : X.mg "abs" = none) (ha : EJ X Γ B a (.da (.int i)) B1) (hs : starEach [a] X.env = [(false, eval a X.env)] := by rfl) (hg : Gl X "abs" := by rfl) :
    EJ X Γ B (.Call (.Name "abs" p) [a] [] pos) (.da (.int (if i < 0 then -i else i))) B1 :=
  ej_callB call_abs hm (aj_cons ha aj_nil hs) (fun g vs H0 H O r Q q => by
    obtain ⟨v, rfl, h⟩ := rv1 r
    exact ⟨i, by rw [rvI h], q _ _ _ To.refl O (Rp.int _)⟩) (hg := hg) (he := hs)
theorem ej_int1 {i : Int} (hm : X.mg "int" = none) (ha : EJ X Γ B a (.da (.int i)) B1) (hs : starEach [a] X.env = [(false, eval a X.env)] := by rfl) (hg : Gl X "int" := by rfl) :
    EJ X Γ B (.Call (.Name "int" p) [a] [] pos) (.da (.int i)) B1 :=
  ej_callTy call_int1 hm (aj_cons ha aj_nil hs) (fun g vs H0 H O r Q q => by
    obtain ⟨v, rfl, h⟩ := rv1 r
    exact .inl ⟨i, by rw [rvI h], q _ _ _ To.refl O (Rp.int _)⟩) (hg := hg) (he := hs)
theorem ej_intB {i : Bool} (hm : X.mg "int" = none) (ha : EJ X Γ B a (.da (.bool i)) B1) (hs : starEach [a] X.env = [(false, eval a X.env)] := by rfl) (hg : Gl X "int" := by rfl) :
    EJ X Γ B (.Call (.Name "int" p) [a] [] pos) (.da (.int (if i then 1 else 0))) B1 :=
  ej_callTy call_int1 hm (aj_cons ha aj_nil hs) (fun g vs H0 H O r Q q => by
    obtain ⟨v, rfl, h⟩ := rv1 r
    exact .inr ⟨i, by rw [rvB h], q _ _ _ To.refl O (Rp.int _)⟩) (hg := hg) (he := hs)
theorem ej_lenL {ds : List PyData} (hm : X.mg "len" = none) (ha : EJ X Γ B a (.da (.list ds)) B1) (hs : starEach [a] X.env = [(false, eval a X.env)] := by rfl) (hg : Gl X "len" := by rfl) :
    EJ X Γ B (.Call (.Name "len" p) [a] [] pos) (.da (.int ds.length)) B1 :=
  ej_callB call_len_seq hm (aj_cons ha aj_nil hs) (fun g vs H0 H O r Q q => by
    obtain ⟨v, rfl, h⟩ := rv1 r
    obtain ⟨p, xs, rfl, hx, rs⟩ := rvL h
    refine ⟨p, xs, rfl, .inl (SqL.of (O.ex _ _ hx)), ?_⟩
    rw [rs.length]; exact q _ _ _ To.refl O (Rp.int _)) (hg := hg) (he := hs)
structure Shows (d : PyData) : Prop where
  sh : d.showable = true
  nd : d.hasDict = false
  dp : d.depth ≤ 60
  len : d.shown.length ≤ sizeLine
theorem call_repr {k : Nat} (g : Gx k X) : CallR X (.builtin "repr") (fun xs H Q => ∃ x d, xs = [x] ∧ Dp X.K H x d ∧ (∃ p, x = .ref p) ∧ Shows d ∧ Q (.str d.shown) H) := by
  intro pins s σ H xs us Q I rr h
  obtain ⟨x, d, rfl, hd, ⟨p, rfl⟩, S, q⟩ := h
  obtain ⟨u, rfl, rx⟩ := vals1 rr
  cases (show u = Value.ref p from rx)
  obtain ⟨as, rd⟩ := Dp.reads I d (.ref p) (.ref p) hd rfl
  have hu := g.rm.un
  refine repr_of_reads' rd S.sh (fun z => by rw [S.nd] at z; cases z) g.gd (by have := S.dp; omega) (fun _ _ e => e) (fun h' u tk kp => ?_) S.len
  exact ⟨.str d.shown, H, I.kept (t' := tk) kp, ⟨u, rfl⟩, q⟩
def boxed : PyData → Bool
  | .list _ => true
  | .tuple _ => true
  | _ => false
theorem ej_repr {k : Nat} {y : PyData} (g : Gx k X) (hm : X.mg "repr" = none) (ha : EJ X Γ B a (.da y) B1) (hb : boxed y = true) (S : Shows y)
    (hs : starEach [a] X.env = [(false, eval a X.env)] := by rfl) (hg : Gl X "repr" := by rfl) :
    EJ X Γ B (.Call (.Name "repr" p) [a] [] pos) (.da (.str y.shown)) B1 :=
  ej_callB (call_repr g) hm (aj_cons ha aj_nil hs) (fun gh vs H0 H O r Q q => by
    obtain ⟨v, rfl, h⟩ := rv1 r
    have h : Rp X.K H0 v y := h
    refine ⟨v, y, rfl, (h.mono O.ex).dp, ?_, S, q _ _ _ To.refl O (Rp.str _)⟩
    cases h with
    | lst _ _ => exact ⟨_, rfl⟩
    | tup _ _ => exact ⟨_, rfl⟩
    | non => cases hb
    | bl _ => cases hb
    | int _ => cases hb
    | str _ => cases hb) (hg := hg) (he := hs)
theorem tj_val {x : Bool} (h : EJ X Γ B e (.da (.bool x)) B1) (he : ∀ whole, isTrue e X.env whole = (do let v ← whole; standAt e.pos; holding [v] (truthy v)) := by intro _; rfl) :
    TJ X Γ B e x B1 := fun g σ H0 H E O Q q => ⟨_, pt_val (we e) he, h g σ H0 H E O _ fun v H1 H' t o r => ⟨x, rvB r, q H1 H' t o⟩⟩
theorem tj_cmp {op : CmpOp} {x : Bool} {r : R2} (ha : EJ X Γ B a da B1) (hb : EJ X Γ B1 b db B2) (ho : OpR X (compareOp op) r) (hm : behindInMarks op b = false)
    (hr : ∀ g v w H0 H, On X.K g B2 H0 H → Rv X.K g H0 v da → Rv X.K g H0 w db → ∀ Q : VK, (∀ H0' H', To g H0 H H0' H' → On X.K g B2 H0' H' → Q (.bl x) H') → r v w H Q) :
    TJ X Γ B (.Compare a [op] [b] pos) x B2 := fun g σ H0 H E O Q q =>
  ⟨_, pt_cmpR ho (we a) (we b) hm, ha g σ H0 H E O _ fun v H1 H' t o rv => hb g σ H1 H' (E.mono t.ex) o _ fun w H2 H'' t2 o2 rw' =>
    hr g v w H2 H'' o2 (rv.mono t2.ex) rw' _ fun H3 H3' t3 o3 => ⟨x, rfl, q H3 H3' ((t.trans t2).trans t3) o3⟩⟩
theorem tj_cmpI {i j : Int} {z : Int → Int → V} {y : Bool} {op : CmpOp} (ha : EJ X Γ B a (.da (.int i)) B1) (hb : EJ X Γ B1 b (.da (.int j)) B2)
    (ho : OpR X (compareOp op) (rI0 z)) (hz : z i j = .bl y) (hm : behindInMarks op b = false) : TJ X Γ B (.Compare a [op] [b] pos) y B2 :=
  tj_cmp ha hb ho hm fun g v w H0 H O r1 r2 Q q => ⟨i, j, rvI r1, rvI r2, by rw [hz]; exact q H0 H To.refl O⟩
theorem tj_lt {i j : Int} (ha : EJ X Γ B a (.da (.int i)) B1) (hb : EJ X Γ B1 b (.da (.int j)) B2) : TJ X Γ B (.Compare a [.Lt] [b] pos) (decide (i < j)) B2 := tj_cmpI ha hb op_lt rfl (nomark _)
theorem tj_le {i j : Int} (ha : EJ X Γ B a (.da (.int i)) B1) (hb : EJ X Γ B1 b (.da (.int j)) B2) : TJ X Γ B (.Compare a [.LtE] [b] pos) (decide (i ≤ j)) B2 := tj_cmpI ha hb op_le rfl (nomark _)
theorem tj_gt {i j : Int} (ha : EJ X Γ B a (.da (.int i)) B1) (hb : EJ X Γ B1 b (.da (.int j)) B2) : TJ X Γ B (.Compare a [.Gt] [b] pos) (decide (j < i)) B2 := tj_cmpI ha hb op_gt rfl (nomark _)
theorem tj_ge {i j : Int} (ha : EJ X Γ B a (.da (.int i)) B1) (hb : EJ X Γ B1 b (.da (.int j)) B2) : TJ X Γ B (.Compare a [.GtE] [b] pos) (decide (j ≤ i)) B2 := tj_cmpI ha hb op_ge rfl (nomark _)
theorem tj_eq {x y : PyData} (hu : X.A.units + 64 < cLine) (ha : EJ X Γ B a (.da x) B1) (hb : EJ X Γ B1 b (.da y) B2) (hx : SeqAt.shaped x = true) (hy : SeqAt.shaped y = true) :
    TJ X Γ B (.Compare a [.Eq] [b] pos) (PyData.eqv x y) B2 :=
  tj_cmp ha hb (op_eqD hu) (nomark _) fun g v w H0 H O r1 r2 Q q => ⟨x, y, (Rp.mono O.ex r1).dp, (Rp.mono O.ex r2).dp, hx, hy, q H0 H To.refl O⟩
theorem eqv_int (i j : Int) : PyData.eqv (.int i) (.int j) = decide (i = j) := by
  simp only [PyData.eqv]; exact Bool.beq_eq_decide_eq i j
theorem tj_eqI {i j : Int} (hu : X.A.units + 64 < cLine) (ha : EJ X Γ B a (.da (.int i)) B1) (hb : EJ X Γ B1 b (.da (.int j)) B2) : TJ X Γ B (.Compare a [.Eq] [b] pos) (decide (i = j)) B2 := by
  rw [← eqv_int]; exact tj_eq hu ha hb rfl rfl
theorem tj_eqS {i j : Str} (ha : EJ X Γ B a (.da (.str i)) B1) (hb : EJ X Γ B1 b (.da (.str j)) B2) : TJ X Γ B (.Compare a [.Eq] [b] pos) (decide (i = j)) B2 :=
  tj_cmp ha hb op_eq (nomark _) fun g v w H0 H O r1 r2 Q q => by
    rw [rvS r1, rvS r2]
    have e : decide (V.str i = V.str j) = decide (i = j) := by
      by_cases h : i = j
      · subst h; simp
      · rw [decide_eq_false h, decide_eq_false fun z => h (V.str.inj z)]
    refine ⟨rfl, ?_⟩
    rw [e]; exact q H0 H To.refl O
theorem tj_is {x y : Bool} (h : TJ X Γ B e x B1) (hxy : x = y) : TJ X Γ B e y B1 := hxy ▸ h
theorem ej_is {x y : PyData} (h : EJ X Γ B e (.da x) B1) (hxy : x = y) : EJ X Γ B e (.da y) B1 := hxy ▸ h
theorem tj_not {x : Bool} (h : TJ X Γ B e x B1) : TJ X Γ B (.UnaryOp .Not e pos) (!x) B1 := fun g σ H0 H E O Q q =>
  ⟨_, pt_not (wt e), h g σ H0 H E O _ fun H1 H' t o => q H1 H' t o⟩
def WW (X : Cx) (e : Expr) : TT := fun σ H Q => ∃ t, PW X e t ∧ t σ H Q
theorem ww {X : Cx} (e : Expr) : PW X e (WW X e) := ⟨fun w p s σ H Q I ⟨_, ht, h⟩ => ht.run w p s σ H Q I h⟩
def WJ (X : Cx) (Γ : List VD) (B : Bag) (e : Expr) (b : Bool) (B' : Bag) : Prop :=
  ∀ g σ H0 H, EnvD X.K g H0 σ Γ → On X.K g B H0 H → ∀ Q : Bool → Hp → Prop, (∀ H0' H', To g H0 H H0' H' → On X.K g B' H0' H' → Q b H') → WW X e σ H Q
theorem tj_w {x : Bool} (h : WJ X Γ B e x B1) : TJ X Γ B e x B1 := fun g σ H0 H E O Q q => let ⟨t, h1, h2⟩ := h g σ H0 H E O Q q; ⟨t, h1.pt, h2⟩
theorem wj_and1 {x : Bool} (h : TJ X Γ B e x B1) : WJ X Γ B (.BoolOp .And [e] pos) x B1 := fun g σ H0 H E O Q q => ⟨_, pw_and1 (wt e), h g σ H0 H E O Q q⟩
theorem wj_or1 {x : Bool} (h : TJ X Γ B e x B1) : WJ X Γ B (.BoolOp .Or [e] pos) x B1 := fun g σ H0 H E O Q q => ⟨_, pw_or1 (wt e), h g σ H0 H E O Q q⟩
theorem wj_and {x y : Bool} (h : TJ X Γ B e x B) (hr : x = true → WJ X Γ B (.BoolOp .And (a :: es) pos) y B) : WJ X Γ B (.BoolOp .And (e :: a :: es) pos) (x && y) B := fun g σ H0 H E O Q q =>
  ⟨_, pw_and (wt e) (ww _), h g σ H0 H E O _ fun H1 H' t o => by
    cases x with
    | true => exact iteT (hr rfl g σ H1 H' (E.mono t.ex) o Q fun H2 H'' t2 o2 => q H2 H'' (t.trans t2) o2)
    | false => exact iteF (q H1 H' t o)⟩
theorem wj_or {x y : Bool} (h : TJ X Γ B e x B) (hr : x = false → WJ X Γ B (.BoolOp .Or (a :: es) pos) y B) : WJ X Γ B (.BoolOp .Or (e :: a :: es) pos) (x || y) B := fun g σ H0 H E O Q q =>
  ⟨_, pw_or (wt e) (ww _), h g σ H0 H E O _ fun H1 H' t o => by
    cases x with
    | true => exact iteT (q H1 H' t o)
    | false => exact iteF (hr rfl g σ H1 H' (E.mono t.ex) o Q fun H2 H'' t2 o2 => q H2 H'' (t.trans t2) o2)⟩
theorem ej_one {op} (h : EJ X Γ B e d B1) : EJ X Γ B (.BoolOp op [e] pos) d B1 := fun g σ H0 H E O Q q => ⟨_, pe_one (we e), h g σ H0 H E O Q q⟩
theorem ej_and {x y : Bool} (h : EJ X Γ B e (.da (.bool x)) B1) (hr : x = true → EJ X Γ B1 (.BoolOp .And (a :: es) pos) (.da (.bool y)) B1) : EJ X Γ B (.BoolOp .And (e :: a :: es) pos) (.da (.bool (x && y))) B1 := fun g σ H0 H E O Q q =>
  ⟨_, pe_and (we e) (we _), h g σ H0 H E O _ fun v H1 H' t o r => ⟨x, rvB r, by
    cases x with
    | true => exact iteT (hr rfl g σ H1 H' (E.mono t.ex) o Q fun z H2 H'' t2 o2 r2 => q z H2 H'' (t.trans t2) o2 r2)
    | false => exact iteF (q _ H1 H' t o (Rp.bl _))⟩⟩
theorem ej_or {x y : Bool} (h : EJ X Γ B e (.da (.bool x)) B1) (hr : x = false → EJ X Γ B1 (.BoolOp .Or (a :: es) pos) (.da (.bool y)) B1) : EJ X Γ B (.BoolOp .Or (e :: a :: es) pos) (.da (.bool (x || y))) B1 := fun g σ H0 H E O Q q =>
  ⟨_, pe_or (we e) (we _), h g σ H0 H E O _ fun v H1 H' t o r => ⟨x, rvB r, by
    cases x with
    | true => exact iteT (q _ H1 H' t o (Rp.bl _))
    | false => exact iteF (hr rfl g σ H1 H' (E.mono t.ex) o Q fun z H2 H'' t2 o2 r2 => q z H2 H'' (t.trans t2) o2 r2)⟩⟩
theorem ej_not {x : Bool} (h : EJ X Γ B e (.da (.bool x)) B1) : EJ X Γ B (.UnaryOp .Not e pos) (.da (.bool (!x))) B1 := fun g σ H0 H E O Q q =>
  ⟨_, pe_not (we e), h g σ H0 H E O _ fun v H1 H' t o r => ⟨x, rvB r, q _ H1 H' t o (Rp.bl _)⟩⟩
theorem ej_if {x : Bool} (h : TJ X Γ B c x B1) (h1 : x = true → EJ X Γ B1 a d B2) (h2 : x = false → EJ X Γ B1 b d B2) : EJ X Γ B (.IfExp c a b pos) d B2 := fun g σ H0 H E O Q q =>
  ⟨_, pe_ifExp (wt c) (we a) (we b), h g σ H0 H E O _ fun H1 H' t o => by
    cases x with
    | true => exact iteT (h1 rfl g σ H1 H' (E.mono t.ex) o Q fun z H2 H'' t2 o2 r2 => q z H2 H'' (t.trans t2) o2 r2)
    | false => exact iteF (h2 rfl g σ H1 H' (E.mono t.ex) o Q fun z H2 H'' t2 o2 r2 => q z H2 H'' (t.trans t2) o2 r2)⟩
theorem sj_nil (h : E.nx Γ B) : SJ X Γ B [] E := fun g σ H0 H Ev O D G => ⟨_, pss_nil, G.nx Γ B σ H0 H h To.refl Ev O⟩
theorem sj_ret (h : EJ X Γ B e (.da da') B1) (hr : E.rt da' B1) : SJ X Γ B (.Return (some e) pos :: rest) E := fun g σ H0 H Ev O D G =>
  ⟨_, pss_cons (ps_ret (we e)) (ws rest), h g σ H0 H Ev O _ fun v H1 H' t o r => G.rt _ B1 v H1 H' hr t o r⟩
theorem sj_set (i : Nat) {x : Str} (nd : X.N.Nodup) (h : EJ X Γ B e d B1) (k : SJ X (Γ.set i d) B1 rest E) (hi : X.N[i]? = some x := by rfl)
    (hx : Loc X.env.scope x := by first | exact Or.inl rfl | exact Or.inr rfl) (hs : swapsWith e (some (.Name x pos')) pos.line X.env = pure false := by rfl)
    (hf : X.fn x = true ∨ X.env.scope.names.lookup x = some .local := by first | exact Or.inl rfl | exact Or.inr rfl) : SJ X Γ B (.Assign [.Name x pos'] e pos :: rest) E := fun g σ H0 H Ev O D G =>
  ⟨_, pss_cons (ps_set nd hi hx (we e) hs hf) (ws rest), h g σ H0 H Ev O _ fun v H1 H' t o r => k g _ H1 H' ((Ev.mono t.ex).set i r) o D (G.on t)⟩
theorem sj_if {x : Bool} (h : TJ X Γ B c x B1) (h1 : x = true → SJ X Γ B1 s1 { E with nx := fun Γ' B' => SJ X Γ' B' rest E }) (h2 : x = false → SJ X Γ B1 s2 { E with nx := fun Γ' B' => SJ X Γ' B' rest E }) :
    SJ X Γ B (.If c s1 s2 pos :: rest) E := fun g σ H0 H Ev O D G =>
  ⟨_, pss_cons (ps_if (wt c) (ws s1) (ws s2)) (ws rest), h g σ H0 H Ev O _ fun H1 H' t o => by
    have G' : Gets X { E with nx := fun Γ' B' => SJ X Γ' B' rest E } g H1 H' { D with nx := WS X rest D } :=
      ⟨fun Γ2 B2 σ2 H2 H'' q t2 ev o2 => q g σ2 H2 H'' ev o2 D (G.on (t.trans t2)), (G.on t).rt, (G.on t).bk, (G.on t).ct⟩
    cases x with
    | true => exact iteT (h1 rfl g σ H1 H' (Ev.mono t.ex) o _ G')
    | false => exact iteF (h2 rfl g σ H1 H' (Ev.mono t.ex) o _ G')⟩
theorem sj_when {x : Bool} (h : TJ X Γ B c x B1) (h1 : x = true → SJ X Γ B1 s1 { E with nx := fun Γ' B' => SJ X Γ' B' rest E }) (h2 : x = false → SJ X Γ B1 rest E) :
    SJ X Γ B (.If c s1 [] pos :: rest) E := sj_if h h1 fun e => sj_nil (h2 e)
theorem sj_mono {E' : En} (h : SJ X Γ B ss E) (h1 : ∀ Γ B, E.nx Γ B → E'.nx Γ B) (h2 : ∀ r B, E.rt r B → E'.rt r B) (h3 : ∀ Γ B, E.bk Γ B → E'.bk Γ B) (h4 : ∀ Γ B, E.ct Γ B → E'.ct Γ B) : SJ X Γ B ss E' :=
  fun g σ H0 H Ev O D G => h g σ H0 H Ev O D ⟨fun Γ B σ a b q => G.nx Γ B σ a b (h1 _ _ q), fun r B v a b q => G.rt r B v a b (h2 _ _ q), fun Γ B σ a b q => G.bk Γ B σ a b (h3 _ _ q), fun Γ B σ a b q => G.ct Γ B σ a b (h4 _ _ q)⟩
end
end Gd
namespace Gd
open PySem PySem.Spec PyProof.Rows L2
def cutP (ds : List PyData) (lo hi : Option Int) : List PyData := (ds.drop (HT.sIx ds.length 0 lo)).take (HT.sIx ds.length ds.length hi - HT.sIx ds.length 0 lo)
theorem RpAll.cut {K : PySem.W.Frag} {H : Hp} {xs : List V} {ds : List PyData} (r : RpAll K H xs ds) (lo hi : Option Int) : RpAll K H (cutV xs lo hi) (cutP ds lo hi) := by
  unfold cutV cutP
  rw [r.length]
  exact (r.drop _).take _
theorem RpAll.ints {K : PySem.W.Frag} {H : Hp} : ∀ ns : List Int, RpAll K H (ns.map V.int) (ns.map PyData.int)
  | [] => .nil
  | n :: ns => .cons (.int n) (RpAll.ints ns)
theorem RpAll.ints_of {K : PySem.W.Frag} {H : Hp} : ∀ {xs : List V} {ns : List Int}, RpAll K H xs (ns.map PyData.int) → xs = ns.map V.int
  | [], [], _ => rfl
  | _ :: _, n :: ns, .cons h r => by
    cases h
    rw [RpAll.ints_of r]; rfl
section
variable {X : Cx} {Γ : List VD} {B B1 B2 B3 B' : Bag} {e a b c : Expr} {es : List Expr} {d da db dc : VD} {pos p pos' : Pos} {rest ss s1 s2 : List Stmt} {E : En}
def OJ (X : Cx) (Γ : List VD) (B : Bag) (o : Option Expr) (v : Option Int) (B' : Bag) : Prop :=
  ∀ g σ H0 H, EnvD X.K g H0 σ Γ → On X.K g B H0 H → ∀ Q : Option Int → Hp → Prop,
    (∀ H0' H', To g H0 H H0' H' → On X.K g B' H0' H' → Q v H') → ∃ t, PO X o t ∧ t σ H Q
theorem oj_none : OJ X Γ B none none B := fun g σ H0 H _ O Q q => ⟨_, po_none, q H0 H To.refl O⟩
theorem oj_some {i : Int} (h : EJ X Γ B e (.da (.int i)) B1) : OJ X Γ B (some e) (some i) B1 := fun g σ H0 H E O Q q =>
  ⟨_, po_some (we e), h g σ H0 H E O _ fun v H1 H' t o r => ⟨i, rvI r, q H1 H' t o⟩⟩
def WO (X : Cx) (o : Option Expr) : TO := fun σ H Q => ∃ t, PO X o t ∧ t σ H Q
theorem wo (o : Option Expr) : PO X o (WO X o) := ⟨fun p s σ H Q I ⟨_, ht, h⟩ => ht.run p s σ H Q I h⟩
theorem ej_slice {r : V → Option Int → Option Int → Hp → VK → Prop} {lo hi : Option Expr} {l u : Option Int} {p2 : Pos} (hr : SlR X r) (ha : EJ X Γ B a da B1) (hl : OJ X Γ B1 lo l B2) (hu : OJ X Γ B2 hi u B3)
    (k : ∀ g v H0 H, On X.K g B3 H0 H → Rv X.K g H0 v da → ∀ Q : VK, (∀ z H0' H', To g H0 H H0' H' → On X.K g B3 H0' H' → Rv X.K g H0' z d → Q z H') → r v l u H Q) :
    EJ X Γ B (.Subscript a (.Slice lo hi none p2) pos) d B3 := fun g σ H0 H E O Q q =>
  ⟨_, pe_slice hr (we a) (wo lo) (wo hi), ha g σ H0 H E O _ fun v H1 H' t o rv => hl g σ H1 H' (E.mono t.ex) o _ fun H2 H'' t2 o2 =>
    hu g σ H2 H'' (E.mono (t.trans t2).ex) o2 _ fun H3 H3' t3 o3 => k g v H3 H3' o3 (rv.mono (t2.trans t3).ex) Q fun z H4 H4' t4 o4 r4 => q z H4 H4' (((t.trans t2).trans t3).trans t4) o4 r4⟩
theorem ej_sliceL {lo hi : Option Expr} {l u : Option Int} {p2 : Pos} {ds : List PyData} (ha : EJ X Γ B a (.da (.list ds)) B1) (hl : OJ X Γ B1 lo l B2) (hu : OJ X Γ B2 hi u B3) :
    EJ X Γ B (.Subscript a (.Slice lo hi none p2) pos) (.da (.list (cutP ds l u))) B3 :=
  ej_slice sl_list ha hl hu fun g v H0 H O r Q q => by
    obtain ⟨p, xs, rfl, hx, rs⟩ := rvL r
    refine ⟨p, xs, rfl, SqL.of (O.ex _ _ hx), fun n hn => ?_⟩
    obtain ⟨t2, o2⟩ := laid (o := .lst (cutV xs l u)) O hn
    exact q _ _ _ t2 o2 (Rp.lst upd_same ((rs.cut l u).mono t2.ex))
theorem ej_sliceT {lo hi : Option Expr} {l u : Option Int} {p2 : Pos} {ds : List PyData} (ha : EJ X Γ B a (.da (.tuple ds)) B1) (hl : OJ X Γ B1 lo l B2) (hu : OJ X Γ B2 hi u B3) :
    EJ X Γ B (.Subscript a (.Slice lo hi none p2) pos) (.da (.tuple (cutP ds l u))) B3 :=
  ej_slice sl_tupA ha hl hu fun g v H0 H O r Q q => by
    obtain ⟨p, xs, rfl, hx, rs⟩ := rvT r
    refine ⟨p, xs, rfl, seqT O.ex hx, fun w => ?_, fun _ n hn => ?_⟩
    · have e : cutP ds l u = ds := by
        rw [rs.length] at w
        unfold cutP
        rw [w.1, w.2]
        simp
      have q := q (.ref p) H0 H To.refl O
      rw [e] at q
      exact q (Rp.tup hx rs)
    · obtain ⟨t2, o2⟩ := laid (o := .tup (cutV xs l u)) O hn
      exact q _ _ _ t2 o2 (Rp.tup (SqT.of upd_same) ((rs.cut l u).mono t2.ex))
theorem ej_sliceScr {lo hi : Option Expr} {l u : Option Int} {p2 : Pos} {ns : List Int} (ha : EJ X Γ B a (.scr ns) B1) (hl : OJ X Γ B1 lo l B2) (hu : OJ X Γ B2 hi u B3) :
    EJ X Γ B (.Subscript a (.Slice lo hi none p2) pos) (.da (.list (cutP (ns.map .int) l u))) B3 :=
  ej_slice sl_list ha hl hu fun g v H0 H O r Q q => by
    obtain ⟨p, rfl, hx⟩ := r
    refine ⟨p, _, rfl, O.ex.seq hx, fun n hn => ?_⟩
    obtain ⟨t2, o2⟩ := laid (o := .lst (cutV (ns.map V.int) l u)) O hn
    exact q _ _ _ t2 o2 (Rp.lst upd_same ((RpAll.ints ns).cut l u))
theorem ej_bagAt {i : Int} {y : PyData} {k : Nat} (ha : EJ X Γ B a .bag B1) (hb : EJ X Γ B1 b (.da (.int i)) B2) (hi : i = (k : Int)) (hk : k = 0 ∧ y = .int B2.x ∨ k = 1 ∧ y = .int B2.y ∨ k = 2 ∧ y = .int B2.z ∨ k = 3 ∧ y = .list (B2.cs.map .int)) (hs : PlainIx b) :
    EJ X Γ B (.Subscript a b pos) (.da y) B2 :=
  ej_bin ha hb (fun _ _ h1 h2 => pe_ix ix_list h1 h2 hs) fun g v w H0 H O r1 r2 Q q => by
    obtain ⟨p, l, hg, rfl⟩ := r1
    obtain ⟨_, h2, h3⟩ := O.bag p l hg
    subst hi
    rcases hk with ⟨rfl, rfl⟩ | ⟨rfl, rfl⟩ | ⟨rfl, rfl⟩ | ⟨rfl, rfl⟩
    · exact ⟨p, _, _, _, rfl, rvI r2, SqL.of h2, rfl, q _ _ _ To.refl O (Rp.int _)⟩
    · exact ⟨p, _, _, _, rfl, rvI r2, SqL.of h2, rfl, q _ _ _ To.refl O (Rp.int _)⟩
    · exact ⟨p, _, _, _, rfl, rvI r2, SqL.of h2, rfl, q _ _ _ To.refl O (Rp.int _)⟩
    · exact ⟨p, _, _, _, rfl, rvI r2, SqL.of h2, rfl, q _ _ _ To.refl O (Rp.lst h3 (RpAll.ints _))⟩
theorem bagged {K : PySem.W.Frag} {g : Gh} {B B' : Bag} {H0 H : Hp} {a l : Addr} (O : On K g B H0 H) (hg : g = some (a, l)) (hc : B'.cs = B.cs) :
    To g H0 H H0 (upd H a (.lst (bagCells B' l))) ∧ On K g B' H0 (upd H a (.lst (bagCells B' l))) := by
  obtain ⟨h1, h2, h3⟩ := O.bag a l hg
  refine ⟨⟨Same.refl _, fun q u f e1 e2 => ⟨e1, ?_⟩⟩, ⟨fun q u e => ?_, fun q m e => ?_⟩⟩
  · rw [upd_ne (fun z => f l (by rw [z]; exact hg))]; exact e2
  · rw [upd_ne (ne_of_none e h1)]; exact O.ex _ _ e
  · rw [hg] at e; cases e
    exact ⟨h1, upd_same, by rw [hc]; exact h3⟩
theorem sj_bagSet {i n : Int} {k : Nat} {px : Pos} (hv : EJ X Γ B e (.da (.int n)) B1) (ha : EJ X Γ B1 a .bag B2) (hb : EJ X Γ B2 b (.da (.int i)) B3) (hi : i = (k : Int))
    (hk : k = 0 ∧ B' = { B3 with x := n } ∨ k = 1 ∧ B' = { B3 with y := n } ∨ k = 2 ∧ B' = { B3 with z := n }) (q : SJ X Γ B' rest E)
    (h1 : swapsWithSole [.Subscript a b px] e pos.line X.env = pure false := by rfl) (h2 : swappedStores [.Subscript a b px] e X.env = pure none := by rfl)
    (h3 : (assignEach [.Subscript a b px] X.env).map (·.2) = [assign (.Subscript a b px) X.env] := by rfl)
    (h4 : ∀ v, assign (.Subscript a b px) X.env v = (do
      let ov ← holding [v] (eval a X.env)
      let iv ← holding [v, ov] (eval b X.env)
      standAt px; holding [v, ov, iv] (setItem ov iv v)
      release [v, ov, iv] []) := by intro _; rfl) :
    SJ X Γ B (.Assign [.Subscript a b px] e pos :: rest) E := fun g σ H0 H Ev O D G =>
  ⟨_, pss_cons (ps_asg (we e) (pg_sub (we a) (we b) set_list h4) h1 h2 h3) (ws rest), hv g σ H0 H Ev O _ fun v H1 H' t o rv => ha g σ H1 H' (Ev.mono t.ex) o _ fun w H2 H'' t2 o2 rw' =>
    hb g σ H2 H'' (Ev.mono (t.trans t2).ex) o2 _ fun u H3 H3' t3 o3 ru => by
      obtain ⟨p, l, hg, rfl⟩ := rw'
      rw [rvI ru, rvI rv]
      subst hi
      obtain ⟨_, e2, _⟩ := o3.bag p l hg
      have tt := (t.trans t2).trans t3
      have fin : ∀ (H4 : Hp), H4 = upd H3' p (.lst (bagCells B' l)) → B'.cs = B3.cs → WS X rest D σ H4 := by
        rintro H4 rfl hc
        obtain ⟨t4, o4⟩ := bagged o3 hg hc
        exact q g σ H3 _ (Ev.mono tt.ex) o4 D (G.on (tt.trans t4))
      rcases hk with ⟨rfl, rfl⟩ | ⟨rfl, rfl⟩ | ⟨rfl, rfl⟩
      · exact ⟨p, _, _, 0, rfl, rfl, e2, rfl, fin _ rfl rfl⟩
      · exact ⟨p, _, _, 1, rfl, rfl, e2, rfl, fin _ rfl rfl⟩
      · exact ⟨p, _, _, 2, rfl, rfl, e2, rfl, fin _ rfl rfl⟩⟩
def rGetL : V → V → Hp → VK → Prop := fun o i H Q => ∃ p xs k v, o = .ref p ∧ i = .int ((k : Nat) : Int) ∧ H p = some (.lst xs) ∧ xs[k]? = some v ∧ k < 1000 ∧ Q v H
theorem get_list : PGet X rGetL := by
  intro pins s σ H o i ov iv Q I r1 r2 h
  obtain ⟨p, xs, k, v, rfl, rfl, hp, hv, hk, q⟩ := h
  cases (show ov = Value.ref p from r1)
  obtain ⟨t, rfl⟩ := r2
  obtain ⟨its, r, pl, hz⟩ := I.list (SqL.of hp)
  obtain ⟨u, hu, ru⟩ := r.get hv
  refine wpAny_getItem_list pl.isList (Int.natCast_nonneg k) (by omega) ?_ ⟨v, H, I, ru, q⟩
  rw [Int.toNat_natCast]; simpa using hu
theorem sj_bagAug {n : Int} {px : Pos} (ha : EJ X Γ B a .bag B1) (hb : EJ X Γ B1 b (.da (.int 2)) B2) (hv : EJ X Γ B2 e (.da (.int n)) B3) (hz : B3.z = B2.z) (q : SJ X Γ { B3 with z := B3.z + n } rest E)
    (h1 : ∀ ov iv new, augStore b ov iv new = (do holding [new, ov, iv] (setItem ov iv new); release [new, ov, iv] []; pure .next) := by intros; rfl) :
    SJ X Γ B (.AugAssign (.Subscript a b px) .Add e pos :: rest) E := fun g σ H0 H Ev O D G =>
  ⟨_, pss_cons (ps_augS (we a) (we b) get_list (we e) ip_add set_list h1) (ws rest), ha g σ H0 H Ev O _ fun w H1 H' t o rw' => hb g σ H1 H' (Ev.mono t.ex) o _ fun u H2 H'' t2 o2 ru => by
    obtain ⟨p, l, hg, rfl⟩ := rw'
    rw [rvI ru]
    obtain ⟨_, e2, _⟩ := o2.bag p l hg
    refine ⟨p, _, 2, .int B2.z, rfl, rfl, e2, rfl, by omega, ?_⟩
    refine hv g σ H2 H'' (Ev.mono (t.trans t2).ex) o2 _ fun v H3 H3' t3 o3 rv => ?_
    rw [rvI rv]
    obtain ⟨_, e3, _⟩ := o3.bag p l hg
    have tt := (t.trans t2).trans t3
    refine ⟨B2.z, n, rfl, rfl, p, _, 2, 2, rfl, rfl, e3, rfl, ?_⟩
    obtain ⟨t4, o4⟩ := bagged (B' := { B3 with z := B3.z + n }) o3 hg rfl
    rw [← hz]
    exact q g σ H3 _ (Ev.mono tt.ex) o4 D (G.on (tt.trans t4))⟩
theorem sj_while (nd : X.N.Nodup) (P : List VD → Bag → Prop) (μ : List VD → Bag → Nat) (h0 : P Γ B)
    (hs : ∀ Γ B, P Γ B → ∃ x, TJ X Γ B c x B ∧
      (x = true → SJ X Γ B s1 { nx := fun Γ' B' => P Γ' B' ∧ μ Γ' B' < μ Γ B, ct := fun Γ' B' => P Γ' B' ∧ μ Γ' B' < μ Γ B, bk := fun Γ' B' => SJ X Γ' B' rest E, rt := E.rt }) ∧
      (x = false → SJ X Γ B rest E))
    (hp : PassesOwn (model X.prog X.w) X.A X.env X.xe := by exact PassesOwn.never) : SJ X Γ B (.While c s1 [] pos :: rest) E := fun g σ H0 H Ev O D G =>
  ⟨_, pss_cons (ps_while hp (wt c) (ws s1)) (ws rest), by
    refine ⟨fun m σ' H' => ∃ Γ' B' H1, P Γ' B' ∧ μ Γ' B' = m ∧ To g H0 H H1 H' ∧ EnvD X.K g H1 σ' Γ' ∧ On X.K g B' H1 H', ⟨_, Γ, B, H0, h0, rfl, To.refl, Ev, O⟩, ?_⟩
    rintro m σ' H' ⟨Γ', B', H1, hP, rfl, t, ev, o⟩
    obtain ⟨x, ht, hb, hd⟩ := hs Γ' B' hP
    refine ht g σ' H1 H' ev o _ fun H2 H'' t2 o2 => ?_
    have tt := t.trans t2
    cases x with
    | true =>
      refine iteT ⟨fun σ2 H3' => ∃ m', m' < μ Γ' B' ∧ ∃ Γ2 B2 H3, P Γ2 B2 ∧ μ Γ2 B2 = m' ∧ To g H0 H H3 H3' ∧ EnvD X.K g H3 σ2 Γ2 ∧ On X.K g B2 H3 H3', fun _ _ z => z, ?_⟩
      refine hb rfl g σ' H2 H'' (ev.mono t2.ex) o2 _ ⟨?_, ?_, ?_, ?_⟩
      · rintro Γ3 B3 σ3 H3 H3' ⟨q1, q2⟩ t3 e3 o3
        exact ⟨_, q2, Γ3, B3, H3, q1, rfl, tt.trans t3, e3, o3⟩
      · intro r B3 v H3 H3' q t3 o3 rv
        exact (G.on tt).rt r B3 v H3 H3' q t3 o3 rv
      · intro Γ3 B3 σ3 H3 H3' q t3 e3 o3
        exact q g σ3 H3 H3' e3 o3 D (G.on (tt.trans t3))
      · rintro Γ3 B3 σ3 H3 H3' ⟨q1, q2⟩ t3 e3 o3
        exact ⟨_, q2, Γ3, B3, H3, q1, rfl, tt.trans t3, e3, o3⟩
    | false => exact iteF (hd rfl g σ' H2 H'' (ev.mono t2.ex) o2 D (G.on tt))⟩
theorem sj_forL (j : Nat) {x : Str} {ds : List PyData} {px : Pos} (nd : X.N.Nodup) (hc : X.calm = true) (P : Nat → List VD → Bag → Prop) (hi : EJ X Γ B e (.da (.list ds)) B1) (h0 : P 0 Γ B1)
    (hs : ∀ i y Γ' B', ds[i]? = some y → P i Γ' B' → SJ X (Γ'.set j (.da y)) B' s1 { nx := P (i + 1), ct := P (i + 1), bk := fun Γ' B' => SJ X Γ' B' rest E, rt := E.rt })
    (hd : ∀ Γ' B', P ds.length Γ' B' → SJ X Γ' B' rest E) (hN : X.N[j]? = some x := by rfl) (hx : Loc X.env.scope x := by first | exact Or.inl rfl | exact Or.inr rfl)
    (hf : X.fn x = true ∨ X.env.scope.names.lookup x = some .local := by first | exact Or.inl rfl | exact Or.inr rfl)
    (hp : PassesOwn (model X.prog X.w) X.A X.env X.xe := by exact PassesOwn.never) (hq : ∀ x, foldedSetIterable e X.env x = pure x := by intro _; rfl) :
    SJ X Γ B (.For (.Name x px) e s1 [] pos :: rest) E := fun g σ H0 H Ev O D G =>
  ⟨_, pss_cons (ps_for hp hc (pi_list (we e)) (pg_name nd hN hx hf) (ws s1) hq) (ws rest), hi g σ H0 H Ev O _ fun v H1 H' t o r => by
    obtain ⟨p, xs, rfl, hxs, rs⟩ := rvL r
    refine ⟨p, rfl, ⟨xs, SqL.of (o.ex _ _ hxs)⟩, ?_⟩
    refine for_list (xs := xs) (fun i σ' H'' => ∃ Γ' B' H2, P i Γ' B' ∧ To g H1 H' H2 H'' ∧ EnvD X.K g H2 σ' Γ' ∧ On X.K g B' H2 H'') ⟨Γ, B1, H1, h0, To.refl, Ev.mono t.ex, o⟩ ?_ ?_ ?_
    · rintro i σ' H'' _ ⟨Γ', B', H2, _, t2, _, o2⟩
      exact SqL.of (o2.ex _ _ (t2.ex _ _ hxs))
    · rintro i y σ' H'' hy ⟨Γ', B', H2, hP, t2, e2, o2⟩
      obtain ⟨d, hdi, rd⟩ := rs.get hy
      refine hs i d Γ' B' hdi hP g _ H2 H'' (e2.set j (Rp.mono t2.ex rd)) o2 _ ⟨?_, ?_, ?_, ?_⟩
      · intro Γ3 B3 σ3 H3 H3' q t3 e3 o3
        exact ⟨Γ3, B3, H3, q, t2.trans t3, e3, o3⟩
      · intro r B3 v H3 H3' q t3 o3 rv
        exact (G.on (t.trans t2)).rt r B3 v H3 H3' q t3 o3 rv
      · intro Γ3 B3 σ3 H3 H3' q t3 e3 o3
        exact q g σ3 H3 H3' e3 o3 D (G.on ((t.trans t2).trans t3))
      · intro Γ3 B3 σ3 H3 H3' q t3 e3 o3
        exact ⟨Γ3, B3, H3, q, t2.trans t3, e3, o3⟩
    · rintro σ' H'' ⟨Γ', B', H2, hP, t2, e2, o2⟩
      rw [rs.length] at hP
      exact hd Γ' B' hP g σ' H2 H'' e2 o2 D (G.on (t.trans t2))⟩
theorem sj_forT (j : Nat) {x : Str} {ds : List PyData} {px : Pos} (nd : X.N.Nodup) (hc : X.calm = true) (P : Nat → List VD → Bag → Prop) (hi : EJ X Γ B e (.da (.tuple ds)) B1) (h0 : P 0 Γ B1)
    (hs : ∀ i y Γ' B', ds[i]? = some y → P i Γ' B' → SJ X (Γ'.set j (.da y)) B' s1 { nx := P (i + 1), ct := P (i + 1), bk := fun Γ' B' => SJ X Γ' B' rest E, rt := E.rt })
    (hd : ∀ Γ' B', P ds.length Γ' B' → SJ X Γ' B' rest E) (hN : X.N[j]? = some x := by rfl) (hx : Loc X.env.scope x := by first | exact Or.inl rfl | exact Or.inr rfl)
    (hf : X.fn x = true ∨ X.env.scope.names.lookup x = some .local := by first | exact Or.inl rfl | exact Or.inr rfl)
    (hp : PassesOwn (model X.prog X.w) X.A X.env X.xe := by exact PassesOwn.never) (hq : ∀ x, foldedSetIterable e X.env x = pure x := by intro _; rfl) :
    SJ X Γ B (.For (.Name x px) e s1 [] pos :: rest) E := fun g σ H0 H Ev O D G =>
  ⟨_, pss_cons (ps_for hp hc (pi_tup (we e)) (pg_name nd hN hx hf) (ws s1) hq) (ws rest), hi g σ H0 H Ev O _ fun v H1 H' t o r => by
    obtain ⟨p, xs, rfl, hxs, rs⟩ := rvT r
    refine ⟨p, rfl, ⟨xs, seqT o.ex hxs⟩, ?_⟩
    refine for_tup (xs := xs) (fun i σ' H'' => ∃ Γ' B' H2, P i Γ' B' ∧ To g H1 H' H2 H'' ∧ EnvD X.K g H2 σ' Γ' ∧ On X.K g B' H2 H'') ⟨Γ, B1, H1, h0, To.refl, Ev.mono t.ex, o⟩ ?_ ?_ ?_
    · rintro i σ' H'' _ ⟨Γ', B', H2, _, t2, _, o2⟩
      exact seqT o2.ex (seqT t2.ex hxs)
    · rintro i y σ' H'' hy ⟨Γ', B', H2, hP, t2, e2, o2⟩
      obtain ⟨d, hdi, rd⟩ := rs.get hy
      refine hs i d Γ' B' hdi hP g _ H2 H'' (e2.set j (Rp.mono t2.ex rd)) o2 _ ⟨?_, ?_, ?_, ?_⟩
      · intro Γ3 B3 σ3 H3 H3' q t3 e3 o3
        exact ⟨Γ3, B3, H3, q, t2.trans t3, e3, o3⟩
      · intro r B3 v H3 H3' q t3 o3 rv
        exact (G.on (t.trans t2)).rt r B3 v H3 H3' q t3 o3 rv
      · intro Γ3 B3 σ3 H3 H3' q t3 e3 o3
        exact q g σ3 H3 H3' e3 o3 D (G.on ((t.trans t2).trans t3))
      · intro Γ3 B3 σ3 H3 H3' q t3 e3 o3
        exact ⟨Γ3, B3, H3, q, t2.trans t3, e3, o3⟩
    · rintro σ' H'' ⟨Γ', B', H2, hP, t2, e2, o2⟩
      rw [rs.length] at hP
      exact hd Γ' B' hP g σ' H2 H'' e2 o2 D (G.on (t.trans t2))⟩
theorem sj_par (i j : Nat) {x y : Str} {px py pt : Pos} {kt k2 pt2} {d1 d2 : VD} (nd : X.N.Nodup) (hc : X.calm = true) (h : AJ X Γ B [a, b] [d1, d2] B1) (k : SJ X ((Γ.set i d1).set j d2) B1 rest E)
    (hij : i ≠ j) (hw : swappedStores [.Tuple [.Name x px, .Name y py] kt pt] (.Tuple [a, b] k2 pt2) X.env = pure (some [x, y])) (hi : X.N[i]? = some x := by rfl) (hj : X.N[j]? = some y := by rfl)
    (hx : X.env.scope.names.lookup x = some .local := by rfl) (hy : X.env.scope.names.lookup y = some .local := by rfl)
    (hsw : swapsWithSole [.Tuple [.Name x px, .Name y py] kt pt] (.Tuple [a, b] k2 pt2) pos.line X.env = pure false := by rfl) :
    SJ X Γ B (.Assign [.Tuple [.Name x px, .Name y py] kt pt] (.Tuple [a, b] k2 pt2) pos :: rest) E := fun g σ H0 H Ev O D G =>
  ⟨_, pss_cons (ps_par hc nd hi hj hij hx hy (wa [a, b]) hw hsw) (ws rest), h g σ H0 H Ev O _ fun vs H1 H' t o r => by
    obtain ⟨v, w, rfl, r1, r2⟩ := rv2 r
    exact ⟨v, w, rfl, k g _ H1 H' (((Ev.mono t.ex).set i r1).set j r2) o D (G.on t)⟩⟩
def gNames : List Nat → TGs
  | [] => gNil
  | i :: is => gCons (gName i) (gNames is)
def setAll (Γ : List VD) : List Nat → List PyData → List VD
  | i :: is, d :: ds => setAll (Γ.set i (.da d)) is ds
  | _, _ => Γ
theorem gNames_run {K : PySem.W.Frag} {g : Gh} {H0 H : Hp} {Q : L2.St → Hp → Prop} : ∀ (is : List Nat) (vs : List V) (ds : List PyData) (σ : L2.St) (Γ : List VD), RpAll K H0 vs ds → is.length = ds.length → EnvD K g H0 σ Γ →
    (∀ σ', EnvD K g H0 σ' (setAll Γ is ds) → Q σ' H) → gNames is vs σ H Q
  | [], _, _, σ, Γ, .nil, _, e, q => ⟨rfl, q σ e⟩
  | i :: is, _, _, σ, Γ, .cons h r, hl, e, q => ⟨_, _, rfl, gNames_run is _ _ _ _ r (Nat.succ.inj hl) (e.set (d := .da _) i h) q⟩
theorem sj_unpack (is : List Nat) {ts : List Expr} {k} {pt : Pos} {ds : List PyData} (hc : X.calm = true) (h : EJ X Γ B e (.da (.tuple ds)) B1) (hg : PGs X ts (gNames is)) (hl : is.length = ds.length)
    (q : SJ X (setAll Γ is ds) B1 rest E) (hn : (assignEach ts X.env).length = ds.length := by rfl) (hst : (assignEach ts X.env).findIdx? (·.1) = none := by rfl)
    (h1 : swapsWithSole [.Tuple ts k pt] e pos.line X.env = pure false := by rfl) (h2 : swappedStores [.Tuple ts k pt] e X.env = pure none := by rfl)
    (h3 : (assignEach [.Tuple ts k pt] X.env).map (·.2) = [assign (.Tuple ts k pt) X.env] := by rfl) : SJ X Γ B (.Assign [.Tuple ts k pt] e pos :: rest) E := fun g σ H0 H Ev O D G =>
  ⟨_, pss_cons (ps_asg (we e) (pg_tup hc hg hn hst) h1 h2 h3) (ws rest), h g σ H0 H Ev O _ fun v H1 H' t o r => by
    obtain ⟨p, xs, rfl, hxs, rs⟩ := rvT r
    exact ⟨p, xs, rfl, seqT o.ex hxs, rs.length, gNames_run is xs ds σ Γ rs hl (Ev.mono t.ex) fun σ' e' => q g σ' H1 H' e' o D (G.on t)⟩⟩
def Blk (X : Cx) (scope : Scope) (J : Cx → Prop) : Prop := ∀ (s : Shared) (H : Hp) (C : Addr) (cl : List (Str × Addr)) (fp : List Addr), J (X.blk s H scope (compEnvC scope cl C X.env) fp)
def WB (X : Cx) (scope : Scope) (e : Expr) : TE := fun σ H Q => ∀ (s : Shared) (H' : Hp) (C : Addr) (cl : List (Str × Addr)) (fp : List Addr), WE (X.blk s H' scope (compEnvC scope cl C X.env) fp) e σ H Q
theorem wb (scope : Scope) (e : Expr) (s : Shared) (H : Hp) (C : Addr) (cl : List (Str × Addr)) (fp : List Addr) : PE (X.blk s H scope (compEnvC scope cl C X.env) fp) e (WB X scope e) :=
  ⟨fun pins s' σ H' Q I h => (we e).run pins s' σ H' Q I (h s H C cl fp)⟩
structure LcI (K : PySem.W.Frag) (g : Gh) (H1 H' : Hp) (A : Addr) (acc : List PyData) (B : Bag) (H2 H'' : Hp) : Prop where
  to : To g H1 H' H2 H''
  new : H' A = none
  no : H2 A = none
  at' : ∃ zs, H'' A = some (.lst zs) ∧ RpAll K H2 zs acc
  on : On K g B H2 H''
theorem lcI_start {K : PySem.W.Frag} {g : Gh} {H1 H' : Hp} {A : Addr} (o : On K g B H1 H') (h : H' A = none) : Off g A ∧ LcI K g H1 H' A [] B H1 (upd H' A (.lst [])) := by
  have h1 : H1 A = none := o.ex.free h
  have off : Off g A := fun l e => by
    obtain ⟨_, q, _⟩ := o.bag A l e
    rw [h] at q; cases q
  refine ⟨off, ⟨⟨Same.refl _, fun q u f e1 e2 => ⟨e1, ?_⟩⟩, h, h1, ⟨[], upd_same, .nil⟩, ⟨fun q u e => ?_, fun q l e => ?_⟩⟩⟩
  · rw [upd_ne (ne_of_none e2 h)]; exact e2
  · rw [upd_ne (ne_of_none e h1)]; exact o.ex _ _ e
  · obtain ⟨q1, q2, q3⟩ := o.bag q l e
    exact ⟨q1, by rw [upd_ne (ne_of_none q2 h)]; exact q2, q3⟩
theorem lcI_app {K : PySem.W.Frag} {g : Gh} {H1 H' : Hp} {A : Addr} {acc : List PyData} {H2 H'' H3 H3' : Hp} {v : V} {y : PyData} (off : Off g A) (I : LcI K g H1 H' A acc B1 H2 H'') (t : To g H2 H'' H3 H3') (o : On K g B2 H3 H3') (r : Rp K H3 v y) :
    ∃ zs, H3' A = some (.lst zs) ∧ zs.length = acc.length ∧ LcI K g H1 H' A (acc ++ [y]) B2 H3 (upd H3' A (.lst (zs ++ [v]))) := by
  obtain ⟨zs, h1, h2⟩ := I.at'
  obtain ⟨h3, h4⟩ := t.un A _ off I.no h1
  refine ⟨zs, h4, h2.length, ⟨⟨I.to.ex.trans t.ex, fun q u f e1 e2 => ?_⟩, I.new, h3, ⟨_, upd_same, (h2.mono t.ex).app (.cons r .nil)⟩, ⟨fun q u e => ?_, fun q l e => ?_⟩⟩⟩
  · by_cases hq : q = A
    · subst hq
      have z := I.new
      rw [e2] at z; cases z
    · obtain ⟨q1, q2⟩ := I.to.un q u f e1 e2
      obtain ⟨q3, q4⟩ := t.un q u f q1 q2
      exact ⟨q3, by rw [upd_ne hq]; exact q4⟩
  · rw [upd_ne (ne_of_none e h3)]; exact o.ex _ _ e
  · obtain ⟨q1, q2, q3⟩ := o.bag q l e
    have hq : q ≠ A := fun z => off l (by rw [← z]; exact e)
    exact ⟨q1, by rw [upd_ne hq]; exact q2, q3⟩
theorem lcI_end {K : PySem.W.Frag} {g : Gh} {H0 H H1 H' : Hp} {A : Addr} {acc : List PyData} {H2 H'' : Hp} (off : Off g A) (t : To g H0 H H1 H') (I : LcI K g H1 H' A acc B H2 H'') :
    ∃ H3, To g H0 H H3 H'' ∧ On K g B H3 H'' ∧ Rp K H3 (.ref A) (.list acc) := by
  obtain ⟨zs, h1, h2⟩ := I.at'
  have tt := t.trans I.to
  have up : Same H2 (upd H2 A (.lst zs)) := fun q u e => by rw [upd_ne (ne_of_none e I.no)]; exact e
  refine ⟨upd H2 A (.lst zs), ⟨tt.ex.trans up, fun q u f e1 e2 => ?_⟩, ⟨fun q u e => ?_, fun q l e => ?_⟩, Rp.lst upd_same (h2.mono up)⟩
  · obtain ⟨q1, q2⟩ := tt.un q u f e1 e2
    have hq : q ≠ A := fun z => by
      subst z
      obtain ⟨_, q3⟩ := t.un q u f e1 e2
      rw [I.new] at q3; cases q3
    exact ⟨by rw [upd_ne hq]; exact q1, q2⟩
  · by_cases hq : q = A
    · subst hq; rw [upd_same] at e; cases e; exact h1
    · rw [upd_ne hq] at e; exact I.on.ex _ _ e
  · obtain ⟨q1, q2, q3⟩ := I.on.bag q l e
    have hq : q ≠ A := fun z => off l (by rw [← z]; exact e)
    have hl : l ≠ A := fun z => by rw [z, I.no] at q3; cases q3
    exact ⟨by rw [upd_ne hq]; exact q1, q2, by rw [upd_ne hl]; exact q3⟩
theorem wipe1 {σ : L2.St} {j : Nat} {v : Option V} : wipe ((wipe σ [j]).set j v) [j] = wipe σ [j] := by
  show (((σ.set j none).set j v).set j none) = σ.set j none
  rw [List.set_set, List.set_set]
theorem wipe_env {K : PySem.W.Frag} {g : Gh} {H0 : Hp} {σ : L2.St} {j : Nat} {v : V} {d : PyData} (Ev : EnvD K g H0 σ Γ) (r : Rp K H0 v d) : EnvD K g H0 ((wipe σ [j]).set j (some v)) (Γ.set j (.da d)) := by
  show EnvD K g H0 ((σ.set j none).set j (some v)) (Γ.set j (.da d))
  rw [List.set_set]
  exact Ev.set (d := .da d) j r
def RJ (X : Cx) (Γ : List VD) (B : Bag) (t : TE) (d : VD) (B' : Bag) : Prop :=
  ∀ g σ H0 H, EnvD X.K g H0 σ Γ → On X.K g B H0 H → ∀ Q : VK,
    (∀ v H0' H', To g H0 H H0' H' → On X.K g B' H0' H' → Rv X.K g H0' v d → Q v H') → t σ H Q
theorem ej_of {t : TE} (h : PE X e t) (r : RJ X Γ B t d B1) : EJ X Γ B e d B1 := fun g σ H0 H E O Q q => ⟨t, h, r g σ H0 H E O Q q⟩
section
variable {elt : Expr} {scope : Scope} {j : Nat} {x : Str} {px : Pos} {ds ys : List PyData}
theorem lc_turn {g : Gh} {H1 H' : Hp} {A : Addr} {acc : List PyData} {H'' H2 : Hp} {σ : L2.St} {v : V} {y z : PyData} {Nx : Hp → Prop} (off : Off g A) (Ev : EnvD X.K g H1 σ Γ) (I : LcI X.K g H1 H' A acc B1 H2 H'') (r : Rp X.K H2 v y)
    (hz : acc.length < 1000) (he : Blk X scope fun Y => EJ Y (Γ.set j (.da y)) B1 elt (.da z) B2) (k : ∀ H3 H3', LcI X.K g H1 H' A (acc ++ [z]) B2 H3 H3' → Nx H3') :
    gName j v (wipe σ [j]) H'' fun σ2 H2 => wipe σ2 [j] = wipe σ [j] ∧ tYes σ2 H2 fun b H3 => if b = true then WB X scope elt σ2 H3 fun y H4 => ∃ acc, H4 A = some (.lst acc) ∧ acc.length < sizeLine ∧ Nx (upd H4 A (.lst (acc ++ [y]))) else Nx H3 := by
  refine ⟨wipe1, ?_⟩
  unfold tYes
  refine iteT ?_
  intro s hH C cl fp
  refine he s hH C cl fp g _ H2 H'' (wipe_env (Ev.mono I.to.ex) r) I.on _ fun w H3 H3' t o rw' => ?_
  obtain ⟨zs, h1, h2, J⟩ := lcI_app off I t o rw'
  exact ⟨zs, h1, by rw [h2]; exact small1000 (Nat.le_of_lt hz), k _ _ J⟩
theorem rj_lc (Bs : Nat → Bag) (hi : EJ X Γ B e (.da (.list ds)) (Bs 0)) (hl : ys.length = ds.length) (hz : ds.length ≤ 1000)
    (hs : ∀ i y z, ds[i]? = some y → ys[i]? = some z → Blk X scope fun Y => EJ Y (Γ.set j (.da y)) (Bs i) elt (.da z) (Bs (i + 1))) :
    RJ X Γ B (tLc (iList X.K (WE X e)) (gName j) tYes (WB X scope elt) [j]) (.da (.list ys)) (Bs ds.length) := fun g σ H0 H Ev O Q q =>
  hi g σ H0 H Ev O _ fun v H1 H' t o r => by
    obtain ⟨p, xs, rfl, hxs, rs⟩ := rvL r
    refine ⟨p, rfl, ⟨xs, SqL.of (o.ex _ _ hxs)⟩, fun A hA => ?_⟩
    obtain ⟨off, I0⟩ := lcI_start o hA
    refine lc_list (xs := xs) (fun i H'' => ∃ H2, LcI X.K g H1 H' A (ys.take i) (Bs i) H2 H'') ⟨_, I0⟩ ?_ ?_ ?_
    · rintro i H'' _ ⟨H2, I⟩
      exact SqL.of (I.on.ex _ _ (I.to.ex _ _ hxs))
    · rintro i w H'' hw ⟨H2, I⟩
      obtain ⟨y, hy, ry⟩ := rs.get hw
      have hi2 : i < ys.length := by rw [hl]; exact (List.getElem?_eq_some_iff.mp hy).1
      have hyz : ys[i]? = some ys[i] := List.getElem?_eq_getElem hi2
      refine lc_turn off (Ev.mono t.ex) I (ry.mono I.to.ex) (by rw [List.length_take]; omega) (hs i y _ hy hyz) fun H3 H3' J => ⟨H3, ?_⟩
      rw [List.take_add_one, hyz]; exact J
    · rintro H'' ⟨H2, I⟩
      rw [rs.length, ← hl, List.take_length] at I
      obtain ⟨H3, t3, o3, r3⟩ := lcI_end off t I
      rw [hl] at o3
      exact q _ H3 H'' t3 o3 r3
theorem ej_lc (nd : X.N.Nodup) (hc : X.calm = true) (ok : BlkOk X.N X.env.scope scope [(x, j)])
    (hg : ∀ (s : Shared) (H : Hp) (C : Addr) (cl : List (Str × Addr)) (fp : List Addr), PG (X.blk s H scope (compEnvC scope cl C X.env) fp) (.Name x px) (gName j))
    (r : RJ X Γ B (tLc (iList X.K (WE X e)) (gName j) tYes (WB X scope elt) [j]) d B1) (hq : ∀ x, foldedSetIterable e X.env x = pure x := by intro _; rfl) :
    EJ X Γ B (.ListComp elt [⟨.Name x px, e, [], 0⟩] scope pos) d B1 := ej_of (pe_lc (own := [(x, j)]) hc nd (pi_list (we e)) ok hg (fun _ _ _ _ _ => pts_nil) (wb scope elt) hq) r
end
end
end Gd
namespace Gd
open PySem PySem.Spec PyProof.Rows L2
section
variable {X : Cx} {Γ : List VD} {B B1 B2 B3 B' : Bag} {e a b c : Expr} {es : List Expr} {d da db dc : VD} {pos p pos' : Pos} {rest ss s1 s2 : List Stmt} {E : En}
def CDivX (_ j : Int) : Prop := j ≠ 0 ∧ j.natAbs.log2 < 9000
theorem op_fdivX : OpR X (binaryOp .FloorDiv) (rI CDivX fun i j => .int (i.fdiv j)) :=
  opI fun i j _ _ _ _ _ hc q => PyProof.Rows.floordiv_int hc.1 q (.inl (PyProof.noPylong_of_log2 hc.2))
theorem ej_fdivX {i j : Int} (ha : EJ X Γ B a (.da (.int i)) B1) (hb : EJ X Γ B1 b (.da (.int j)) B2) (hc : CDivX i j) : EJ X Γ B (.BinOp a .FloorDiv b pos) (.da (.int (i.fdiv j))) B2 :=
  ej_iic ha hb op_fdivX hc fun _ => .int _
theorem ej_gcd {i j : Int} (hm : X.mg "gcd" = some (.builtin "math.gcd")) (ha : EJ X Γ B a (.da (.int i)) B1) (hb : EJ X Γ B1 b (.da (.int j)) B2) (hg : Gl X "gcd" := by rfl)
    (h1 : starEach [a, b] X.env = (false, eval a X.env) :: starEach [b] X.env := by rfl) (h2 : starEach [b] X.env = (false, eval b X.env) :: starEach [] X.env := by rfl)
    (hpl : (backTo pos (starEach [b] X.env)).any (·.1) = false := by rfl) :
    EJ X Γ B (.Call (.Name "gcd" p) [a, b] [] pos) (.da (.int (Nat.gcd i.natAbs j.natAbs : Nat))) B2 := fun g σ H0 H E O Q q =>
  ⟨_, pe_callBfun cr_gcd hg hm (wa [a, b]) (by decide) h1 hpl, (aj_cons ha (aj_cons hb aj_nil h2) h1) g σ H0 H E O _ fun vs H1 H' t o r => by
    obtain ⟨v, w, rfl, r1, r2⟩ := rv2 r
    exact ⟨i, j, by rw [rvI r1, rvI r2], q _ _ _ t o (Rp.int _)⟩⟩
theorem ej_tupleL {ds : List PyData} (hm : X.mg "tuple" = none) (ha : EJ X Γ B a (.da (.list ds)) B1) (hs : starEach [a] X.env = [(false, eval a X.env)] := by rfl) (hg : Gl X "tuple" := by rfl) :
    EJ X Γ B (.Call (.Name "tuple" p) [a] [] pos) (.da (.tuple ds)) B1 :=
  ej_callTy call_tuple_of hm (aj_cons ha aj_nil hs) (fun g vs H0 H O r Q q => by
    obtain ⟨v, rfl, h⟩ := rv1 r
    obtain ⟨p, xs, rfl, hx, rs⟩ := rvL h
    refine ⟨p, xs, rfl, .inl ⟨SqL.of (O.ex _ _ hx), fun n hn => ?_⟩⟩
    obtain ⟨t2, o2⟩ := laid (o := .tup xs) O hn
    exact q _ _ _ t2 o2 (Rp.tup (SqT.of upd_same) (rs.mono t2.ex))) (hg := hg) (he := hs)
theorem RpAll.rep {K : PySem.W.Frag} {H : Hp} {xs : List V} {ds : List PyData} (r : RpAll K H xs ds) : ∀ n : Nat, RpAll K H (List.replicate n xs).flatten (List.replicate n ds).flatten
  | 0 => .nil
  | n + 1 => by
    rw [List.replicate_succ, List.flatten_cons, List.replicate_succ, List.flatten_cons]
    exact r.app (RpAll.rep r n)
theorem ej_rep {ds : List PyData} {n : Nat} (ha : EJ X Γ B a (.da (.list ds)) B1) (hb : EJ X Γ B1 b (.da (.int n)) B2) (hn : n ≤ 100) (hl : ds.length ≤ 1000) :
    EJ X Γ B (.BinOp a .Mult b pos) (.da (.list (List.replicate n ds).flatten)) B2 :=
  ej_bin ha hb (fun _ _ h1 h2 => pe_op op_rep h1 h2) fun g v w H0 H O r1 r2 Q q => by
    obtain ⟨p, xs, rfl, hx, rs⟩ := rvL r1
    refine ⟨p, (n : Int), xs, rfl, rvI r2, O.ex _ _ hx, by omega, by omega, ?_, fun m hm => ?_⟩
    · rw [Int.toNat_natCast, rs.length]
      have : ds.length * n ≤ 1000 * 100 := Nat.mul_le_mul hl hn
      exact Nat.le_trans this (by decide)
    · rw [Int.toNat_natCast]
      obtain ⟨t2, o2⟩ := laid (o := .lst (List.replicate n xs).flatten) O hm
      exact q _ _ _ t2 o2 (Rp.lst upd_same ((rs.rep n).mono t2.ex))
theorem inV_strs (x : Str) : ∀ ss : List Str, inV (.str x) (ss.map V.str) = ss.any fun s => decide (s = x)
  | [] => rfl
  | s :: ss => by
    show (eqV (.str s) (.str x) || inV (.str x) (ss.map V.str)) = (decide (s = x) || ss.any fun s => decide (s = x))
    rw [inV_strs x ss]
    have e : eqV (.str s) (.str x) = decide (s = x) := by
      first
        | rfl
        | (unfold eqV; exact Bool.beq_eq_decide_eq s x)
        | (simp [eqV])
    rw [e]
theorem RpAll.strs_of {K : PySem.W.Frag} {H : Hp} : ∀ {xs : List V} {ns : List Str}, RpAll K H xs (ns.map PyData.str) → xs = ns.map V.str
  | [], [], _ => rfl
  | _ :: _, n :: ns, .cons h r => by
    cases h
    rw [RpAll.strs_of r]; rfl
theorem tj_inT {x : Str} {ss : List Str} (ha : EJ X Γ B a (.da (.str x)) B1) (hb : EJ X Γ B1 b (.da (.tuple (ss.map .str))) B2) (hm : behindInMarks .In b = false := by rfl) :
    TJ X Γ B (.Compare a [.In] [b] pos) (ss.any fun s => decide (s = x)) B2 :=
  tj_cmp ha hb op_in_seq hm fun g v w H0 H O r1 r2 Q q => by
    obtain ⟨p, xs, rfl, hx, rs⟩ := rvT r2
    rw [rvS r1]
    have e := rs.strs_of
    subst e
    refine ⟨p, _, rfl, .inr (seqT O.ex hx), rfl, ?_, ?_⟩
    · rw [List.all_map]; exact List.all_eq_true.mpr fun _ _ => rfl
    · rw [if_neg (by decide), inV_strs]; exact q _ _ To.refl O
end
theorem sj_law {X : Cx} {Γ : List VD} {B B1 : Bag} {e : Expr} {x : Str} {pos pos' : Pos} {rest : List Stmt} {ns : List Int} {y : Int} (i : Nat) (nd : X.N.Nodup)
    (h : EJ X Γ B e (.da (.list [.int 0, .int y, .int 0, .list (ns.map .int)])) B1)
    (k : SJ X ((List.replicate Γ.length VD.no).set i .bag) ⟨0, y, 0, ns⟩ rest { nx := fun _ _ => False, rt := fun r _ => r = .bool true })
    (hi : X.N[i]? = some x := by rfl) (hx : Loc X.env.scope x := by first | exact Or.inl rfl | exact Or.inr rfl) (hs : swapsWith e (some (.Name x pos')) pos.line X.env = pure false := by rfl)
    (hf : X.fn x = true ∨ X.env.scope.names.lookup x = some .local := by first | exact Or.inl rfl | exact Or.inr rfl)
    {σ : L2.St} {H0 H : Hp} (Ev : EnvD X.K none H0 σ Γ) (O : On X.K none B H0 H) {Q : VK} (q : ∀ H', Q (.bl true) H') :
    WS X (.Assign [.Name x pos'] e pos :: rest) { nx := fun _ H' => Q .non H', rt := Q } σ H :=
  ⟨_, pss_cons (ps_set nd hi hx (we e) hs hf) (ws rest), h none σ H0 H Ev O _ fun v H1 H' t o r => by
    obtain ⟨p, xs, rfl, hp, rs⟩ := rvL r
    cases rs with
    | cons r0 rs =>
    cases rs with
    | cons r1 rs =>
    cases rs with
    | cons r2 rs =>
    cases rs with
    | cons r3 rs =>
    cases rs
    cases r0; cases r1; cases r2
    cases r3 with
    | lst hl rl =>
    rename_i l zs
    have ez := rl.ints_of
    subst ez
    have hlp : l ≠ p := by
      intro z
      rw [z, hp] at hl
      have e1 := HO.lst.inj (Option.some.inj hl)
      cases ns with
      | nil => cases e1
      | cons n ns =>
        cases ns with
        | nil => cases e1
        | cons m ns =>
          cases ns with
          | nil => cases e1
          | cons m2 ns =>
            cases ns with
            | nil => cases e1
            | cons m3 ns => cases e1
    refine k (some (p, l)) _ (fun b => if b = p then none else H1 b) H' ⟨?_, ?_⟩ ⟨fun b u hb => ?_, fun b m hb => ?_⟩ _ ⟨?_, ?_, ?_, ?_⟩
    · rw [List.length_set, List.length_set, List.length_replicate]; exact Ev.len
    · intro j dd hj hne
      by_cases hij : i = j
      · subst hij
        have hlt : i < Γ.length := by
          have := (List.getElem?_eq_some_iff.mp hj).1
          rwa [List.length_set, List.length_replicate] at this
        rw [List.getElem?_set_self (by rw [List.length_replicate]; exact hlt)] at hj
        cases hj
        exact ⟨.ref p, List.getElem?_set_self (by rw [Ev.len]; exact hlt), p, l, rfl, rfl⟩
      · rw [List.getElem?_set_ne hij, List.getElem?_replicate] at hj
        split at hj
        · cases hj; exact absurd rfl hne
        · cases hj
    · by_cases hb2 : b = p
      · rw [if_pos hb2] at hb; cases hb
      · rw [if_neg hb2] at hb; exact o.ex _ _ hb
    · cases hb
      refine ⟨if_pos rfl, o.ex _ _ hp, ?_⟩
      rw [if_neg hlp]; exact hl
    · intro _ _ _ _ _ z; exact z.elim
    · rintro r2 B2 v H2 H2' rfl _ _ rv
      cases rv; exact q _
    · intro _ _ _ _ _ z; exact z.elim
    · intro _ _ _ _ _ z; exact z.elim⟩
def spLaw (K : PySem.W.Frag) : Sp := fun vs H Q _ => ∃ (a : Addr) (ns : List Int), vs = [.ref a] ∧ SqL K H a (ns.map V.int) ∧ ns.length ≤ 63 ∧ ∀ H', Q (.bl true) H'
theorem law_callG {P : Program} {w : World} {K : PySem.W.Frag} {mg mb : Str → Option Value} {k : Nat} {fa a : Addr} {fd : FuncData} {x : Str} {sp : Sp} {sx : Shared} {vs : List Value} {ns : List Int}
    (KI : K.In sx.heap) (hn1 : sx.heap.Ns mainGlobals mg) (hb : sx.heap.Ns builtinsNs mb) (hbb : ∀ x : Str, x ≠ "__name__" → mb x = bootBuiltins x) (hl0 : sx.heap.NoLimit) (hg : sx.gens = #[])
    (ha : sx.heap.get? a = some { cls := .type "list", data := .seq vs.toArray }) (hi : IntsAre vs ns) (hl : ns.length ≤ sizeLine) (hr : Room k callerA)
    (F : ∀ base : Heap, K.In base → base.Ns mainGlobals mg → FnG P w K mg base k fa fd [x] sp) (hbind : ∀ (s : Shared) (u : Value), BindsTo s fd ⟨[u], []⟩ [(x, u)])
    (hsp : ∀ H : Hp, SqL K H a (ns.map V.int) → sp [.ref a] H (fun v _ => v = .bl true) fun _ _ _ => False) :
    codeAny (model P w) callerA (.call (.ref fa) ⟨[.ref a], []⟩) (fun r s' => r = Except.ok (.ret (.bool true)) ∧ OldK sx.heap s'.heap ∧ s'.os = sx.os ∧ AllBare s'.gens) sx := by
  have rv := vals_ints hi
  have lenV := hi.length
  have main : ∀ H : Hp, Only H → SqL K H a (ns.map V.int) → HOk P w H sx.heap → (∀ b, H b ≠ none → b = a) → (H a ≠ none → K.lookup a = none) →
      codeAny (model P w) callerA (.call (.ref fa) ⟨[.ref a], []⟩) (fun r s' => r = Except.ok (.ret (.bool true)) ∧ OldK sx.heap s'.heap ∧ s'.os = sx.os ∧ AllBare s'.gens) sx := by
    intro H hO hS hok hA hK
    have free : ∀ b, (∃ o, sx.heap.get? b = some o ∧ ∃ es ep, o.data = .dict es ep) → H b = none := by
      rintro b ⟨o, e, es, ep, d⟩
      cases q : H b with
      | none => rfl
      | some u =>
        have eb : b = a := hA b (by simp [q])
        rw [eb, ha] at e
        cases e
        have dd : Data.seq vs.toArray _ = Data.dict es ep := d
        cases dd
    have nsK : ∀ {b : Addr} {m : Str → Option Value}, sx.heap.Ns b m → (hidT sx.heap H).Ns b m := by
      rintro b m ⟨o, es, ep, e, dd, r⟩
      exact ⟨o, es, ep, hidT_get e (free b ⟨o, e, es, ep, dd⟩), dd, r⟩
    have hKb : K.In (hidT sx.heap H) := by
      intro b o e
      refine hidT_get (KI b o e) ?_
      cases q : H b with
      | none => rfl
      | some u =>
        have eb : b = a := hA b (by simp [q])
        rw [eb, hK (by rw [← eb]; simp [q])] at e
        cases e
    obtain ⟨mc, l1, l2⟩ := hl0
    have hM : Mod K mg (hidT sx.heap H) := ⟨hKb, nsK hn1, ⟨mb, nsK hb, hbb⟩, mc, nsK l1, l2⟩
    have e0 : Env0 P w K mg (hidT sx.heap H) callerA [] sx H :=
      ⟨rfl, hM, fun b o e => of_hidT e, Nat.le_of_eq (hidT_size _ _), trivial, fun b z => absurd (show b ∈ ([] : List Addr) from z) (by simp), hok, .of_eq hg⟩
    have cc := (F _ hKb (nsK hn1)).run callerA [] sx H ⟨[.ref a], []⟩ [.ref a] [.ref a] _ _ rfl hr e0 (hbind sx (.ref a)) (.cons rfl .nil) (hsp H hS)
    refine codeAny_mono cc fun res s2 h => ?_
    match res, h with
    | .error _, h => exact h.elim
    | .ok .next, h => exact h.elim
    | .ok .brk, h => exact h.elim
    | .ok .cont, h => exact h.elim
    | .ok (.ret u), ⟨v, H', os, bare, un, hok', r', q⟩ =>
      have q' : v = .bl true := q
      subst q'
      obtain rfl : u = .bool true := r'
      refine ⟨rfl, .of_keep fun b o e => ?_, os, bare⟩
      cases q : H b with
      | none => exact un.keep b o e q (fun z => absurd (show b ∈ ([] : List Addr) from z) (by simp)) (by simp)
      | some u =>
        cases hO b with
        | inl z => rw [q] at z; cases z
        | inr z =>
          obtain ⟨ob, xs, z⟩ := z
          obtain ⟨e1, _⟩ := hok b _ z
          obtain ⟨e2, _⟩ := hok' b _ (un.frzs b ob _ z)
          rw [e] at e1; cases e1; exact e2
  cases hk : K.lookup a with
  | some o =>
    have e := KI a o hk
    rw [ha] at e
    cases e
    refine main (fun _ => none) (fun _ => .inl rfl) (.inr ⟨_, vs.toArray, _, hk, rfl, rfl, rfl, by rw [List.size_toArray, lenV]; exact hl, by simpa using rv⟩) ?_ (fun b z => absurd rfl z) fun z => absurd rfl z
    intro b u z
    have z' : (none : Option HO) = some u := z
    cases z'
  | none =>
    have at1 : ∀ b, b ≠ a → (if b = a then some (HO.frz { cls := .type "list", data := .seq vs.toArray } (.lst (ns.map V.int))) else none) = none := fun b h => if_neg h
    refine main (fun b => if b = a then some (.frz { cls := .type "list", data := .seq vs.toArray } (.lst (ns.map V.int))) else none) (fun b => ?_) (.inl (.inr ⟨_, if_pos rfl⟩)) (fun b u z => ?_) (fun b z => ?_) fun _ => hk
    · by_cases hb : b = a
      · exact Or.inr ⟨_, _, if_pos hb⟩
      · exact .inl (if_neg hb)
    · by_cases hb : b = a
      · have zz := (if_pos hb).symm.trans z
        cases zz
        subst hb
        exact ⟨ha, by simpa using hl, vs, _, rv, ha⟩
      · have z' := (at1 b hb).symm.trans z
        cases z'
    · by_cases hb : b = a
      · exact hb
      · exact absurd (at1 b hb) z
theorem walk_ofG {l : PySem.W.OpenLaw} {k : Nat} {q : Program} {loose : List Str} {XP : (Str → Option Value) → Heap → Prop} {YP : World → Heap → Prop} {d : DefRec} {K : Params → PySem.W.Frag} {x : Str}
    (hn : l.most = some 63) (hdf : d.params.defaults = []) (hr : Room k callerA) (hY : ∀ (w : World) (h : Heap), YP w h → (K w.params).In h)
    (F : ∀ (w : World) (mg : Str → Option Value) (fa : Addr) (h : Heap), (K w.params).In h → h.Ns mainGlobals mg → mg d.name = some (.ref fa) →
      ∃ fd : FuncData, (∀ (s : Shared) (u : Value), BindsTo s fd ⟨[u], []⟩ [(x, u)]) ∧ ∀ base : Heap, (K w.params).In base → base.Ns mainGlobals mg → FnG l.prog w (K w.params) mg base k fa fd [x] (spLaw (K w.params))) :
    PySem.W.WalkO q loose XP YP l.row.toRowW d [] fun f vs => PySem.call f vs := by
  refine Att.attach_call hn hdf fun w sw sx mg mb fa o pm cd doc a vs ns G Y ho hd hcd hmg hobj hints hlen hg => ?_
  have KI := hY w _ Y
  have ⟨fd, hb, hF⟩ := F w mg fa _ KI G.T.g hmg
  exact law_callG KI G.T.g G.T.b G.T.builtins G.T.nolimit hg hobj hints (Nat.le_trans hlen (by decide)) hr hF hb fun H hS => ⟨a, ns, rfl, hS, hlen, fun _ => rfl⟩
end Gd
namespace Gd
open PySem PySem.Spec PyProof.Rows L2
def Bd (n : Nat) (i : Int) : Prop := i.natAbs < 2 ^ n
theorem Bd.le {n m : Nat} {i : Int} (h : Bd n i) (e : n ≤ m) : Bd m i := Nat.lt_of_lt_of_le h (Nat.pow_le_pow_right (by decide) e)
theorem Bd.mul {n m : Nat} {i j : Int} (h : Bd n i) (k : Bd m j) : Bd (n + m) (i * j) := wide_lt h k
theorem Bd.add {n m : Nat} {i j : Int} (h : Bd n i) (k : Bd m j) : Bd (n + m + 1) (i + j) := by
  have h1 := h.le (Nat.le_add_right n m)
  have h2 := k.le (Nat.le_add_left m n)
  have := Int.natAbs_add_le i j
  unfold Bd at *
  rw [Nat.pow_succ]; omega
theorem Bd.neg {n : Nat} {i : Int} (h : Bd n i) : Bd n (-i) := by unfold Bd; rw [Int.natAbs_neg]; exact h
theorem Bd.sub {n m : Nat} {i j : Int} (h : Bd n i) (k : Bd m j) : Bd (n + m + 1) (i - j) := by
  rw [Int.sub_eq_add_neg]; exact h.add k.neg
theorem Bd.abs {n : Nat} {i : Int} (h : Bd n i) : Bd n (if i < 0 then -i else i) := by
  split
  · exact h.neg
  · exact h
theorem Bd.mod {n : Nat} {i j : Int} (k : Bd n j) (h : 0 < j) : Bd n (i % j) := by
  have h1 := Int.emod_nonneg i (Int.ne_of_gt h)
  have h2 := Int.emod_lt_of_pos i h
  unfold Bd at *; omega
theorem Bd.nat {n a : Nat} (h : a < 2 ^ n) : Bd n (a : Int) := h
theorem cm {n m : Nat} {i j : Int} (h : Bd n i) (k : Bd m j) (e : n + m + 2 ≤ 1000000 := by decide) : CMulW i j :=
  wide_mul (h.le (Nat.le_succ n)) (k.le (Nat.le_succ m)) (Nat.succ_pos _) (Nat.succ_pos _) (by omega)
theorem cdv {n : Nat} {i j : Int} (k : Bd n j) (h : 0 < j) (e : n + 1 ≤ 9000 := by decide) : CDivW i j := wide_div h (k.le (Nat.le_succ n)) (Nat.succ_pos _) e
theorem cdx {n : Nat} {i j : Int} (k : Bd n j) (h : j ≠ 0) (e : n + 1 ≤ 9000 := by decide) : CDivX i j := ⟨h, (wide_div (i := i) (j := ((j.natAbs : Nat) : Int)) (by omega) (by rw [Int.natAbs_natCast]; exact k.le (Nat.le_succ n)) (Nat.succ_pos _) e).2⟩
section
variable {X : Cx} {Γ : List VD} {B B1 B2 B3 B' : Bag} {e a b c : Expr} {es : List Expr} {d da db dc : VD} {pos p pos' : Pos} {rest ss s1 s2 : List Stmt} {E : En}
def AD (X : Cx) (Γ : List VD) (B : Bag) (es : List Expr) (ds : List PyData) (B' : Bag) : Prop := AJ X Γ B es (ds.map .da) B'
theorem ad_nil : AD X Γ B [] [] B := aj_nil
theorem ad_cons {y : PyData} {ds : List PyData} (h : EJ X Γ B e (.da y) B1) (r : AD X Γ B1 es ds B2) (hs : starEach (e :: es) X.env = (false, eval e X.env) :: starEach es X.env := by rfl) : AD X Γ B (e :: es) (y :: ds) B2 := aj_cons h r hs
theorem ej_tupD {ds : List PyData} {k} (h : AD X Γ B es ds B1) (hl : ds.length ≤ 1000 := by decide) : EJ X Γ B (.Tuple es k pos) (.da (.tuple ds)) B1 := ej_tup h hl
theorem ej_lstD {ds : List PyData} (h : AD X Γ B es ds B1) (hl : ds.length ≤ 1000 := by decide) : EJ X Γ B (.List es pos) (.da (.list ds)) B1 := ej_lst h hl
theorem ej_at {ds : List PyData} {i : Int} {y : PyData} {j} (ha : EJ X Γ B a (.da (.tuple ds)) B1) (h : atI ds i = some y := by rfl) : EJ X Γ B (.Subscript a (.Constant (.int i) j p) pos) (.da y) B1 :=
  ej_ixT ha ej_int h fun _ _ => rfl
theorem ej_ifV {x : Bool} {u v : PyData} (h : TJ X Γ B c x B1) (h1 : x = true → EJ X Γ B1 a (.da u) B2) (h2 : x = false → EJ X Γ B1 b (.da v) B2) : EJ X Γ B (.IfExp c a b pos) (.da (bif x then u else v)) B2 :=
  ej_if h (fun e => by subst e; exact h1 rfl) fun e => by subst e; exact h2 rfl
theorem ej_ifI {x : Bool} {u v : Int} (h : TJ X Γ B c x B1) (h1 : x = true → EJ X Γ B1 a (.da (.int u)) B2) (h2 : x = false → EJ X Γ B1 b (.da (.int v)) B2) : EJ X Γ B (.IfExp c a b pos) (.da (.int (bif x then u else v))) B2 :=
  ej_if h (fun e => by subst e; exact h1 rfl) fun e => by subst e; exact h2 rfl
theorem sj_ifM {x : Bool} (M : List VD → Bag → Prop) (h : TJ X Γ B c x B1) (h1 : x = true → SJ X Γ B1 s1 { E with nx := M }) (h2 : x = false → SJ X Γ B1 s2 { E with nx := M }) (k : ∀ Γ' B', M Γ' B' → SJ X Γ' B' rest E) :
    SJ X Γ B (.If c s1 s2 pos :: rest) E :=
  sj_if h (fun e => sj_mono (h1 e) (fun Γ' B' q => k Γ' B' q) (fun _ _ q => q) (fun _ _ q => q) (fun _ _ q => q)) (fun e => sj_mono (h2 e) (fun Γ' B' q => k Γ' B' q) (fun _ _ q => q) (fun _ _ q => q) (fun _ _ q => q))
theorem ej_mulC {i j : Int} (ha : EJ X Γ B a (.da (.int i)) B1) (hb : EJ X Γ B1 b (.da (.int j)) B2) (hc : CMul i j) : EJ X Γ B (.BinOp a .Mult b pos) (.da (.int (i * j))) B2 :=
  ej_iic ha hb op_mul hc fun _ => .int _
theorem eqv_refl_of {y : PyData} (h : SeqAt.shaped y = true) : PyData.eqv y y = true := SeqAt.eqv_refl y (SeqAt.canLay_of_shaped h)
end
def At (K : PySem.W.Frag) (mg : Str → Option Value) (x : Str) (st : Stmt) (ps : List Str) : Prop :=
  ∃ f fd, Fun K x x st f fd ∧ mg x = some (.ref f) ∧ Binds K fd ps []
theorem cal_at {P : Program} {w : World} {K : PySem.W.Frag} {mg : Str → Option Value} {base : Heap} {x : Str} {st : Stmt}
    {N ps : List Str} {k : Nat} {R : Rel} (T : At K mg x st ps) (S : FnScope N ps (defScope st))
    (len : ∀ Γ B r B', R Γ B r B' → Γ.length = ps.length)
    (body : ∀ (f : Addr) (cdv : Value) (A : Around) (out : List Env) (s : Shared) (H : Hp) (E : XK),
      Gx k (cxOf CX0 P w K mg base N x (defScope st) f cdv A out s H E).nox → ∀ Γ B r B', R Γ B r B' →
      SJ (cxOf CX0 P w K mg base N x (defScope st) f cdv A out s H E).nox (Γ ++ List.replicate (N.length - ps.length) .no) B (defBody st)
        { nx := fun _ B2 => r = .none ∧ B2 = B', rt := fun d B2 => d = r ∧ B2 = B' }) :
    Cal P w K mg base x (k + 1) R := by
  obtain ⟨f, fd, F, hm, hb⟩ := T
  exact cal_of F hm hb S len fun cdv A out s H E G => body f cdv A out s H E G
end Gd
namespace Fr
open Gd PySem
open scoped Rat
def fq (q : Rat) : PyData := .tuple [.int q.num, .int (q.den : Int)]
def com (n d : Int) : Int := if d < 0 then -((Nat.gcd n.natAbs d.natAbs : Nat) : Int) else ((Nat.gcd n.natAbs d.natAbs : Nat) : Int)
theorem com_ne {n d : Int} (h : d ≠ 0) : com n d ≠ 0 := by
  have : 0 < Nat.gcd n.natAbs d.natAbs := Nat.gcd_pos_of_pos_right _ (by omega)
  unfold com; split <;> omega
theorem com_bd {n d : Int} {k : Nat} (h : d ≠ 0) (b : Bd k d) : Bd k (com n d) := by
  have h1 : Nat.gcd n.natAbs d.natAbs ≤ d.natAbs := Nat.gcd_le_right _ (by omega)
  unfold Bd com at *; split <;> omega
theorem red_num {n d : Int} (h : d ≠ 0) : n.fdiv (com n d) = (n /. d).num := by
  rw [Rat.num_divInt]
  have hg : (d.gcd n : Int) = (Nat.gcd n.natAbs d.natAbs : Nat) := by rw [Int.gcd_comm]; rfl
  rw [hg]
  unfold com
  by_cases hd : d < 0
  · rw [if_pos hd, Int.sign_eq_neg_one_of_neg hd, Int.neg_one_mul]
    have := Int.neg_fdiv_neg (-n) ((Nat.gcd n.natAbs d.natAbs : Nat) : Int)
    rw [Int.neg_neg] at this
    rw [this, Int.fdiv_eq_ediv_of_nonneg _ (Int.natCast_nonneg _)]
  · rw [if_neg hd, Int.sign_eq_one_of_pos (by omega), Int.one_mul, Int.fdiv_eq_ediv_of_nonneg _ (Int.natCast_nonneg _)]
theorem red_den {n d : Int} (h : d ≠ 0) : d.fdiv (com n d) = ((n /. d).den : Int) := by
  rw [Rat.den_divInt, if_neg h]
  have hg : d.gcd n = Nat.gcd n.natAbs d.natAbs := by rw [Int.gcd_comm]; rfl
  rw [hg]
  unfold com
  by_cases hd : d < 0
  · rw [if_pos hd]
    have := Int.neg_fdiv_neg (-d) ((Nat.gcd n.natAbs d.natAbs : Nat) : Int)
    rw [Int.neg_neg] at this
    rw [this, Int.fdiv_eq_ediv_of_nonneg _ (Int.natCast_nonneg _)]
    rw [Int.natCast_ediv]
    have : -d = (d.natAbs : Int) := by omega
    rw [this]
  · rw [if_neg hd, Int.fdiv_eq_ediv_of_nonneg _ (Int.natCast_nonneg _), Int.natCast_ediv]
    have : d = (d.natAbs : Int) := by omega
    conv => lhs; lhs; rw [this]
theorem divInt_bd {n d : Int} {a b : Nat} (h : d ≠ 0) (ha : Bd a n) (hb : Bd b d) : Bd a (n /. d).num ∧ Bd b ((n /. d).den : Int) := by
  constructor
  · rw [← red_num h]
    unfold Bd at *
    refine Nat.lt_of_le_of_lt ?_ ha
    rw [red_num h, Rat.num_divInt]
    refine Nat.le_trans (Int.natAbs_ediv_le_natAbs _ _) ?_
    rw [Int.natAbs_mul, Int.natAbs_sign_of_ne_zero h, Nat.one_mul]
    exact Nat.le_refl _
  · unfold Bd at *
    rw [Int.natAbs_natCast, Rat.den_divInt, if_neg h]
    exact Nat.lt_of_le_of_lt (Nat.div_le_self _ _) hb
theorem den_pos (q : Rat) : (0 : Int) < (q.den : Int) := Int.natCast_pos.mpr q.den_pos
theorem den_ne (q : Rat) : (q.den : Int) ≠ 0 := Int.ne_of_gt (den_pos q)
theorem self_div (q : Rat) : q.num /. (q.den : Int) = q := Rat.num_divInt_den q
theorem add_div (x y : Rat) : (x.num * (y.den : Int) + y.num * (x.den : Int)) /. ((x.den : Int) * (y.den : Int)) = x + y := by
  rw [← Rat.divInt_add_divInt _ _ (den_ne x) (den_ne y), self_div, self_div]
theorem mul_div (x y : Rat) : (x.num * y.num) /. ((x.den : Int) * (y.den : Int)) = x * y := by
  rw [← Rat.divInt_mul_divInt, self_div, self_div]
end Fr
namespace Gd
open PySem PySem.Spec PyProof.Rows L2
mutual
def nice : PyData → Bool
  | .none => true
  | .bool _ => true
  | .int i => decide (Nat.log2 i.natAbs < 1920)
  | .str x => x.cps.all fun c => c < 0x110000
  | .list xs => niceAll xs
  | .tuple xs => niceAll xs
  | .dict _ => false
def niceAll : List PyData → Bool
  | [] => true
  | x :: xs => nice x && niceAll xs
end
mutual
theorem nice_sh : ∀ d : PyData, nice d = true → d.showable = true
  | .none, _ => by simp only [PyData.showable]
  | .bool _, _ => by simp only [PyData.showable]
  | .int i, h => by simp only [nice] at h; simp only [PyData.showable]; exact h
  | .str _, _ => by simp only [PyData.showable]
  | .list xs, h => by simp only [nice] at h; simp only [PyData.showable]; exact nice_shA xs h
  | .tuple xs, h => by simp only [nice] at h; simp only [PyData.showable]; exact nice_shA xs h
  | .dict _, h => by simp only [nice] at h; cases h
theorem nice_shA : ∀ ds : List PyData, niceAll ds = true → PyData.showableAll ds = true
  | [], _ => by
    simp only [PyData.showableAll]
  | x :: xs, h => by
    simp only [niceAll, Bool.and_eq_true] at h
    simp only [PyData.showableAll, Bool.and_eq_true]; exact ⟨nice_sh x h.1, nice_shA xs h.2⟩
end
mutual
theorem nice_nd : ∀ d : PyData, nice d = true → d.hasDict = false
  | .none, _ => by simp only [PyData.hasDict]
  | .bool _, _ => by simp only [PyData.hasDict]
  | .int i, h => by simp only [PyData.hasDict]
  | .str _, _ => by simp only [PyData.hasDict]
  | .list xs, h => by simp only [nice] at h; simp only [PyData.hasDict]; exact nice_ndA xs h
  | .tuple xs, h => by simp only [nice] at h; simp only [PyData.hasDict]; exact nice_ndA xs h
  | .dict _, h => by simp only [nice] at h; cases h
theorem nice_ndA : ∀ ds : List PyData, niceAll ds = true → PyData.hasDictAll ds = false
  | [], _ => by simp only [PyData.hasDictAll]
  | x :: xs, h => by
    simp only [niceAll, Bool.and_eq_true] at h
    simp only [PyData.hasDictAll, Bool.or_eq_false_iff]; exact ⟨nice_nd x h.1, nice_ndA xs h.2⟩
end
mutual
theorem nice_lay : ∀ d : PyData, nice d = true → d.canLay0 = true
  | .none, _ => by simp only [PyData.canLay0]
  | .bool _, _ => by simp only [PyData.canLay0]
  | .int i, h => by simp only [PyData.canLay0]
  | .str _, h => by simp only [nice] at h; simp only [PyData.canLay0]; exact h
  | .list xs, h => by simp only [nice] at h; simp only [PyData.canLay0]; exact nice_layA xs h
  | .tuple xs, h => by simp only [nice] at h; simp only [PyData.canLay0]; exact nice_layA xs h
  | .dict _, h => by simp only [nice] at h; cases h
theorem nice_layA : ∀ ds : List PyData, niceAll ds = true → PyData.canLayAll0 ds = true
  | [], _ => by simp only [PyData.canLayAll0]
  | x :: xs, h => by
    simp only [niceAll, Bool.and_eq_true] at h
    simp only [PyData.canLayAll0, Bool.and_eq_true]; exact ⟨nice_lay x h.1, nice_layA xs h.2⟩
end
mutual
theorem nice_short : ∀ d : PyData, nice d = true → d.leavesShort 1921 = true
  | .none, _ => by simp only [PyData.leavesShort]
  | .bool _, _ => by simp only [PyData.leavesShort]
  | .int i, h => by
    simp only [nice, decide_eq_true_eq] at h
    simp only [PyData.leavesShort, decide_eq_true_eq, PyData.shown_int]
    exact int_text_len_1921 h
  | .str x, h => by
    simp only [nice] at h
    simp only [PyData.leavesShort, List.all_eq_true, decide_eq_true_eq]
    intro c hc
    have h2 := Array.all_eq_true'.mp h c (by simpa using hc)
    have h3 : c < 0x110000 := of_decide_eq_true h2
    omega
  | .list xs, h => by simp only [nice] at h; simp only [PyData.leavesShort]; exact nice_shortA xs h
  | .tuple xs, h => by simp only [nice] at h; simp only [PyData.leavesShort]; exact nice_shortA xs h
  | .dict _, h => by simp only [nice] at h; cases h
theorem nice_shortA : ∀ ds : List PyData, niceAll ds = true → PyData.leavesShortAll 1921 ds = true
  | [], _ => by simp only [PyData.leavesShortAll]
  | x :: xs, h => by
    simp only [niceAll, Bool.and_eq_true] at h
    simp only [PyData.leavesShortAll, Bool.and_eq_true]; exact ⟨nice_short x h.1, nice_shortA xs h.2⟩
end
structure Okd (d : PyData) : Prop where
  nice : Gd.nice d = true
  dp : d.depth ≤ 60
  bulk : d.bulk ≤ 5000
theorem Okd.shows {d : PyData} (h : Okd d) : Shows d := ⟨nice_sh d h.nice, nice_nd d h.nice, h.dp, by
  have h1 := PyData.shown_le_bulk 1921 (by decide) d (nice_short d h.nice)
  have h2 := h.bulk
  rw [show sizeLine = 16777216 from by decide]
  omega⟩
theorem Okd.shaped {d : PyData} (h : Okd d) : SeqAt.shaped d = true := by
  unfold SeqAt.shaped
  rw [nice_lay d h.nice, Bool.true_and, decide_eq_true_eq]
  have := h.dp; omega
theorem nice_int {n : Nat} {i : Int} (h : Bd n i) (e : n ≤ 1920 := by decide) : nice (.int i) = true := by
  simp only [nice, decide_eq_true_eq]
  by_cases h0 : 0 < n
  · exact Nat.lt_of_lt_of_le (PySem.Flt.log2_lt_of h0 h) e
  · have : n = 0 := by omega
    subst this
    have : i.natAbs = 0 := by unfold Bd at h; omega
    rw [this]; decide
theorem niceAll_cons {d : PyData} {ds : List PyData} (h : nice d = true) (r : niceAll ds = true) : niceAll (d :: ds) = true := by simp only [niceAll, h, r, Bool.and_self]
theorem niceAll_nil : niceAll [] = true := by simp only [niceAll]
theorem nice_list {ds : List PyData} (r : niceAll ds = true) : nice (.list ds) = true := by simp only [nice]; exact r
theorem nice_tuple {ds : List PyData} (r : niceAll ds = true) : nice (.tuple ds) = true := by simp only [nice]; exact r
end Gd
namespace Gd
open PySem PySem.Spec PyProof.Rows L2
theorem at_mk {K : PySem.W.Frag} {h : Heap} {mg : Str → Option Value} {x : Str} {st : Stmt} (ps : List Str) {f : Addr} {oc : Value} {od an : Option Addr} {osl : Array (Option Value)} {kV doc pm cdv ct : Value}
    (X : K.In h) (G : h.Ns mainGlobals mg) (a : PySem.W.nsIn K mainGlobals x = some (some (.ref f)))
    (l : K.lookup f = some ⟨oc, od, .func (PySem.W.fnOf x x (defArgs st) (defBody st) (defScope st) .none kV doc pm an cdv ct), osl⟩) (c : PySem.W.codeIn K cdv x = true) (k : PySem.W.keepIn K (.ref f) = true)
    (b : ∀ (kV doc pm : Value) (an : Option Addr) (cdv ct : Value) (us : List Value), us.length = ps.length → bindArgs (PySem.W.fnOf x x (defArgs st) (defBody st) (defScope st) .none kV doc pm an cdv ct) ⟨us, []⟩ = pure (ps.zip us)) :
    At K mg x st ps := ⟨f, _, fun_mk l c k, PySem.W.mg_of X G a, (fun_mk (st := st) l c k).binds b⟩
theorem law_mk {P : Program} {w : World} {K : PySem.W.Frag} {h : Heap} {mg : Str → Option Value} {st : Stmt} {fa f : Addr} {oc : Value} {od an : Option Addr} {osl : Array (Option Value)} {kV doc pm cdv ct : Value} {n : Nat}
    (X : K.In h) (G : h.Ns mainGlobals mg) (hfa : mg "law" = some (.ref fa)) (a : PySem.W.nsIn K mainGlobals "law" = some (some (.ref f)))
    (l : K.lookup f = some ⟨oc, od, .func (PySem.W.fnOf "law" "law" (defArgs st) (defBody st) (defScope st) .none kV doc pm an cdv ct), osl⟩) (c : PySem.W.codeIn K cdv "law" = true) (k : PySem.W.keepIn K (.ref f) = true)
    (b : ∀ (s : Shared) (v : Value), BindsTo s (PySem.W.fnOf "law" "law" (defArgs st) (defBody st) (defScope st) .none kV doc pm an cdv ct) ⟨[v], []⟩ [("_law_script", v)])
    (H : ∀ (base : Heap) (f : Addr) (fd : FuncData), Fun K "law" "law" st f fd → FnG P w K mg base n f fd ["_law_script"] (spLaw K)) :
    ∃ fd : FuncData, (∀ (s : Shared) (v : Value), BindsTo s fd ⟨[v], []⟩ [("_law_script", v)]) ∧ ∀ base : Heap, K.In base → base.Ns mainGlobals mg → FnG P w K mg base n fa fd ["_law_script"] (spLaw K) := by
  have e := hfa.symm.trans (PySem.W.mg_of X G a)
  cases e
  exact ⟨_, b, fun base _ _ => H base _ _ (fun_mk l c k)⟩
end Gd
namespace Gd
open PySem PySem.Spec PyProof.Rows L2
def keyT (e : Int × Value) : Str := match e.2 with | .str k _ => k | _ => Str.empty
def TxE (w : World) (e : Int × Value) : Prop := ∃ k tk, e.2 = Value.str k tk ∧ e.1 = hashStr w k
structure TxAt (w : World) (l : List Str) (o : Obj) (es : Array (Int × Value)) (t : SetTable) : Prop where
  ex : o.ExactSet
  el : ∀ e ∈ es.toList, TxE w e
  nd : (es.toList.map keyT).Nodup
  me : ∀ k, k ∈ es.toList.map keyT ↔ k ∈ l
  sz : es.size ≤ l.length
  ft : t.fits es.size = true
  ri : Ris t.place.toList
  ld : w.params.followText "set-order" = true ∨ t.led = true
def TxSet (w : World) (h : Heap) (a : Addr) (l : List Str) : Prop := ∃ o es ep t, h.get? a = some o ∧ o.data = .set es ep t ∧ TxAt w l o es t
theorem TxSet.at {w : World} {h h' : Heap} {a : Addr} {l : List Str} (R : TxSet w h a l) (k : ∀ o, h.get? a = some o → h'.get? a = some o) : TxSet w h' a l :=
  let ⟨o, es, ep, t, ho, r⟩ := R; ⟨o, es, ep, t, k o ho, r⟩
section
variable {P : Program} {w : World} {A : Around} {E : Value → Shared → Prop} {s : Shared} {a : Addr} {l : List Str}
theorem tx_elems {es : List (Int × Value)} (g : ∀ e ∈ es, TxE w e) : ElemsOf (PySem.strKind P w) es := fun e he => by
  obtain ⟨k, tk, h1, h2⟩ : TxE w e := g e he
  exact ⟨⟨k, by rw [h1]; exact strKind_is P w k tk, h2⟩, by rw [h1] <;> rfl⟩
theorem tx_is {e : Int × Value} (g : TxE w e) (k : Str) : (PySem.strKind P w).is k e.2 = true ↔ keyT e = k := by
  obtain ⟨k0, tk, h1, h2⟩ := g
  have e1 : keyT e = k0 := by unfold keyT; rw [h1]
  have e2 : (PySem.strKind P w).is k0 e.2 = true := by rw [h1]; exact strKind_is P w k0 tk
  rw [e1]
  exact ⟨fun z => (PySem.strKind P w).inj _ _ _ e2 z, fun z => z ▸ e2⟩
theorem tx_tail {g : Bool → Sem Unit} (hg : ∀ (b : Bool) (s₁ : Shared) (Q' : Unit → Shared → Prop), Q' () s₁ → wpAny (model P w) A (g b) Q' E s₁)
    {o : Obj} {es es1 : Array (Int × Value)} {ep : Nat} {t t2 : SetTable} (ho : s.heap.get? a = some o) (hd : o.data = .set es ep t) (T : TxAt w l o es1 t2) (hb : es1.size < scanBound) {wd : Bool} {R : Option Bool → Shared → Prop}
    (hR : ∀ h', Heap.SameBut a s.heap h' → TxSet w h' a l → R (some true) { s with heap := h' }) :
    wpAny (model P w) A (do storeSet a es1 t2; if (!wd && t2.tooFull) = true then (do g (relayAll t2 es1 (SetTable.grown es1.size)).2.2; storeSet a (relayAll t2 es1 (SetTable.grown es1.size)).1 (relayAll t2 es1 (SetTable.grown es1.size)).2.1; pure (some true)) else pure (some true)) R E s := by
  have ho1 := store_at (t' := t2) (es' := es1) ho hd
  have sb := Heap.SameBut.update s.heap a (Obj.putSet es1 t2)
  refine wpAny_bind (wpAny_storeSet_of ho hd ?_ (fits_of_scanBound hb))
  by_cases c : (!wd && t2.tooFull) = true
  · rw [if_pos c]
    have pm := relayAll_perm t2 es1 (SetTable.grown es1.size); have p2 := relayAll_fits t2 es1 (SetTable.grown es1.size)
    have p3 := relayAll_ris t2 es1 (SetTable.grown es1.size); have p4 := relayAll_led t2 es1 (SetTable.grown es1.size)
    generalize relayAll t2 es1 (SetTable.grown es1.size) = Z at pm p2 p3 p4 ⊢; obtain ⟨es2, t3, gave⟩ := Z
    dsimp only at pm p2 p3 p4 ⊢
    have z : es2.size = es1.size := by rw [← Array.length_toList, pm.length_eq, Array.length_toList]
    refine wpAny_bind (hg _ _ _ (wpAny_bind (wpAny_storeSet_of ho1 rfl ?_ (fits_of_scanBound (by rw [z]; exact hb)))))
    refine wpAny_pure (hR _ (sb.trans (Heap.SameBut.update _ a _)) ⟨_, es2, _, t3, store_at ho1 rfl, rfl, ⟨T.ex, fun e he => T.el e (pm.mem_iff.mp he), (pm.map keyT).nodup_iff.mpr T.nd, fun k => (pm.map keyT).mem_iff.trans (T.me k), ?_, p2, p3, ?_⟩⟩)
    · rw [z]; exact T.sz
    · exact T.ld.imp id fun q => by rw [p4]; exact q
  · rw [if_neg c]
    exact wpAny_pure (hR _ sb ⟨_, es1, _, t2, ho1, rfl, ⟨T.ex, T.el, T.nd, T.me, T.sz, T.ft, T.ri, T.ld⟩⟩)
theorem tx_add {k : Str} {tk : Tok} {Q : Bool → Shared → Prop} (R : TxSet w s.heap a l) (room : l.length + 1 < scanBound)
    (hQ : ∀ b h', Heap.SameBut a s.heap h' → TxSet w h' a (k :: l) → Q b { s with heap := h' }) :
    wpAny (model P w) A (setAddHashed a (.str k tk) ((PySem.strKind P w).hash k)) Q E s := by
  obtain ⟨o, es, ep, t, ho, hd, T⟩ := R
  have hkey : (PySem.strKind P w).is k (.str k tk) = true := strKind_is P w k tk
  have hsc : (Value.str k tk).scannable = true := rfl
  have hel : ElemsOf (PySem.strKind P w) es.toList := tx_elems T.el
  have hb : es.size < scanBound := Nat.lt_of_le_of_lt T.sz (Nat.lt_of_succ_lt room); unfold setAddHashed setAddHashedIn
  refine wpAny_holding (wpAny_bind (wpAny_setState_of ho hd T.ft ?_))
  dsimp only
  rw [byScan_of hsc hb hel]
  simp only [↓reduceIte]
  unfold setAddByScan
  refine wpAny_bind (wpAny_bind (wpAny_rule (wpAny_bind (wpAny_setScan_of hkey ho hd T.ft hel ?_))))
  cases hfi : List.findIdx? (fun e => (PySem.strKind P w).is k e.2) es.toList
  case none =>
    dsimp only
    have hnk : k ∉ es.toList.map keyT := fun z => by
      obtain ⟨e, he, q⟩ := List.mem_map.mp z; have c := List.findIdx?_eq_none_iff.mp hfi e he
      rw [(tx_is (T.el e he) k).2 q] at c; cases c
    have hgw : ∀ (b : Bool) {s₁ : Shared} {Q' : Unit → Shared → Prop}, Q' () s₁ → wpAny (model P w) A (match b with | true => rule "set.scan.the-table-gave-way" | false => pure ()) Q' E s₁ := by
      intro b s₁ Q' q; cases b <;> first | exact wpAny_pure q | exact wpAny_rule q
    have pm := layNew_perm t es ((PySem.strKind P w).hash k) (.str k tk); have p2 := layNew_fits t es ((PySem.strKind P w).hash k) (.str k tk)
    have p3 := layNew_ris t es ((PySem.strKind P w).hash k) (.str k tk) T.ri; have p4 := layNew_led t es ((PySem.strKind P w).hash k) (.str k tk)
    generalize layNew t es ((PySem.strKind P w).hash k) (.str k tk) = Z at pm p2 p3 p4 ⊢; obtain ⟨es1, t1, wd, gave⟩ := Z
    dsimp only at pm p2 p3 p4 ⊢
    rw [Array.toList_push] at pm
    have pc : es1.toList.Perm (((PySem.strKind P w).hash k, Value.str k tk) :: es.toList) := pm.trans (List.perm_append_singleton _ _)
    have pk : (es1.toList.map keyT).Perm (k :: es.toList.map keyT) := pc.map keyT
    have hsz : es1.size = es.size + 1 := by rw [← Array.length_toList, pc.length_eq, List.length_cons, Array.length_toList]
    have T1 : TxAt w (k :: l) o es1 t1 := by
      refine ⟨T.ex, fun e he => ?_, pk.nodup_iff.mpr (List.nodup_cons.mpr ⟨hnk, T.nd⟩), fun i => ?_, ?_, p2, p3, T.ld.imp id fun z => by rw [p4]; exact z⟩
      · rcases List.mem_cons.mp (pc.mem_iff.mp he) with z | z
        · exact z ▸ ⟨k, tk, rfl, rfl⟩
        · exact T.el e z
      · rw [pk.mem_iff, List.mem_cons, List.mem_cons, T.me i]
      · have := T.sz; rw [hsz, List.length_cons]; omega
    have hb1 : es1.size < scanBound := by have := T.sz; omega
    have T2 : TxAt w (k :: l) o es1 { t1 with plain := false } := ⟨T1.ex, T1.el, T1.nd, T1.me, T1.sz, SetTable.fits_plain_off p2, T1.ri, T1.ld⟩
    refine wpAny_bind (hgw _ ?_)
    split
    · refine wpAny_bind ?_; rw [hashByValue_scannable 8 hsc]
      refine wpAny_pure (tx_tail (l := k :: l) ?_ ho hd ?_ hb1 ?_)
      · intro b s₁ Q' q; cases b <;> first | exact wpAny_rule q | exact wpAny_pure q
      · first | exact T2 | (split <;> first | exact T1 | exact T2) | exact T1
      · intro h' sb r; dsimp only; exact wpAny_pure (hQ _ h' sb r)
    · refine wpAny_bind (wpAny_pure ?_); simp only [↓reduceIte]
      refine tx_tail (l := k :: l) ?_ ho hd T1 hb1 ?_
      · intro b s₁ Q' q; cases b <;> first | exact wpAny_rule q | exact wpAny_pure q
      · intro h' sb r; dsimp only; exact wpAny_pure (hQ _ h' sb r)
  case some j =>
    dsimp only; obtain ⟨hj, pj, _⟩ := List.findIdx?_eq_some_iff_getElem.mp hfi
    have hk : k ∈ es.toList.map keyT := List.mem_map.mpr ⟨_, List.getElem_mem hj, (tx_is (T.el _ (List.getElem_mem hj)) k).1 pj⟩
    refine wpAny_pure (wpAny_pure (hQ _ s.heap (Heap.SameBut.refl a s.heap) ⟨o, es, ep, t, ho, hd, ⟨T.ex, T.el, T.nd, fun i => ?_, ?_, T.ft, T.ri, T.ld⟩⟩))
    · rw [List.mem_cons, ← T.me i]
      exact ⟨.inr, fun z => z.elim (fun e => e ▸ hk) id⟩
    · have := T.sz; rw [List.length_cons]; omega
end
end Gd
namespace Gd
open PySem PySem.Spec PyProof.Rows L2
theorem tx_start {w : World} {h : Heap} {a : Addr} (ho : h.get? a = some { cls := .type "set", dict := none, data := .set #[] 0 (.fresh 0 0 (!w.params.followText "set-order")) }) : TxSet w h a [] := by
  refine ⟨_, #[], 0, _, ho, rfl, ⟨⟨rfl, rfl, rfl⟩, fun e he => by simp at he, by simp, fun k => by simp, Nat.le_refl _, rfl, List.Pairwise.nil, ?_⟩⟩; show _ ∨ (!w.params.followText "set-order") = true
  cases w.params.followText "set-order" <;> simp
section
variable {P : Program} {w : World} {A : Around} {s : Shared} {E : Value → Shared → Prop}
theorem tx_loop {I : Addr} {fp wr : List Addr} {G : Array GenState → Array GenState → Prop} {n : Nat} {Pv : Nat → Value → Prop} {St : Nat → Shared → Prop} {R : Result → Shared → Prop}
    (W : WalksS P w A.in1 I fp wr G n Pv St) (S : Addr) (hSf : S ∉ fp) (xs : List Str) (hn : n = xs.length) (hb : xs.length + 1 < scanBound) (hv : ∀ i v, Pv i v → ∃ k t, xs[i]? = some k ∧ v = .str k t) :
    ∀ (m i : Nat) (s : Shared), n - i = m → i ≤ n → St i s → (∃ l, l.length = i ∧ (∀ k, k ∈ l ↔ k ∈ xs.take i) ∧ TxSet w s.heap S l) →
      (∀ s' l, Moved (S :: wr) G s s' → l.length = n → (∀ k, k ∈ l ↔ k ∈ xs) → TxSet w s'.heap S l → R (.ok (.ret .none)) s') → codeAny (model P w) A (.builtin "set.update.loop" ⟨[.ref S, .ref I], []⟩) R s := by
  have hSw : S ∉ wr := fun z => hSf (W.sub _ z)
  have up : ∀ b ∈ wr, b ∈ S :: wr := fun b => List.mem_cons_of_mem _
  intro m
  induction m with
  | zero =>
    intro i s hm hi hst ⟨l, hl, hk, hS⟩ hR
    obtain rfl : i = n := by omega
    refine codeAny_builtin F.entry_set_update_loop ?_; rw [Around.under_plainId F.plain_set_update_loop _]
    refine wpAny_bind (W.done s _ _ hst fun s' mv => wpAny_pure (hR s' l (mv.mono up) hl (fun k => ?_) (hS.at fun o e => mv.heap S o hSw e)))
    rw [hk, List.take_of_length_le (by omega)]
  | succ m ih =>
    intro i s hm hi hst ⟨l, hl, hk, hS⟩ hR
    refine codeAny_builtin F.entry_set_update_loop ?_; rw [Around.under_plainId F.plain_set_update_loop _]
    refine wpAny_bind (W.item i s _ _ (by omega) hst fun v s' hP hst' mv => ?_)
    obtain ⟨z, t, hz, rfl⟩ := hv i v hP
    show wpAny _ A.in1 (holding [Value.str z t] (setAdd S (.str z t)) >>= _) _ _ s'; refine wpAny_bind (wpAny_holding ?_)
    unfold setAdd
    refine wpAny_holding (wpAny_bind ((PySem.strKind P w).pyHash (k := z) (strKind_is _ _ _ _) ?_))
    refine tx_add (s := { s' with toks := s'.toks + 1 }) (hS.at fun o e => mv.heap S o hSw e) (by omega) fun b h' sb S2 => ?_
    refine wpAny_pure ⟨plainId_quiet F.plain_set_update_loop _, ih (i + 1) _ (by omega) (by omega) (W.frame _ s' _ _ hst' (Nat.le_succ _) fun b hb o e => ?_) ⟨z :: l, by rw [List.length_cons, hl], fun k => ?_, S2⟩ fun s2 l2 mv2 hl2 hk2 S3 => ?_⟩
    · rw [sb.2 b fun h : b = S => hSf (h ▸ hb)]; exact e
    · rw [List.take_add_one, hz, List.mem_cons, List.mem_append, hk]; simp [or_comm]
    · refine hR s2 l2 (Moved.trans W.gtrans ((mv.mono up).then_heap (Nat.le_succ _) fun b o hb e => ?_) mv2) hl2 hk2 S3
      rw [sb.2 b fun h : b = S => hb (by rw [h]; exact List.mem_cons_self)]; exact e
set_option maxHeartbeats 3300000 in
theorem tx_call {l : Addr} {items : Array Value} (xs : List Str) {Q : Value → Shared → Prop} (hh : A.handled = none) (hl : s.heap.IsList l items) (hit : StrsAre items.toList xs) (hb : xs.length + 1 < scanBound)
    (h : ∀ (h' : Heap) (tk : Nat) (ys : List Str), TxSet w h' s.heap.objs.size ys → ys.length = xs.length → (∀ k, k ∈ ys ↔ k ∈ xs) → (∀ b o, s.heap.get? b = some o → h'.get? b = some o) → Q (.ref s.heap.objs.size) { s with heap := h', toks := tk }) : wpAny (model P w) A (call (.type "set") [.ref l]) Q E s := by
  have hsz : items.size = xs.length := (Array.length_toList (xs := items)).symm.trans (StrsAre.len_eq hit); obtain ⟨c, tl, hmro⟩ := F.called_set.mro
  have hmade := F.called_set.made; have hsub := F.called_set.sub
  refine wpAny_call (codeAny_of_tree ?_); show wpAny _ _ (callAny (.type "set") _) _ _ _
  refine wpAny_pure ⟨Code.quiet_builtin _ (by decide +kernel), codeAny_builtin F.entry_type_call ?_⟩; rw [Around.under_plain (weight_type_call_type "set" [.ref l] []) rfl]
  have h1 := F.called_set.notType; have h2 := F.called_set.canCreate; have hct := F.typeCall_set_1 (.ref l); repeat (any_goals (first | assumption | wp_step))
  let o0 : Obj := { cls := .type "set", dict := none, data := .set #[] 0 (.fresh 0 0 (!w.params.followText "set-order")) }
  refine codeAny_mono (code_set_led1 (.ref l) (E := E) (Q₁ := fun obj s₁ => obj = .ref s.heap.objs.size ∧ s₁ = { s with heap := s.heap.push o0 }) ⟨rfl, rfl⟩) fun r s₁ hr => ?_
  match r, hr with
  | .error e, hr => exact hr
  | .ok .next, hr => exact hr.elim
  | .ok .brk, hr => exact hr.elim
  | .ok .cont, hr => exact hr.elim
  | .ok (.ret obj), hr =>
    obtain ⟨rfl, rfl⟩ := hr
    have hS : (s.heap.push o0).get? s.heap.objs.size = some o0 := Heap.get?_push_size _ rfl
    have hT : Shared.TypeIs { s with heap := s.heap.push o0 } (.ref s.heap.objs.size) "set" := ⟨_, hS, rfl⟩
    have hli := F.called_set.init.lookup; have hbi := F.called_set.init.bind (.ref s.heap.objs.size); repeat (any_goals (first | assumption | wp_step))
    refine codeAny_mono (codeAny_call_builtin (R := wants (fun r s₂ => r = .none ∧ ∃ h' tk ys, s₂ = { s with heap := h', toks := tk } ∧ TxSet w h' s.heap.objs.size ys ∧ ys.length = xs.length ∧ (∀ k, k ∈ ys ↔ k ∈ xs) ∧ (∀ b o, s.heap.get? b = some o → h'.get? b = some o)) E) F.called_set.init.plain F.entry_set_init (check_set_init_1 hT ?_)) fun r₂ s₂ hr₂ => ?_
    · obtain ⟨⟨ocls, odict, odata, oslots⟩, hol, hcl, nl, hdl⟩ := hl
      simp only at hcl hdl
      subst hcl; subst hdl
      have hol' : (s.heap.push o0).get? l = some { cls := .type "list", dict := odict, data := .seq items nl, slots := oslots } := Heap.get?_push_of_some _ hol
      have hsls := F.sub_list_set; have hslf := F.sub_list_frozenset; have hne : (Value.type "list" == Value.type "dict") = false := by decide
      have hl1 : (s.heap.push o0).IsList l items := ⟨_, hol', rfl, nl, rfl⟩; unfold Builtin.«set.__init__» noKeywords Builtin.Frozenset.updateFrom
      generalize hPI : pyIter = PI
      wp_walk
      subst hPI
      refine wpAny_pyIter_list hl1 (wpAny_bind (wpAny_runValue ?_)); have hlS : l < s.heap.objs.size := Heap.lt_size hol
      have hz : (s.heap.push o0).objs.size = s.heap.objs.size + 1 := Heap.size_push ..
      have hneI : l ≠ (s.heap.push o0).objs.size := by rw [hz]; exact Nat.ne_of_lt (Nat.lt_succ_of_lt hlS)
      have hSf : s.heap.objs.size ∉ [(s.heap.push o0).objs.size, l] := by rw [hz]; simp only [List.mem_cons, List.not_mem_nil, or_false, not_or]; exact ⟨Nat.ne_of_lt (Nat.lt_succ_self _), Nat.ne_of_gt hlS⟩
      refine tx_loop ((Walks.list (by simp [hh]) _ l hneI items).toS) s.heap.objs.size hSf xs hsz hb (fun i v hv => ?_) (items.size - 0) 0 _ (by omega) (Nat.zero_le _) ⟨⟨_, Heap.get?_push_size _ rfl, rfl, rfl⟩, (hl1.push _)⟩ ⟨[], rfl, fun k => by simp, tx_start (Heap.get?_push_of_some _ hS)⟩ ?_
      · obtain ⟨y, t, e1, e2⟩ := StrsAre.item hit i v (by rw [Array.getElem?_toList]; exact hv)
        exact ⟨y, t, e2, e1⟩
      · intro s' ys hm hl2 hk2 S2; obtain ⟨h', g2, d', tk', os'⟩ := s'
        obtain rfl : g2 = s.gens := hm.gens
        obtain rfl : d' = s.drawn := hm.drawn
        obtain rfl : os' = s.os := hm.os
        show wpAny _ _ _ _ _ _
        refine wpAny_pure ?_; show wpAny _ _ (ret Value.none) _ _ _
        refine wpAny_pure ⟨rfl, h', tk', ys, rfl, S2, hl2.trans hsz, hk2, fun b o e => ?_⟩; have hb0 : b < s.heap.objs.size := Heap.lt_size e
        refine hm.heap b o ?_ (Heap.get?_push_of_some _ (Heap.get?_push_of_some _ e))
        rw [hz]; simp only [List.mem_cons, List.not_mem_nil, or_false, not_or]; exact ⟨Nat.ne_of_lt hb0, Nat.ne_of_lt (Nat.lt_succ_of_lt hb0)⟩
    · match r₂, hr₂ with
      | .error e, hr₂ => exact hr₂
      | .ok .next, hr₂ => exact hr₂.elim
      | .ok .brk, hr₂ => exact hr₂.elim
      | .ok .cont, hr₂ => exact hr₂.elim
      | .ok (.ret r), hr₂ =>
        obtain ⟨rfl, h', tk, ys, rfl, S2, hl2, hk2, hk'⟩ := hr₂; repeat (any_goals (first | assumption | wp_step))
        exact h _ _ _ S2 hl2 hk2 hk'
end
end Gd
namespace Gd
open PySem PySem.Spec PyProof.Rows L2
section
variable {P : Program} {w : World} {A : Around} {E : Value → Shared → Prop} {s : Shared} {a : Addr} {l : List Str}
theorem tx_sorted {Q : Value → Shared → Prop} (R : TxSet w s.heap a l) (hh : A.handled = none) (h64 : l.length < 64)
    (hQ : ∀ s' p (out : Array Value) (c : Nat) (ns : List Str), (∀ b o, s.heap.get? b = some o → s'.heap.get? b = some o) → s'.gens = s.gens → s'.os = s.os → s.heap.objs.size ≤ p →
      s'.heap.get? p = some (seqObj "list" out c) → StrsAre out.toList ns → ns.Nodup → (∀ k, k ∈ ns ↔ k ∈ l) → sortedS ns = true → Q (.ref p) s') :
    wpAny (model P w) A (call (.builtin "sorted") [Value.ref a]) Q E s := by
  obtain ⟨o, es, ep, t, ho, hd, T⟩ := R
  refine Calls.call_function_entry kind_sorted plain_sorted entry_sorted (args_sorted1 _) ?_; unfold Builtin.«sorted»; refine wpAny_bind (m := checkCount "sorted" 1 1 _) (wpAny_pure ?_)
  have hb : es.size < scanBound := by have := T.sz; unfold scanBound; omega
  refine wpAny_bind (collect_set (A := A.in1) hh ⟨o, ho, T.ex.1, hd⟩ T.ft hb T.ri T.ld fun s1 vs k1 hz g1 o1 pm => ?_)
  have hvl : vs.length < 64 := by
    have e : vs.length = es.size := by rw [pm.length_eq, List.length_map, Array.length_toList]
    have := T.sz; omega
  have kk : ∀ e ∈ es.toList, PyProof.Rows.strOf e.2 = keyT e := fun e he => by
    obtain ⟨k, tk, h1, _⟩ := T.el e he
    unfold keyT; rw [h1] <;> rfl
  have hI : StrsAre vs (vs.map PyProof.Rows.strOf) := strsAre_map vs fun v hv => by
    obtain ⟨e, he, q⟩ := List.mem_map.1 (pm.mem_iff.1 hv)
    obtain ⟨k, tk, h1, _⟩ := T.el e he; exact ⟨k, tk, by rw [← q]; exact h1⟩
  have pk : (vs.map PyProof.Rows.strOf).Perm (es.toList.map keyT) := by
    have q := pm.map PyProof.Rows.strOf
    rw [List.map_map] at q
    have e : es.toList.map (PyProof.Rows.strOf ∘ fun x => x.2) = es.toList.map keyT := List.map_congr_left fun e he => kk e he
    rw [← e]; exact q
  refine wpAny_bind (wpAny_newList ?_ (by rw [sizeLine_eq]; omega)); have hoL : (s1.heap.push (seqObj "list" vs.toArray 0)).get? s1.heap.objs.size = some (seqObj "list" vs.toArray 0) := Heap.get?_push_size _ rfl
  refine wpAny_bind (wpAny_holding (wpAny_call_entry slot_list_sort ⟨_, hoL, rfl⟩ entry_list_sort (list_sort_treeK PyProof.Rows.strKind_oneLt hoL hI.keysOf (fun v₁ v₂ rest e => keyKind_strs (by rw [← e]; exact hI)) hvl fun st' a1 a2 => ⟨_, rfl, ?_⟩) (args_list_sort _)))
  obtain ⟨ns, b1, b2, b3⟩ := sorted_out_str hI a1 a2
  obtain ⟨c, hc⟩ := sortedHeap_at (vs := vs) (out := (arrOf st').map (·.2)) hoL
  have pn := b2.trans pk
  refine wpAny_pure ⟨_, rfl, hQ _ s1.heap.objs.size _ c ns (fun b u e => ?_) g1 o1 hz hc b1 (pn.nodup_iff.mpr T.nd) (fun k => pn.mem_iff.trans (T.me k)) b3⟩
  have q := k1 b u e
  have hlt := Heap.lt_size q
  show (sortedHeap (s1.heap.push (seqObj "list" vs.toArray 0)) s1.heap.objs.size vs _).get? b = some u
  rw [sortedHeap_old (Nat.ne_of_lt hlt) (by rw [size_push']; exact Nat.lt_succ_of_lt hlt)]; exact Heap.get?_push_of_some _ q
end
section
variable {X : Cx}
def TxO (w : World) (a : Addr) (l : List Str) : HO := .ext fun h => TxSet w h a l
theorem txO_new {w : World} {P : Program} {H : Hp} {h : Heap} {a : Addr} {l : List Str} (R : TxSet w h a l) : ObjOk P w H h a (TxO w a l) := by
  have ⟨o, _, _, _, ho, _⟩ := R
  exact ⟨R, ⟨o, ho⟩, fun h1 h2 p k => TxSet.at p k⟩
def rSetT (X : Cx) : List V → Hp → VK → Prop := fun vs H Q => ∃ (a : Addr) (xs : List Str), vs = [V.ref a] ∧ SqL X.K H a (xs.map V.str) ∧ xs.length < 64 ∧
  ∀ (ys : List Str) (p : Addr), ys.length = xs.length → (∀ k, k ∈ ys ↔ k ∈ xs) → H p = none → Q (.ref p) (upd H p (TxO X.w p ys))
theorem cr_setT (hc : X.calm = true) : CallR X (.type "set") (rSetT X) := by
  intro pins s σ H vs us Q I r h; obtain ⟨a, xs, rfl, hs, h64, q⟩ := h
  rw [Vals.ref1 r]; obtain ⟨its, rv, pl, hz⟩ := I.list hs
  refine tx_call xs (I.ok.hd hc) pl.isList (by simpa using strsAre_of rv) (by unfold scanBound; omega) fun h' tk ys T e1 e2 k => ?_
  exact ⟨.ref _, _, I.laid (t' := tk) (fun b u e => k b u e) (Nat.le_refl _) (txO_new T), rfl, q ys _ e1 e2 (I.hok.fresh (Nat.le_refl _))⟩
def rSortedT (X : Cx) : List V → Hp → VK → Prop := fun vs H Q => ∃ (a : Addr) (l : List Str), vs = [V.ref a] ∧ H a = some (TxO X.w a l) ∧ l.length < 64 ∧
  ∀ (ns : List Str) (p : Addr), ns.Nodup → (∀ k, k ∈ ns ↔ k ∈ l) → sortedS ns = true → H p = none → Q (.ref p) (upd H p (.lst (ns.map V.str)))
theorem vals_strs {vs : List Value} {ns : List Str} (h : StrsAre vs ns) : Vals (ns.map V.str) vs := by
  induction h with
  | nil => exact .nil
  | cons y t _ ih => exact .cons ⟨t, rfl⟩ ih
theorem cr_sortedT' (hc : X.calm = true) : CallR X (.builtin "sorted") (rSortedT X) := by
  intro pins s σ H vs us Q I r hr
  obtain ⟨a, l, rfl, ha, h64, q⟩ := hr
  have R : TxSet X.w s.heap a l := (I.hok a _ ha).1
  rw [Vals.ref1 r]
  refine tx_sorted R (I.ok.hd hc) h64 fun s' p out c ns k g o hp hg hi hd hm hs => ?_
  have hlen : (ns.map V.str).length ≤ sizeLine := by
    have h1 : ns.length ≤ l.length := (List.Nodup.length_le_of_subset hd fun k hk => (hm k).1 hk)
    rw [List.length_map, sizeLine_eq]; omega
  have hn : H p = none := (I.hok).fresh hp
  have J : Inv X pins σ (upd H p (.lst (ns.map V.str))) { s with heap := s'.heap, gens := s'.gens, drawn := s'.drawn, toks := s'.toks } :=
    I.call (ch := []) (Un.laid k hp hn) (I.hok.laid k hp ⟨hlen, out.toList, c, vals_strs hi, hg⟩) (by rw [g]; exact I.bare) (fun _ z => nomatch z)
  have e : s' = { s with heap := s'.heap, gens := s'.gens, drawn := s'.drawn, toks := s'.toks } := by cases s'; cases s; cases o; rfl
  rw [e]
  exact ⟨.ref p, _, J, rfl, q ns p hd hm hs hn⟩
end
end Gd
namespace Gd
open PySem PySem.Spec PyProof.Rows L2
structure Own (K : PySem.W.Frag) (i : Nat) (g : Gh) (A0 A1 : Hp) (a : Addr) (B : Bag) (Γ : List VD) (acc : List PyData) (σ : L2.St) (H0 H : Hp) : Prop where
  to : To g A0 A1 H0 H
  fr : A1 a = none
  off : Off g a
  ev : EnvD K g H0 σ Γ
  at' : σ[i]? = some (some (.ref a))
  no : H0 a = none
  ls : ∃ zs, H a = some (.lst zs) ∧ RpAll K H0 zs acc
  on : On K g B H0 H
theorem Own.freeze {K : PySem.W.Frag} {i : Nat} {g : Gh} {A0 A1 : Hp} {a : Addr} {B : Bag} {Γ : List VD} {acc : List PyData} {σ : L2.St} {H0 H : Hp} (O : Own K i g A0 A1 a B Γ acc σ H0 H) :
    ∃ H1, To g A0 A1 H1 H ∧ EnvD K g H1 σ (Γ.set i (.da (.list acc))) ∧ On K g B H1 H := by
  obtain ⟨zs, hz, rz⟩ := O.ls
  have sm : Same H0 (upd H0 a (.lst zs)) := fun b o e => by
    rw [upd_ne fun z : b = a => by rw [z, O.no] at e; cases e]; exact e
  refine ⟨upd H0 a (.lst zs), ⟨O.to.ex.trans sm, fun b o f h1 h2 => ?_⟩, ?_, ⟨fun b o e => ?_, fun b l e => ?_⟩⟩
  · have hb : b ≠ a := fun z => by rw [z, O.fr] at h2; cases h2
    obtain ⟨p, q⟩ := O.to.un b o f h1 h2
    exact ⟨by rw [upd_ne hb]; exact p, q⟩
  · have e := (O.ev.mono sm).set (v := .ref a) (d := .da (.list acc)) i (Rp.lst upd_same (rz.mono sm))
    have es : σ.set i (some (.ref a)) = σ := by
      apply List.ext_getElem?
      intro j
      by_cases hj : i = j
      · subst hj
        rw [List.getElem?_set_self (List.getElem?_eq_some_iff.mp O.at').1, O.at']
      · rw [List.getElem?_set_ne hj]
    rw [es] at e; exact e
  · by_cases hb : b = a
    · subst hb; rw [upd_same] at e; rw [hz]; exact e
    · rw [upd_ne hb] at e; exact O.on.ex b o e
  · obtain ⟨p, q, r⟩ := O.on.bag b l e
    have hb : b ≠ a := fun z => O.off l (z ▸ e)
    have hl : l ≠ a := fun z => by rw [z, O.no] at r; cases r
    exact ⟨by rw [upd_ne hb]; exact p, q, by rw [upd_ne hl]; exact r⟩
structure EnO where
  nx : List VD → Bag → List PyData → Prop
  fx : List VD → Bag → Prop
  rt : PyData → Bag → Prop
  bk : List VD → Bag → List PyData → Prop := fun _ _ _ => False
  ct : List VD → Bag → List PyData → Prop := fun _ _ _ => False
structure GetsO (X : Cx) (i : Nat) (E : EnO) (g : Gh) (A0 A1 : Hp) (a : Addr) (S : Hp) (D : Ends) : Prop where
  nx : ∀ Γ B acc σ H0 H, E.nx Γ B acc → Own X.K i g A0 A1 a B Γ acc σ H0 H → Same S H0 → D.nx σ H
  fx : ∀ Γ B σ H0 H, E.fx Γ B → To g A0 A1 H0 H → EnvD X.K g H0 σ Γ → On X.K g B H0 H → D.nx σ H
  rt : ∀ r B v H0 H, E.rt r B → To g A0 A1 H0 H → On X.K g B H0 H → Rp X.K H0 v r → D.rt v H
  bk : ∀ Γ B acc σ H0 H, E.bk Γ B acc → Own X.K i g A0 A1 a B Γ acc σ H0 H → Same S H0 → D.bk σ H
  ct : ∀ Γ B acc σ H0 H, E.ct Γ B acc → Own X.K i g A0 A1 a B Γ acc σ H0 H → Same S H0 → D.ct σ H
theorem GetsO.on {X : Cx} {i : Nat} {E : EnO} {g : Gh} {A0 A1 : Hp} {a : Addr} {S S' : Hp} {D : Ends} (G : GetsO X i E g A0 A1 a S D) (e : Same S S') : GetsO X i E g A0 A1 a S' D :=
  ⟨fun Γ B acc σ H0 H q w m => G.nx Γ B acc σ H0 H q w (e.trans m), G.fx, G.rt, fun Γ B acc σ H0 H q w m => G.bk Γ B acc σ H0 H q w (e.trans m), fun Γ B acc σ H0 H q w m => G.ct Γ B acc σ H0 H q w (e.trans m)⟩
def OwJ (X : Cx) (i : Nat) (Γ : List VD) (B : Bag) (acc : List PyData) (ss : List Stmt) (E : EnO) : Prop :=
  ∀ g σ A0 A1 a H0 H, Own X.K i g A0 A1 a B Γ acc σ H0 H → ∀ D : Ends, GetsO X i E g A0 A1 a H0 D → WS X ss D σ H
def FJ (X : Cx) (Γ : List VD) (B : Bag) (e : Expr) (ds : List PyData) (B' : Bag) : Prop :=
  ∀ g σ H0 H, EnvD X.K g H0 σ Γ → On X.K g B H0 H → ∀ Q : VK,
    (∀ a zs H0' H', To g H0 H H0' H' → On X.K g B' H0' H' → RpAll X.K H0' zs ds → H' a = none → Q (.ref a) (upd H' a (.lst zs))) → WE X e σ H Q
section
variable {X : Cx} {i : Nat} {Γ : List VD} {B B1 B2 B' : Bag} {acc ds : List PyData} {e a b c : Expr} {es : List Expr} {d da db : VD} {y : PyData} {pos p p1 p2 p3 pos' : Pos} {rest ss s1 s2 : List Stmt} {E : EnO}
theorem fj_lst (h : AJ X Γ B es (ds.map .da) B1) (hl : ds.length ≤ 1000) : FJ X Γ B (.List es pos) ds B1 := fun g σ H0 H E O Q q =>
  ⟨_, pe_lst (wa es), h g σ H0 H E O _ fun vs H1 H' t o rs => by
    have rs := RvAll.dat rs
    exact ⟨by rw [rs.length]; exact Nat.le_of_lt (small1000 hl), fun p n => q p vs H1 H' t o rs n⟩⟩
theorem fj_lstD (h : AD X Γ B es ds B1) (hl : ds.length ≤ 1000 := by decide) : FJ X Γ B (.List es pos) ds B1 := fj_lst h hl
theorem sj_own {x : Str} {Es : En} (i : Nat) (nd : X.N.Nodup) (h : FJ X Γ B e ds B1) (hΓ : i < Γ.length)
    (k : OwJ X i (Γ.set i .no) B1 ds rest { nx := fun Γ' B' acc => Es.nx (Γ'.set i (.da (.list acc))) B', fx := Es.nx, rt := Es.rt, bk := fun Γ' B' acc => Es.bk (Γ'.set i (.da (.list acc))) B', ct := fun Γ' B' acc => Es.ct (Γ'.set i (.da (.list acc))) B' })
    (hi : X.N[i]? = some x := by rfl) (hx : Loc X.env.scope x := by first | exact Or.inl rfl | exact Or.inr rfl) (hs : swapsWith e (some (.Name x pos')) pos.line X.env = pure false := by rfl)
    (hf : X.fn x = true ∨ X.env.scope.names.lookup x = some .local := by first | exact Or.inl rfl | exact Or.inr rfl) : SJ X Γ B (.Assign [.Name x pos'] e pos :: rest) Es := fun g σ H0 H Ev O D G =>
  ⟨_, pss_cons (ps_set nd hi hx (we e) hs hf) (ws rest), h g σ H0 H Ev O _ fun a zs H1 H' t o r n => by
    have n1 : H1 a = none := o.ex.free n
    have off : Off g a := fun l z => by
      obtain ⟨_, q, _⟩ := o.bag a l z
      rw [n] at q; cases q
    have on : On X.K g B1 H1 (upd H' a (.lst zs)) := ⟨fun b u q => by
      rw [upd_ne (ne_of_none q n1)]; exact o.ex b u q, fun b l q => by
      obtain ⟨p1, p2, p3⟩ := o.bag b l q
      exact ⟨p1, by rw [upd_ne (ne_of_none p2 n)]; exact p2, p3⟩⟩
    have hi' : i < σ.length := by rw [Ev.len]; exact hΓ
    have ev : EnvD X.K g H1 (σ.set i (some (.ref a))) (Γ.set i .no) := (Ev.mono t.ex).set i (show Rv X.K g H1 (.ref a) .no from trivial)
    refine k g _ H1 H' a H1 _ ⟨⟨Same.refl _, fun b u f h1 h2 => ⟨h1, by rw [upd_ne (ne_of_none h2 n)]; exact h2⟩⟩, n, off, ev, List.getElem?_set_self hi', n1, ⟨zs, upd_same, r⟩, on⟩ D ⟨?_, ?_, ?_, ?_, ?_⟩
    · intro Γ' B' acc σ' H2 H2' q w _
      obtain ⟨H3, t3, e3, o3⟩ := w.freeze
      exact G.nx _ _ _ _ _ q (t.trans t3) e3 o3
    · intro Γ' B' σ' H2 H2' q t2 e2 o2
      exact G.nx _ _ _ _ _ q (t.trans t2) e2 o2
    · intro r B' v H2 H2' q t2 o2 rv
      exact G.rt _ _ _ _ _ q (t.trans t2) o2 rv
    · intro Γ' B' acc σ' H2 H2' q w _
      obtain ⟨H3, t3, e3, o3⟩ := w.freeze
      exact G.bk _ _ _ _ _ q (t.trans t3) e3 o3
    · intro Γ' B' acc σ' H2 H2' q w _
      obtain ⟨H3, t3, e3, o3⟩ := w.freeze
      exact G.ct _ _ _ _ _ q (t.trans t3) e3 o3⟩
theorem ow_end (h : SJ X (Γ.set i (.da (.list acc))) B ss { nx := E.fx, rt := E.rt }) : OwJ X i Γ B acc ss E := fun g σ A0 A1 a H0 H w D G => by
  obtain ⟨H1, t, ev, o⟩ := w.freeze
  exact h g σ H1 H ev o D ⟨fun Γ' B' σ' H2 H2' q t2 e2 o2 => G.fx _ _ _ _ _ q (t.trans t2) e2 o2, fun r B' v H2 H2' q t2 o2 rv => G.rt _ _ _ _ _ q (t.trans t2) o2 rv, fun _ _ _ _ _ q => q.elim, fun _ _ _ _ _ q => q.elim⟩
theorem ow_nil (h : E.nx Γ B acc) : OwJ X i Γ B acc [] E := fun g σ A0 A1 a H0 H w D G => ⟨_, pss_nil, G.nx _ _ _ _ _ _ h w (Same.refl _)⟩
theorem Own.step {K : PySem.W.Frag} {g : Gh} {A0 A1 : Hp} {a : Addr} {σ : L2.St} {H0 H H0' H' : Hp} (w : Own K i g A0 A1 a B Γ acc σ H0 H) (t : To g H0 H H0' H') (o : On K g B1 H0' H') : Own K i g A0 A1 a B1 Γ acc σ H0' H' := by
  obtain ⟨zs, hz, rz⟩ := w.ls
  obtain ⟨p, q⟩ := t.un a _ w.off w.no hz
  exact ⟨w.to.trans t, w.fr, w.off, w.ev.mono t.ex, w.at', p, ⟨zs, q, rz.mono t.ex⟩, o⟩
theorem ow_set {x : Str} (j : Nat) (nd : X.N.Nodup) (hij : j ≠ i) (h : EJ X Γ B e d B1) (k : OwJ X i (Γ.set j d) B1 acc rest E) (hi : X.N[j]? = some x := by rfl)
    (hx : Loc X.env.scope x := by first | exact Or.inl rfl | exact Or.inr rfl) (hs : swapsWith e (some (.Name x pos')) pos.line X.env = pure false := by rfl)
    (hf : X.fn x = true ∨ X.env.scope.names.lookup x = some .local := by first | exact Or.inl rfl | exact Or.inr rfl) : OwJ X i Γ B acc (.Assign [.Name x pos'] e pos :: rest) E := fun g σ A0 A1 a H0 H w D G =>
  ⟨_, pss_cons (ps_set nd hi hx (we e) hs hf) (ws rest), h g σ H0 H w.ev w.on _ fun v H1 H' t o r => by
    have w2 := w.step t o
    exact k g _ A0 A1 a H1 H' ⟨w2.to, w2.fr, w2.off, w2.ev.set j r, by rw [List.getElem?_set_ne hij]; exact w2.at', w2.no, w2.ls, w2.on⟩ D (G.on t.ex)⟩
theorem ow_app {x : Str} (nd : X.N.Nodup) (h : EJ X Γ B e (.da y) B1) (hl : acc.length < 1000) (k : OwJ X i Γ B1 (acc ++ [y]) rest E) (hi : X.N[i]? = some x := by rfl)
    (hv : Vis X.env.scope x := by first | exact Or.inl rfl | exact Or.inr (Or.inl rfl) | exact Or.inr (Or.inr rfl))
    (h1 : (x == ("__debug__" : Str)) = false := by decide) (h2 : (x == ("__classdict__" : Str)) = false := by decide)
    (hbase : attributeBase (.Name x p1) "append" X.env (eval (.Name x p1) X.env) = eval (.Name x p1) X.env := by rfl)
    (hfew : ((backTo p3 (starEach [e] X.env)).all (fun x => !x.1) && (backToKw p3 (keywordEach [] X.env)).all (fun x => x.1.isSome)
      && decide ([e].length + ([] : List Keyword).length + (if ([] : List Keyword).isEmpty then 0 else 1) < 30)) = true := by rfl)
    (hline : (p2.endLine == p3.line) = true := by rfl) (hst : starEach [e] X.env = [(false, eval e X.env)] := by rfl)
    (hs : swapsWith (.Call (.Attribute (.Name x p1) "append" p2) [e] [] p3) none pos.line X.env = pure false := by rfl) :
    OwJ X i Γ B acc (.Expr (.Call (.Attribute (.Name x p1) "append" p2) [e] [] p3) pos :: rest) E := fun g σ A0 A1 a H0 H w D G =>
  ⟨_, pss_cons (ps_expr (pe_bm PySem.F.plainAttrs_list PySem.F.slot_list_append PySem.F.type_list_append mt_append (pe_var hi hv h1 h2) (wa [e]) hbase hfew hline hst rfl) hs) (ws rest), by
    obtain ⟨zs, hz, rz⟩ := w.ls
    refine ⟨_, w.at', .inl ⟨rfl, _, SqL.of hz⟩, ?_⟩
    refine (aj_cons (ds := []) h aj_nil hst) g σ H0 H w.ev w.on _ fun vs H1 H' t o rs => ?_
    obtain ⟨v, rfl, rv⟩ := rv1 rs
    have w2 := w.step t o
    obtain ⟨zs2, hz2, rz2⟩ := w2.ls
    refine ⟨a, zs2, v, rfl, rfl, hz2, by rw [rz2.length]; exact small1000 (Nat.le_of_lt hl), ?_⟩
    refine k g σ A0 A1 a H1 _ ⟨⟨w2.to.ex, fun b u f q1 q2 => ?_⟩, w2.fr, w2.off, w2.ev, w2.at', w2.no, ⟨zs2 ++ [v], upd_same, rz2.app (.cons rv .nil)⟩, ⟨fun b u q => ?_, fun b l q => ?_⟩⟩ D (G.on t.ex)
    · obtain ⟨p, q⟩ := w2.to.un b u f q1 q2
      exact ⟨p, by rw [upd_ne (ne_of_none q2 w2.fr)]; exact q⟩
    · rw [upd_ne (ne_of_none q w2.no)]; exact w2.on.ex b u q
    · obtain ⟨p1, p2, p3⟩ := w2.on.bag b l q
      exact ⟨p1, by rw [upd_ne fun z : b = a => w2.off l (z ▸ q)]; exact p2, p3⟩⟩
theorem ow_while (P : List VD → Bag → List PyData → Prop) (μ : List VD → Bag → List PyData → Nat) (h0 : P Γ B acc)
    (hs : ∀ Γ B acc, P Γ B acc → ∃ x, TJ X Γ B c x B ∧
      (x = true → OwJ X i Γ B acc s1 { nx := fun Γ' B' acc' => P Γ' B' acc' ∧ μ Γ' B' acc' < μ Γ B acc, fx := fun _ _ => False, ct := fun Γ' B' acc' => P Γ' B' acc' ∧ μ Γ' B' acc' < μ Γ B acc, rt := E.rt }) ∧
      (x = false → OwJ X i Γ B acc rest E))
    (hp : PassesOwn (model X.prog X.w) X.A X.env X.xe := by exact PassesOwn.never) : OwJ X i Γ B acc (.While c s1 [] pos :: rest) E := fun g σ A0 A1 a H0 H w D G =>
  ⟨_, pss_cons (ps_while hp (wt c) (ws s1)) (ws rest), by
    refine ⟨fun m σ' H' => ∃ Γ' B' acc' H1, P Γ' B' acc' ∧ μ Γ' B' acc' = m ∧ Own X.K i g A0 A1 a B' Γ' acc' σ' H1 H' ∧ Same H0 H1, ⟨_, Γ, B, acc, H0, h0, rfl, w, Same.refl _⟩, ?_⟩
    rintro m σ' H' ⟨Γ', B', acc', H1, hP, rfl, w1, sm⟩
    obtain ⟨x, ht, hb, hd⟩ := hs Γ' B' acc' hP
    refine ht g σ' H1 H' w1.ev w1.on _ fun H2 H'' t2 o2 => ?_
    have w2 := w1.step t2 o2
    cases x with
    | true =>
      refine iteT ⟨fun σ2 H3' => ∃ m', m' < μ Γ' B' acc' ∧ ∃ Γ2 B2 acc2 H3, P Γ2 B2 acc2 ∧ μ Γ2 B2 acc2 = m' ∧ Own X.K i g A0 A1 a B2 Γ2 acc2 σ2 H3 H3' ∧ Same H0 H3, fun _ _ z => z, ?_⟩
      refine hb rfl g σ' A0 A1 a H2 H'' w2 _ ⟨?_, ?_, ?_, ?_, ?_⟩
      · rintro Γ3 B3 acc3 σ3 H3 H3' ⟨q1, q2⟩ w3 m3
        exact ⟨_, q2, Γ3, B3, acc3, H3, q1, rfl, w3, (sm.trans t2.ex).trans m3⟩
      · intro _ _ _ _ _ q; exact q.elim
      · intro r B3 v H3 H3' q t3 o3 rv
        exact G.rt r B3 v H3 H3' q t3 o3 rv
      · intro _ _ _ _ _ _ q; exact q.elim
      · rintro Γ3 B3 acc3 σ3 H3 H3' ⟨q1, q2⟩ w3 m3
        exact ⟨_, q2, Γ3, B3, acc3, H3, q1, rfl, w3, (sm.trans t2.ex).trans m3⟩
    | false => exact iteF (hd rfl g σ' A0 A1 a H2 H'' w2 D (G.on (sm.trans t2.ex)))⟩
theorem ow_if {x : Bool} (M : List VD → Bag → List PyData → Prop) (h : TJ X Γ B c x B1) (h1 : x = true → OwJ X i Γ B1 acc s1 { E with nx := M, fx := fun _ _ => False }) (h2 : x = false → OwJ X i Γ B1 acc s2 { E with nx := M, fx := fun _ _ => False })
    (k : ∀ Γ' B' acc', M Γ' B' acc' → OwJ X i Γ' B' acc' rest E) : OwJ X i Γ B acc (.If c s1 s2 pos :: rest) E := fun g σ A0 A1 a H0 H w D G =>
  ⟨_, pss_cons (ps_if (wt c) (ws s1) (ws s2)) (ws rest), h g σ H0 H w.ev w.on _ fun H1 H' t o => by
    have w2 := w.step t o
    have G2 := G.on t.ex
    have G' : GetsO X i { E with nx := M, fx := fun _ _ => False } g A0 A1 a H1 { D with nx := WS X rest D } :=
      ⟨fun Γ2 B2 acc2 σ2 H2 H2' q w3 m => k _ _ _ q g σ2 A0 A1 a H2 H2' w3 D (G2.on m), fun _ _ _ _ _ q => q.elim, G2.rt, G2.bk, G2.ct⟩
    cases x with
    | true => exact iteT (h1 rfl g σ A0 A1 a H1 H' w2 _ G')
    | false => exact iteF (h2 rfl g σ A0 A1 a H1 H' w2 _ G')⟩
end
end Gd
namespace Gd
open PySem PySem.Spec PyProof.Rows L2
section
variable {X : Cx} {Γ : List VD} {B B1 B2 B' : Bag} {e a b c : Expr} {es : List Expr} {d da db dc : VD} {pos p p' pos' : Pos} {rest ss s1 s2 : List Stmt} {E : En}
theorem ej_max {i j : Int} (hc : X.calm = true) (hm : X.mg "max" = none) (ha : EJ X Γ B a (.da (.int i)) B1) (hb : EJ X Γ B1 b (.da (.int j)) B2) (hg : Gl X "max" := by rfl)
    (h1 : starEach [a, b] X.env = (false, eval a X.env) :: starEach [b] X.env := by rfl) (h2 : starEach [b] X.env = (false, eval b X.env) :: starEach [] X.env := by rfl)
    (hpl : (backTo pos (starEach [b] X.env)).any (·.1) = false := by rfl) : EJ X Γ B (.Call (.Name "max" p) [a, b] [] pos) (.da (.int (max i j))) B2 :=
  ej_callB (call_max2 hc) hm (aj_cons ha (aj_cons hb aj_nil h2) h1) (fun g vs H0 H O r Q q => by
    obtain ⟨v, w, rfl, h, h'⟩ := rv2 r
    refine ⟨i, j, by rw [rvI h, rvI h'], ?_⟩
    have e : (if j > i then j else i) = max i j := by split <;> omega
    rw [e]; exact q _ _ _ To.refl O (Rp.int _)) (hg := hg) (hpl := hpl) (he := h1)
theorem ej_min {i j : Int} (hc : X.calm = true) (hm : X.mg "min" = none) (ha : EJ X Γ B a (.da (.int i)) B1) (hb : EJ X Γ B1 b (.da (.int j)) B2) (hg : Gl X "min" := by rfl)
    (h1 : starEach [a, b] X.env = (false, eval a X.env) :: starEach [b] X.env := by rfl) (h2 : starEach [b] X.env = (false, eval b X.env) :: starEach [] X.env := by rfl)
    (hpl : (backTo pos (starEach [b] X.env)).any (·.1) = false := by rfl) : EJ X Γ B (.Call (.Name "min" p) [a, b] [] pos) (.da (.int (min i j))) B2 :=
  ej_callB (call_min2 hc) hm (aj_cons ha (aj_cons hb aj_nil h2) h1) (fun g vs H0 H O r Q q => by
    obtain ⟨v, w, rfl, h, h'⟩ := rv2 r
    refine ⟨i, j, by rw [rvI h, rvI h'], ?_⟩
    have e : (if j < i then j else i) = min i j := by split <;> omega
    rw [e]; exact q _ _ _ To.refl O (Rp.int _)) (hg := hg) (hpl := hpl) (he := h1)
theorem RpAll.strs {K : PySem.W.Frag} {H : Hp} : ∀ ns : List Str, RpAll K H (ns.map V.str) (ns.map PyData.str)
  | [] => .nil
  | n :: ns => .cons (.str n) (RpAll.strs ns)
theorem ej_sortedSet {xs out : List Str} (hc : X.calm = true) (hm : X.mg "sorted" = none) (hm' : X.mg "set" = none) (ha : EJ X Γ B a (.da (.list (xs.map .str))) B1) (hl : xs.length < 64)
    (ho : ∀ ns : List Str, ns.Nodup → (∀ k, k ∈ ns ↔ k ∈ xs) → sortedS ns = true → ns = out)
    (hs : starEach [a] X.env = [(false, eval a X.env)] := by rfl) (hg : Gl X "sorted" := by rfl) (hg' : Gl X "set" := by rfl)
    (hs' : starEach [.Call (.Name "set" p') [a] [] pos'] X.env = [(false, eval (.Call (.Name "set" p') [a] [] pos') X.env)] := by rfl) :
    EJ X Γ B (.Call (.Name "sorted" p) [.Call (.Name "set" p') [a] [] pos'] [] pos) (.da (.list (out.map .str))) B1 := fun g σ H0 H Ev O Q q =>
  ⟨_, pe_callB (cr_sortedT' hc) hg hm (by decide +kernel) (pa_cons (pe_callTy (cr_setT hc) hg' hm' (by decide +kernel) (wa [a]) (by decide) (by decide) hs rfl) pa_nil hs') (by decide) (by decide) hs' rfl,
   (aj_cons (ds := []) ha aj_nil hs) g σ H0 H Ev O _ fun vs H1 H' t o r => by
    obtain ⟨v, rfl, h⟩ := rv1 r
    obtain ⟨l, zs, rfl, hx, rs⟩ := rvL h
    rw [RpAll.strs_of rs] at hx
    refine ⟨l, xs, rfl, SqL.of (o.ex _ _ hx), hl, fun ys m e1 e2 hm1 => ?_⟩
    obtain ⟨t2, o2⟩ := laid (o := TxO X.w m ys) o hm1
    refine ⟨m, ys, rfl, upd_same, by rw [e1]; exact hl, fun ns m2 q1 q2 q3 hm2 => ?_⟩
    obtain ⟨t3, o3⟩ := laid (o := .lst (ns.map V.str)) o2 hm2
    obtain rfl := ho ns q1 (fun k => (q2 k).trans (e2 k)) q3
    exact q _ _ _ ((t.trans t2).trans t3) o3 (Rp.lst upd_same (RpAll.strs _))⟩
theorem sj_forRev (j : Nat) {x : Str} {ds : List PyData} {px pr pc : Pos} (nd : X.N.Nodup) (hc : X.calm = true) (hm : X.mg "reversed" = none) (P : Nat → List VD → Bag → Prop) (hi : EJ X Γ B e (.da (.list ds)) B1) (h0 : P 0 Γ B1)
    (hs : ∀ i y Γ' B', i < ds.length → ds[ds.length - 1 - i]? = some y → P i Γ' B' → SJ X (Γ'.set j (.da y)) B' s1 { nx := P (i + 1), ct := P (i + 1), bk := fun Γ' B' => SJ X Γ' B' rest E, rt := E.rt })
    (hd : ∀ Γ' B', P ds.length Γ' B' → SJ X Γ' B' rest E) (hN : X.N[j]? = some x := by rfl) (hx : Loc X.env.scope x := by first | exact Or.inl rfl | exact Or.inr rfl)
    (hf : X.fn x = true ∨ X.env.scope.names.lookup x = some .local := by first | exact Or.inl rfl | exact Or.inr rfl)
    (hp : PassesOwn (model X.prog X.w) X.A X.env X.xe := by exact PassesOwn.never) (hq : ∀ x, foldedSetIterable (.Call (.Name "reversed" pr) [e] [] pc) X.env x = pure x := by intro _; rfl)
    (hst : starEach [e] X.env = [(false, eval e X.env)] := by rfl) (hg : Gl X "reversed" := by rfl) :
    SJ X Γ B (.For (.Name x px) (.Call (.Name "reversed" pr) [e] [] pc) s1 [] pos :: rest) E := fun g σ H0 H Ev O D G =>
  ⟨_, pss_cons (ps_for hp hc (pi_reversed hg hm (wa [e]) hst) (pg_name nd hN hx hf) (ws s1) hq) (ws rest), (aj_cons (ds := []) hi aj_nil hst) g σ H0 H Ev O _ fun vs H1 H' t o r => by
    obtain ⟨v, rfl, h⟩ := rv1 r
    obtain ⟨l, xs, rfl, hxs, rs⟩ := rvL h
    refine ⟨l, xs, rfl, SqL.of (o.ex _ _ hxs), ?_⟩
    refine RT.for_Itv (xs := xs) (fun i σ' H'' => ∃ Γ' B' H2, P i Γ' B' ∧ To g H1 H' H2 H'' ∧ EnvD X.K g H2 σ' Γ' ∧ On X.K g B' H2 H'') ⟨Γ, B1, H1, h0, To.refl, Ev.mono t.ex, o⟩ ?_ ?_ ?_
    · rintro i σ' H'' ⟨Γ', B', H2, _, t2, _, o2⟩
      exact SqL.of (o2.ex _ _ (t2.ex _ _ hxs))
    · rintro i y σ' H'' hlt hy ⟨Γ', B', H2, hP, t2, e2, o2⟩
      rw [rs.length] at hlt hy
      obtain ⟨d, hdi, rd⟩ := rs.get hy
      refine hs i d Γ' B' hlt hdi hP g _ H2 H'' (e2.set j (Rp.mono t2.ex rd)) o2 _ ⟨?_, ?_, ?_, ?_⟩
      · exact fun Γ3 B3 σ3 H3 H3' q t3 e3 o3 => ⟨Γ3, B3, H3, q, t2.trans t3, e3, o3⟩
      · exact fun r B3 v H3 H3' q t3 o3 rv => (G.on (t.trans t2)).rt r B3 v H3 H3' q t3 o3 rv
      · exact fun Γ3 B3 σ3 H3 H3' q t3 e3 o3 => q g σ3 H3 H3' e3 o3 D (G.on ((t.trans t2).trans t3))
      · exact fun Γ3 B3 σ3 H3 H3' q t3 e3 o3 => ⟨Γ3, B3, H3, q, t2.trans t3, e3, o3⟩
    · rintro σ' H'' ⟨Γ', B', H2, hP, t2, e2, o2⟩
      rw [rs.length] at hP
      exact hd Γ' B' hP g σ' H2 H'' e2 o2 D (G.on (t.trans t2))⟩
theorem sj_forR (j : Nat) {x : Str} {n : Nat} {px pr pc : Pos} (nd : X.N.Nodup) (hc : X.calm = true) (hm : X.mg "range" = none) (P : Nat → List VD → Bag → Prop) (hi : EJ X Γ B e (.da (.int n)) B1) (hn : n ≤ 100000) (h0 : P 0 Γ B1)
    (hs : ∀ i Γ' B', i < n → P i Γ' B' → SJ X (Γ'.set j (.da (.int (i : Nat)))) B' s1 { nx := P (i + 1), ct := P (i + 1), bk := fun Γ' B' => SJ X Γ' B' rest E, rt := E.rt })
    (hd : ∀ Γ' B', P n Γ' B' → SJ X Γ' B' rest E) (hN : X.N[j]? = some x := by rfl) (hx : Loc X.env.scope x := by first | exact Or.inl rfl | exact Or.inr rfl)
    (hf : X.fn x = true ∨ X.env.scope.names.lookup x = some .local := by first | exact Or.inl rfl | exact Or.inr rfl)
    (hp : PassesOwn (model X.prog X.w) X.A X.env X.xe := by exact PassesOwn.never) (hq : ∀ x, foldedSetIterable (.Call (.Name "range" pr) [e] [] pc) X.env x = pure x := by intro _; rfl)
    (hst : starEach [e] X.env = [(false, eval e X.env)] := by rfl) (hg : Gl X "range" := by rfl) :
    SJ X Γ B (.For (.Name x px) (.Call (.Name "range" pr) [e] [] pc) s1 [] pos :: rest) E := fun g σ H0 H Ev O D G =>
  ⟨_, pss_cons (ps_for hp hc (pi_range1 hg hm (wa [e]) hst) (pg_name nd hN hx hf) (ws s1) hq) (ws rest), (aj_cons (ds := []) hi aj_nil hst) g σ H0 H Ev O _ fun vs H1 H' t o r => by
    obtain ⟨v, rfl, h⟩ := rv1 r
    refine ⟨(n : Int), by rw [rvI h], by omega, by omega, ?_⟩
    rw [Int.toNat_natCast]
    refine for_range (lo := 0) (n := n) (fun i σ' H'' => ∃ Γ' B' H2, P i Γ' B' ∧ To g H1 H' H2 H'' ∧ EnvD X.K g H2 σ' Γ' ∧ On X.K g B' H2 H'') ⟨Γ, B1, H1, h0, To.refl, Ev.mono t.ex, o⟩ ?_ ?_
    · rintro i σ' H'' hlt ⟨Γ', B', H2, hP, t2, e2, o2⟩
      rw [Int.zero_add]
      refine hs i Γ' B' hlt hP g _ H2 H'' (e2.set (d := .da (.int (i : Nat))) j (Rp.int _)) o2 _ ⟨?_, ?_, ?_, ?_⟩
      · exact fun Γ3 B3 σ3 H3 H3' q t3 e3 o3 => ⟨Γ3, B3, H3, q, t2.trans t3, e3, o3⟩
      · exact fun r B3 v H3 H3' q t3 o3 rv => (G.on (t.trans t2)).rt r B3 v H3 H3' q t3 o3 rv
      · exact fun Γ3 B3 σ3 H3 H3' q t3 e3 o3 => q g σ3 H3 H3' e3 o3 D (G.on ((t.trans t2).trans t3))
      · exact fun Γ3 B3 σ3 H3 H3' q t3 e3 o3 => ⟨Γ3, B3, H3, q, t2.trans t3, e3, o3⟩
    · rintro σ' H'' ⟨Γ', B', H2, hP, t2, e2, o2⟩
      exact hd Γ' B' hP g σ' H2 H'' e2 o2 D (G.on (t.trans t2))⟩
end
end Gd
namespace Gd
open PySem PySem.Spec PyProof.Rows L2
section
variable {X : Cx} {Γ : List VD} {B B1 B2 B' : Bag} {e a b c : Expr} {es : List Expr} {d da db dc : VD} {pos p p' pos' : Pos} {rest ss s1 s2 : List Stmt} {E : En}
theorem rv3 {K : PySem.W.Frag} {g : Gh} {H0 : Hp} {vs : List V} {d d' d'' : VD} (h : RvAll K g H0 vs [d, d', d'']) : ∃ v v' v'', vs = [v, v', v''] ∧ Rv K g H0 v d ∧ Rv K g H0 v' d' ∧ Rv K g H0 v'' d'' := by
  match vs, h with
  | [v, v', v''], h => exact ⟨v, v', v'', rfl, h.1, h.2.1, h.2.2.1⟩
theorem sj_par3 (i j l : Nat) {x y z : Str} {px py pz pt : Pos} {kt k2 pt2} {d1 d2 d3 : VD} (nd : X.N.Nodup) (hc : X.calm = true) (h : AJ X Γ B [a, b, c] [d1, d2, d3] B1) (k : SJ X (((Γ.set i d1).set j d2).set l d3) B1 rest E)
    (hij : i ≠ j) (hil : i ≠ l) (hjl : j ≠ l) (hw : swappedStores [.Tuple [.Name x px, .Name y py, .Name z pz] kt pt] (.Tuple [a, b, c] k2 pt2) X.env = pure (some [x, y, z])) (hi : X.N[i]? = some x := by rfl) (hj : X.N[j]? = some y := by rfl) (hl : X.N[l]? = some z := by rfl)
    (hx : X.env.scope.names.lookup x = some .local := by rfl) (hy : X.env.scope.names.lookup y = some .local := by rfl) (hz : X.env.scope.names.lookup z = some .local := by rfl)
    (hsw : swapsWithSole [.Tuple [.Name x px, .Name y py, .Name z pz] kt pt] (.Tuple [a, b, c] k2 pt2) pos.line X.env = pure false := by rfl) :
    SJ X Γ B (.Assign [.Tuple [.Name x px, .Name y py, .Name z pz] kt pt] (.Tuple [a, b, c] k2 pt2) pos :: rest) E := fun g σ H0 H Ev O D G =>
  ⟨_, pss_cons (ps_par3 hc nd hi hj hl hij hil hjl hx hy hz (wa [a, b, c]) hw hsw) (ws rest), h g σ H0 H Ev O _ fun vs H1 H' t o r => by
    obtain ⟨u, v, w, rfl, r1, r2, r3⟩ := rv3 r
    exact ⟨u, v, w, rfl, k g _ H1 H' ((((Ev.mono t.ex).set i r1).set j r2).set l r3) o D (G.on t)⟩⟩
theorem shaped_ii (a b : Int) : SeqAt.shaped (.tuple [.int a, .int b]) = true := by
  unfold SeqAt.shaped
  have h1 : (PyData.tuple [.int a, .int b]).canLay0 = true := by simp only [PyData.canLay0, PyData.canLayAll0, Bool.and_self]
  rw [h1]; rfl
end
end Gd
namespace Gd
open PySem PySem.Spec PyProof.Rows L2
section
variable {X : Cx} {Γ : List VD} {B B1 B2 B' : Bag} {a b : Expr} {pos : Pos}
theorem ej_inT {x : Str} {ss : List Str} (ha : EJ X Γ B a (.da (.str x)) B1) (hb : EJ X Γ B1 b (.da (.tuple (ss.map .str))) B2) (hm : behindInMarks .In b = false := by rfl) :
    EJ X Γ B (.Compare a [.In] [b] pos) (.da (.bool (ss.any fun s => decide (s = x)))) B2 :=
  ej_bin ha hb (fun _ _ h1 h2 => pe_cmpR op_in_seq h1 h2 hm) fun g v w H0 H O r1 r2 Q q => by
    obtain ⟨p, xs, rfl, hx, rs⟩ := rvT r2
    rw [rvS r1]
    have e := rs.strs_of
    subst e
    refine ⟨p, _, rfl, .inr (seqT O.ex hx), rfl, ?_, ?_⟩
    · rw [List.all_map]; exact List.all_eq_true.mpr fun _ _ => rfl
    · rw [if_neg (by decide), inV_strs]; exact q _ _ _ To.refl O (Rp.bl _)
end
end Gd
namespace Gd
open PySem PySem.Spec PyProof.Rows L2
theorem Cal.name {P : Program} {w : World} {K : PySem.W.Frag} {mg : Str → Option Value} {base : Heap} {x y : Str} {k : Nat} {R : Rel} {mg' : Str → Option Value} (e : mg x = mg y) (c : Cal P w K mg base x k R) : Cal P w K mg base y k R := by
  obtain ⟨f, fd, ps, F, hm, h⟩ := c
  exact ⟨f, fd, ps, F, e ▸ hm, h⟩
end Gd
namespace Lw
open PySem PySem.Spec PyProof.Rows L2 Gd Fr
open scoped Rat
structure Qz (n d : Nat) (q : Rat) : Prop where
  nu : Bd n q.num
  de : Bd d (q.den : Int)
theorem Qz.le {n d n' d' : Nat} {q : Rat} (h : Qz n d q) (e : n ≤ n') (f : d ≤ d') : Qz n' d' q := ⟨h.nu.le e, h.de.le f⟩
theorem bd_sum {a n : Nat} {i j : Int} (h : Bd a i) (k : Bd n j) (N : Nat) (h1 : a < N) (h2 : n < N) : Bd N (i + j) := by
  have := Int.natAbs_add_le i j
  have e1 : 2 ^ a ≤ 2 ^ (N - 1) := Nat.pow_le_pow_right (by decide) (by omega)
  have e2 : 2 ^ n ≤ 2 ^ (N - 1) := Nat.pow_le_pow_right (by decide) (by omega)
  have e3 : 2 ^ N = 2 ^ (N - 1) * 2 := by rw [← Nat.pow_succ]; congr 1; omega
  unfold Bd at *
  omega
theorem Qz.add {n d m c : Nat} {x y : Rat} (h : Qz n d x) (k : Qz m c y) (N : Nat) (h1 : n + c < N) (h2 : m + d < N) : Qz N (d + c) (x + y) := by
  rw [← add_div]
  have hne : (x.den : Int) * (y.den : Int) ≠ 0 := Int.mul_ne_zero (den_ne x) (den_ne y)
  have hb := bd_sum (h.nu.mul k.de) (k.nu.mul h.de) N h1 h2
  exact ⟨(divInt_bd hne hb (h.de.mul k.de)).1, (divInt_bd hne hb (h.de.mul k.de)).2⟩
theorem Qz.neg {n d : Nat} {x : Rat} (h : Qz n d x) : Qz n d (-x) := ⟨by rw [Rat.neg_num]; exact h.nu.neg, by rw [Rat.neg_den]; exact h.de⟩
theorem Qz.sub {n d m c : Nat} {x y : Rat} (h : Qz n d x) (k : Qz m c y) (N : Nat) (h1 : n + c < N) (h2 : m + d < N) : Qz N (d + c) (x - y) := by
  rw [Rat.sub_eq_add_neg]; exact h.add k.neg N h1 h2
theorem Qz.mul {n d m c : Nat} {x y : Rat} (h : Qz n d x) (k : Qz m c y) : Qz (n + m) (d + c) (x * y) := by
  rw [← mul_div]
  have hne : (x.den : Int) * (y.den : Int) ≠ 0 := Int.mul_ne_zero (den_ne x) (den_ne y)
  exact ⟨(divInt_bd hne (h.nu.mul k.nu) (h.de.mul k.de)).1, (divInt_bd hne (h.nu.mul k.nu) (h.de.mul k.de)).2⟩
theorem cmz {n m : Nat} {i j : Int} (h : Bd n i) (k : Bd m j) (e : n ≤ 100000 := by omega) (e' : m ≤ 100000 := by omega) : CMulW i j := cm h k (by omega)
theorem Qz.nat {a n : Nat} (h : a < 2 ^ n) : Qz n 1 (a : Rat) := ⟨by rw [Rat.num_natCast]; exact Bd.nat h, by rw [Rat.den_natCast]; unfold Bd; decide⟩
inductive R_reduced : Rel
  | mk (n d : Int) (B : Bag) (h : d ≠ 0) (hn : Bd 8900 d) : R_reduced [.da (.int n), .da (.int d)] B (fq (n /. d)) B
inductive R_two (f : Rat → Rat → Rat) : Rel
  | mk (n d m c : Nat) (x y : Rat) (B : Bag) (hx : Qz n d x) (hy : Qz m c y) (h1 : n ≤ 90000) (h2 : m ≤ 90000) (h3 : d + c ≤ 8900) : R_two f [.da (fq x), .da (fq y)] B (fq (f x y)) B
inductive R_below : Rel
  | mk (n d m c : Nat) (x y : Rat) (B : Bag) (hx : Qz n d x) (hy : Qz m c y) (h1 : n + d ≤ 90000) (h2 : m + c ≤ 90000) : R_below [.da (fq x), .da (fq y)] B (.bool (decide (x < y))) B
def absQ (x : Rat) : Rat := if x < 0 then -x else x
theorem num_neg_iff (x : Rat) : x.num < 0 ↔ x < 0 := by
  rw [Rat.lt_iff]
  show x.num < 0 ↔ x.num * 1 < 0 * _
  rw [Int.mul_one, Int.zero_mul]
theorem absQ_num (x : Rat) : (absQ x).num = (if x.num < 0 then -x.num else x.num) ∧ (absQ x).den = x.den := by
  unfold absQ
  by_cases h : x < 0
  · rw [if_pos h, if_pos ((num_neg_iff x).mpr h), Rat.neg_num, Rat.neg_den]; exact ⟨rfl, rfl⟩
  · rw [if_neg h, if_neg (fun z => h ((num_neg_iff x).mp z))]; exact ⟨rfl, rfl⟩
theorem Qz.abs {n d : Nat} {x : Rat} (h : Qz n d x) : Qz n d (absQ x) := by
  unfold absQ; split
  · exact h.neg
  · exact h
theorem absQ_nonneg (x : Rat) : 0 ≤ absQ x := by unfold absQ; split <;> grind
inductive R_one (v : Rat → PyData) : Rel
  | mk (x : Rat) (B : Bag) : R_one v [.da (fq x)] B (v x) B
def pt (l m : Int) : Int := if l = 0 then 0 else if 2 * l < m then 1 else if 2 * l = m then 2 else 3
def outw (way : Str) (s c part : Int) : Bool :=
  if part = 0 ∨ way = "zero" then false
  else if way = "up" then decide (s = 0)
  else if way = "down" then decide (s = 1)
  else if part = 2 then (decide (way = "away") || decide (c % 2 = 1))
  else decide (part = 3)
inductive R_outw : Rel
  | mk (way : Str) (s c part : Int) (B : Bag) : R_outw [.da (.str way), .da (.int s), .da (.int c), .da (.int part)] B (.bool (outw way s c part)) B
def absI (i : Int) : Int := if i < 0 then -i else i
theorem bd_pow {b : Nat} (k : Nat) (h : b < 2 ^ 6) : Bd (6 * k + 1) (((b ^ k : Nat) : Int)) := by
  unfold Bd
  rw [Int.natAbs_natCast, Nat.pow_succ, Nat.pow_mul]
  have := Nat.pow_le_pow_left (Nat.le_of_lt h) k
  have p : 0 < (2 ^ 6) ^ k := Nat.pow_pos (by decide)
  omega
def intAt (Γ : List VD) (i : Nat) : Int := match Γ[i]? with
  | some (.da (.int m)) => m
  | _ => 0
theorem pow_sq (b k : Nat) : ((b ^ k : Nat) : Int) * ((b ^ k : Nat) : Int) = ((b ^ (k + k) : Nat) : Int) := by rw [← Int.natCast_mul, ← Nat.pow_add]
theorem pow_up (b j k : Nat) : ((b ^ j : Nat) : Int) * ((b ^ k : Nat) : Int) = ((b ^ (j + k) : Nat) : Int) := by rw [← Int.natCast_mul, ← Nat.pow_add]
theorem half (m : Nat) : (m : Int) / 2 = ((m / 2 : Nat) : Int) := by omega
theorem turn_odd {j k m e : Nat} (h : j + k * m = e) (h1 : m % 2 = 1) : (j + k) + (k + k) * (m / 2) = e := by
  have : m = 2 * (m / 2) + 1 := by omega
  rw [this] at h
  generalize m / 2 = t at *
  grind
theorem turn_even {j k m e : Nat} (h : j + k * m = e) (h1 : ¬ m % 2 = 1) : j + (k + k) * (m / 2) = e := by
  have : m = 2 * (m / 2) := by omega
  rw [this] at h
  generalize m / 2 = t at *
  grind
theorem k_le {j k m e : Nat} (h : j + k * m = e) (h1 : 0 < m) : k ≤ e ∧ j ≤ e := by
  have : k * 1 ≤ k * m := Nat.mul_le_mul_left k h1
  omega
theorem j_end {j k m e : Nat} (h : j + k * m = e) (h1 : ¬ 0 < m) : j = e := by
  have : m = 0 := by omega
  subst this; omega
inductive R_pow : Rel
  | mk (b e : Nat) (B : Bag) (hb : b < 2 ^ 6) (he : e ≤ 20000) : R_pow [.da (.int b), .da (.int e)] B (.int ((b ^ e : Nat) : Int)) B
def pw (b : Nat) (e : Int) : Rat := if e < 0 then ((b ^ (-e).toNat : Nat) : Rat)⁻¹ else ((b ^ e.toNat : Nat) : Rat)
theorem fq_nat (n : Nat) : fq (n : Rat) = .tuple [.int n, .int 1] := by unfold fq; rw [Rat.num_natCast, Rat.den_natCast]; rfl
theorem fq_inv {n : Nat} (h : 0 < n) : fq ((n : Rat)⁻¹) = .tuple [.int 1, .int n] := by
  unfold fq
  rw [Rat.num_inv, Rat.den_inv, Rat.num_natCast, Rat.den_natCast, if_neg (by omega), Int.sign_eq_one_of_pos (by omega)]
  rfl
inductive R_power_of : Rel
  | mk (b : Nat) (e : Int) (B : Bag) (h0 : 0 < b) (hb : b < 2 ^ 6) (h1 : -20000 ≤ e) (h2 : e ≤ 20000) : R_power_of [.da (.int b), .da (.int e)] B (fq (pw b e)) B
inductive R_bag : Rel
  | mk (ns : List Int) (B : Bag) (hl : ns.length ≤ 63) : R_bag [.scr ns] B (.list [.int 0, .int 1234567891, .int 0, .list (((ns.take 63).map absI).map .int)]) B
theorem cut_head (ns : List Int) (n : Nat) : cutP (ns.map PyData.int) none (some (n : Int)) = (ns.take n).map PyData.int := by
  unfold cutP
  rw [HT.sIx_none, HT.sIx_nat, List.drop_zero, List.length_map, Nat.sub_zero, ← List.map_take]
  congr 1
  by_cases h : n ≤ ns.length
  · rw [Nat.min_eq_left h]
  · rw [Nat.min_eq_right (by omega), List.take_length, List.take_of_length_le (by omega)]
def cell (B : Bag) : Int := ((B.cs.drop (HT.sIx B.cs.length 0 (some B.z))) ++ [0]).headD 0
def stir (B : Bag) : Bag :=
  if B.x = 0 then ⟨if 10 ^ 18 ≤ cell B then cell B else B.x, (B.y * 48271 + cell B % 2147483647 + 7919 * (B.z + 1)) % 2147483647, B.z + 1, B.cs⟩ else B
def low (B : Bag) : Int := (((B.y + 1) * 39373) % 1000000007 * (((B.y + 1) * 39373) % 1000000007) % 998244353 * 30011) % 998244353 / 7
def tkV (B : Bag) (m : Int) : Int := if 0 < (stir B).x then (stir B).x % m else low (stir B) % m
def tkB (B : Bag) (m : Int) : Bag := if 0 < (stir B).x then { stir B with x := (stir B).x / m } else stir B
theorem tkV_ge (B : Bag) {m : Int} (h : 0 < m) : 0 ≤ tkV B m := by
  unfold tkV; split <;> exact Int.emod_nonneg _ (Int.ne_of_gt h)
theorem tkV_lt (B : Bag) {m : Int} (h : 0 < m) : tkV B m < m := by
  unfold tkV; split <;> exact Int.emod_lt_of_pos _ h
def Bok (B : Bag) : Prop := B.cs.length ≤ 63
theorem stir_ok {B : Bag} (h : Bok B) : Bok (stir B) := by
  unfold stir; split <;> exact h
theorem tkB_ok {B : Bag} (h : Bok B) (m : Int) : Bok (tkB B m) := by
  unfold tkB; split <;> exact stir_ok h
inductive R_take : Rel
  | mk (B : Bag) (m : Int) (h : 0 < m) (hb : Bd 8000 m) (hc : Bok B) : R_take [.bag, .da (.int m)] B (.int (tkV B m)) (tkB B m)
theorem drop_cell (B : Bag) : atI (cutP (B.cs.map PyData.int) (some B.z) none ++ [PyData.int 0]) 0 = some (.int (cell B)) := by
  have e : cutP (B.cs.map PyData.int) (some B.z) none = (B.cs.drop (HT.sIx B.cs.length 0 (some B.z))).map PyData.int := by
    unfold cutP
    rw [HT.sIx_none, List.length_map, ← List.map_drop, List.take_of_length_le]
    rw [List.length_map, List.length_drop]; omega
  rw [e]
  unfold cell
  cases B.cs.drop (HT.sIx B.cs.length 0 (some B.z)) with
  | nil => rfl
  | cons c cs =>
    show atI (PyData.int c :: _) ((0 : Nat) : Int) = some (.int c)
    exact atI_nat rfl
def pick (ds : List PyData) (B : Bag) : PyData := ds.getD (tkV B ds.length).toNat .none
inductive R_some : Rel
  | mk (B : Bag) (ds : List PyData) (h : 0 < ds.length) (hl : ds.length ≤ 1000) (hc : Bok B) : R_some [.bag, .da (.list ds)] B (pick ds B) (tkB B ds.length)
theorem pick_at (ds : List PyData) (B : Bag) (h : 0 < ds.length) : atI ds (tkV B ds.length) = some (pick ds B) := by
  have h0 := tkV_ge B (m := ds.length) (by omega)
  have h1 := tkV_lt B (m := ds.length) (by omega)
  have e : tkV B ds.length = ((tkV B ds.length).toNat : Int) := by omega
  have hlt : (tkV B ds.length).toNat < ds.length := by omega
  conv => lhs; rw [e]
  refine atI_nat ?_
  unfold pick
  rw [List.getD_eq_getElem?_getD, List.getElem?_eq_getElem hlt]; rfl
inductive R_alike : Rel
  | mk (d : PyData) (B : Bag) (h : Okd d) (hb : boxed d = true) : R_alike [.da d, .da d] B (.bool true) B
inductive R_common : Rel
  | mk (n d : Int) (B : Bag) : R_common [.da (.int n), .da (.int d)] B (.int (Nat.gcd n.natAbs d.natAbs : Nat)) B
theorem absI_nat (n : Int) : (if n < 0 then -n else n) = (n.natAbs : Int) := by split <;> omega
theorem com_if {n d : Int} (h : d ≠ 0) : (bif decide (0 < d) then ((Nat.gcd n.natAbs d.natAbs : Nat) : Int) else -((Nat.gcd n.natAbs d.natAbs : Nat) : Int)) = com n d := by
  unfold com
  by_cases h1 : 0 < d
  · rw [decide_eq_true h1, if_neg (by omega)]; rfl
  · rw [decide_eq_false h1, if_pos (by omega)]; rfl
def wayList : List Str := ["even", "away", "up", "down", "zero"]
inductive R_ways : Rel
  | mk (B : Bag) : R_ways [] B (.list (wayList.map .str)) B
end Lw
namespace Lw
open PySem PySem.Spec PyProof.Rows L2 Gd Fr
open scoped Rat
theorem ltle {a b c : Rat} (h : a < b) (k : b ≤ c) : a < c := by grind
theorem lelt {a b c : Rat} (h : a ≤ b) (k : b < c) : a < c := by grind
theorem pw_eq (b : Nat) (e : Int) : pw b e = (b : Rat) ^ e := by
  unfold pw
  by_cases h : e < 0
  · rw [if_pos h]
    have e1 : e = -((-e).toNat : Int) := by omega
    conv => rhs; rw [e1]
    rw [Rat.zpow_neg, Rat.zpow_natCast, Rat.natCast_pow]
  · rw [if_neg h]
    have e1 : e = (e.toNat : Int) := by omega
    conv => rhs; rw [e1]
    rw [Rat.zpow_natCast, Rat.natCast_pow]
section
variable {b p : Nat} (h2 : 2 ≤ b)
include h2
theorem b_pos : (0 : Rat) < (b : Rat) := Rat.natCast_pos.mpr (by omega)
theorem pw_pos (e : Int) : 0 < pw b e := by rw [pw_eq]; exact Rat.zpow_pos (b_pos h2)
theorem pw_ne (e : Int) : pw b e ≠ 0 := fun z => by have := pw_pos h2 e; rw [z] at this; exact absurd this (by decide)
theorem pw_add (x y : Int) : pw b (x + y) = pw b x * pw b y := by
  rw [pw_eq, pw_eq, pw_eq]
  exact Rat.zpow_add (fun z => by have := b_pos h2; rw [z] at this; exact absurd this (by decide)) x y
omit h2 in
theorem pw_nat (n : Nat) : pw b (n : Int) = ((b ^ n : Nat) : Rat) := by
  unfold pw; rw [if_neg (by omega), Int.toNat_natCast]
omit h2 in
theorem pw_zero : pw b 0 = 1 := by
  have := pw_nat (b := b) 0
  rw [Nat.pow_zero] at this; exact this
omit h2 in
theorem pw_of {e : Int} (h : 0 ≤ e) : pw b e = ((b ^ e.toNat : Nat) : Rat) := by
  unfold pw; rw [if_neg (by omega)]
theorem pw_ge1 {e : Int} (h : 0 ≤ e) : 1 ≤ pw b e := by
  rw [pw_of h]
  have : 1 ≤ b ^ e.toNat := Nat.pow_pos (by omega)
  exact Rat.natCast_le_natCast.mpr this
theorem pw_mono {x y : Int} (h : x ≤ y) : pw b x ≤ pw b y := by
  have e : y = (y - x) + x := by omega
  rw [e, pw_add h2]
  have h1 := pw_ge1 h2 (e := y - x) (by omega)
  have := Rat.mul_le_mul_of_nonneg_right h1 (Rat.le_of_lt (pw_pos h2 x))
  rw [Rat.one_mul] at this; exact this
def IsE (b p : Nat) (low : Int) (q : Rat) (e : Int) : Prop := low ≤ e ∧ q < pw b (p + e) ∧ (e = low ∨ pw b (p + e - 1) ≤ q)
theorem isE_uniq {low e e' : Int} {q : Rat} (h : IsE b p low q e) (h' : IsE b p low q e') : e = e' := by
  have key : ∀ {e e' : Int}, IsE b p low q e → IsE b p low q e' → ¬ e < e' := by
    rintro e e' ⟨a1, a2, a3⟩ ⟨b1, b2, b3⟩ hlt
    rcases b3 with b3 | b3
    · omega
    · have := pw_mono h2 (x := p + e) (y := p + e' - 1) (by omega)
      exact absurd (ltle a2 (Rat.le_trans this b3)) (Rat.lt_irrefl)
  have k1 := key h h'
  have k2 := key h' h
  omega
end
def Nq (b : Nat) (e : Int) (q : Rat) : Int := q.num * ((b ^ (-e).toNat : Nat) : Int)
def Dq (b : Nat) (e : Int) (q : Rat) : Int := (q.den : Int) * ((b ^ e.toNat : Nat) : Int)
def cQ (b : Nat) (e : Int) (q : Rat) : Int := Nq b e q / Dq b e q
def rQ (b : Nat) (e : Int) (q : Rat) : Int := Nq b e q % Dq b e q
def tQ (b : Nat) (e : Int) (q : Rat) : Rat := (rQ b e q : Rat) / (Dq b e q : Rat)
section
variable {b p : Nat} (h2 : 2 ≤ b)
include h2
theorem Dq_pos (e : Int) (q : Rat) : 0 < Dq b e q := Int.mul_pos (den_pos q) (Int.natCast_pos.mpr (Nat.pow_pos (by omega)))
theorem Dq_ne (e : Int) (q : Rat) : ((Dq b e q : Int) : Rat) ≠ 0 := fun z => by
  have := Dq_pos h2 e q
  have e0 : Dq b e q = 0 := Rat.intCast_inj.mp (z.trans (by rfl))
  omega
theorem unit_ND (e : Int) : pw b e * ((b ^ (-e).toNat : Nat) : Rat) = ((b ^ e.toNat : Nat) : Rat) := by
  by_cases h : e < 0
  · have h1 : e.toNat = 0 := by omega
    rw [h1, Nat.pow_zero]
    unfold pw; rw [if_pos h]
    have : ((b ^ (-e).toNat : Nat) : Rat) ≠ 0 := fun z => by
      have h3 : 0 < b ^ (-e).toNat := Nat.pow_pos (by omega)
      have := Rat.natCast_pos.mpr h3
      rw [z] at this; exact absurd this (by decide)
    rw [Rat.mul_comm, Rat.mul_inv_cancel _ this]; rfl
  · have h1 : (-e).toNat = 0 := by omega
    rw [h1, Nat.pow_zero, pw_of (by omega)]
    exact Rat.mul_one _
omit h2 in
theorem num_den (q : Rat) : q * ((q.den : Int) : Rat) = (q.num : Rat) := by
  have h := Rat.num_divInt_den q
  rw [Rat.divInt_eq_div] at h
  have hd : ((q.den : Int) : Rat) ≠ 0 := fun z => by
    have e0 : (q.den : Int) = 0 := Rat.intCast_inj.mp (z.trans (by rfl))
    exact den_ne q e0
  conv => lhs; lhs; rw [← h]
  exact Rat.div_mul_cancel hd
theorem ND (e : Int) (q : Rat) : q * (Dq b e q : Rat) = (Nq b e q : Rat) * pw b e := by
  unfold Dq Nq
  rw [Rat.intCast_mul, Rat.intCast_mul, ← num_den q, Rat.intCast_natCast, Rat.intCast_natCast, Rat.intCast_natCast, ← unit_ND h2 e]
  grind
theorem q_val (e : Int) (q : Rat) : q = ((cQ b e q : Rat) + tQ b e q) * pw b e := by
  have hne := Dq_ne h2 e q
  have h := ND h2 e q
  have hd := Int.emod_add_mul_ediv (Nq b e q) (Dq b e q)
  have hd' : (Nq b e q : Rat) = (rQ b e q : Rat) + (Dq b e q : Rat) * (cQ b e q : Rat) := by
    rw [← Rat.intCast_mul, ← Rat.intCast_add]
    exact congrArg _ hd.symm
  have ht : tQ b e q * (Dq b e q : Rat) = (rQ b e q : Rat) := Rat.div_mul_cancel hne
  have : q * (Dq b e q : Rat) = (((cQ b e q : Rat) + tQ b e q) * pw b e) * (Dq b e q : Rat) := by
    rw [h, hd', ← ht]; grind
  have h3 := congrArg (· / (Dq b e q : Rat)) this
  simp only [Rat.mul_div_cancel hne] at h3
  exact h3
theorem r_ge (e : Int) (q : Rat) : 0 ≤ rQ b e q := Int.emod_nonneg _ (Int.ne_of_gt (Dq_pos h2 e q))
theorem r_lt (e : Int) (q : Rat) : rQ b e q < Dq b e q := Int.emod_lt_of_pos _ (Dq_pos h2 e q)
theorem Dq_posQ (e : Int) (q : Rat) : (0 : Rat) < (Dq b e q : Rat) := Rat.intCast_lt_intCast.mpr (Dq_pos h2 e q)
theorem t_mul (e : Int) (q : Rat) : tQ b e q * (Dq b e q : Rat) = (rQ b e q : Rat) := Rat.div_mul_cancel (Dq_ne h2 e q)
theorem t_lt_iff (e : Int) (q : Rat) (m : Int) (k : Nat) (hk : 0 < k) : (k : Rat) * tQ b e q < (m : Rat) ↔ k * rQ b e q < m * Dq b e q := by
  rw [← Rat.mul_lt_mul_right (Dq_posQ h2 e q), Rat.mul_assoc, t_mul h2, ← Rat.intCast_natCast, ← Rat.intCast_mul, ← Rat.intCast_mul, Rat.intCast_lt_intCast]
theorem t_ge (e : Int) (q : Rat) : 0 ≤ tQ b e q := by
  rw [← Rat.not_lt]
  intro h
  have := (t_lt_iff h2 e q 0 1 (by decide)).mp (by rw [show ((1 : Nat) : Rat) = 1 from rfl, Rat.one_mul]; exact h)
  have := r_ge h2 e q
  omega
theorem t_lt1 (e : Int) (q : Rat) : tQ b e q < 1 := by
  have := (t_lt_iff h2 e q 1 1 (by decide)).mpr (by have := r_lt h2 e q; omega)
  rw [show ((1 : Nat) : Rat) = 1 from rfl, Rat.one_mul] at this; exact this
end
end Lw
namespace Lw
open PySem PySem.Spec PyProof.Rows L2 Gd Fr
open scoped Rat
theorem cast_lt {a c : Int} : (a : Rat) < (c : Rat) ↔ a < c := Rat.intCast_lt_intCast
theorem cast_le {a c : Int} : (a : Rat) ≤ (c : Rat) ↔ a ≤ c := Rat.intCast_le_intCast
theorem cast_s (a : Int) : ((a + 1 : Int) : Rat) = (a : Rat) + 1 := by rw [Rat.intCast_add]; rfl
section
variable {b p : Nat} (h2 : 2 ≤ b)
include h2
theorem c_uniq {e : Int} {q s : Rat} {C : Int} (h : q = ((C : Rat) + s) * pw b e) (h0 : 0 ≤ s) (h1 : s < 1) : cQ b e q = C ∧ tQ b e q = s := by
  have hv := q_val h2 e q
  have hu := pw_ne h2 e
  have t0 := t_ge h2 e q
  have t1 := t_lt1 h2 e q
  rw [h] at hv
  have e1 : (C : Rat) + s = (cQ b e q : Rat) + tQ b e q := by
    have := congrArg (· / pw b e) hv
    simp only [Rat.mul_div_cancel hu] at this
    rw [h]; exact this
  have a1 : (C : Rat) < ((cQ b e q + 1 : Int) : Rat) := by rw [cast_s]; grind
  have a2 : (cQ b e q : Rat) < ((C + 1 : Int) : Rat) := by rw [cast_s]; grind
  have a1 := cast_lt.mp a1
  have a2 := cast_lt.mp a2
  have e2 : cQ b e q = C := by omega
  rw [e2] at e1
  exact ⟨e2, by grind⟩
theorem c_ge {q : Rat} (h : 0 ≤ q) (e : Int) : 0 ≤ cQ b e q :=
  Int.ediv_nonneg (Int.mul_nonneg (Rat.num_nonneg.mpr h) (Int.natCast_nonneg _)) (Int.le_of_lt (Dq_pos h2 e q))
theorem c_le (e : Int) (q : Rat) : (cQ b e q : Rat) * pw b e ≤ q := by
  have hv := q_val h2 e q
  have := Rat.mul_le_mul_of_nonneg_right (show (cQ b e q : Rat) ≤ (cQ b e q : Rat) + tQ b e q by have := t_ge h2 e q; grind) (Rat.le_of_lt (pw_pos h2 e))
  rw [← hv] at this; exact this
theorem c_up (e : Int) (q : Rat) : q < ((cQ b e q : Rat) + 1) * pw b e := by
  have hv := q_val h2 e q
  have := Rat.mul_lt_mul_of_pos_right (show (cQ b e q : Rat) + tQ b e q < (cQ b e q : Rat) + 1 by have := t_lt1 h2 e q; grind) (pw_pos h2 e)
  rw [← hv] at this; exact this
theorem pw_p (n : Nat) (e : Int) : pw b (n + e) = (((b ^ n : Nat) : Int) : Rat) * pw b e := by rw [pw_add h2, pw_nat, Rat.intCast_natCast]
theorem c_lt {low e : Int} {q : Rat} (h : IsE b p low q e) : cQ b e q < ((b ^ p : Nat) : Int) := by
  have h1 := lelt (c_le h2 e q) h.2.1
  rw [pw_p h2, Rat.mul_lt_mul_right (pw_pos h2 e)] at h1
  exact cast_lt.mp h1
def Can (b p : Nat) (low C e : Int) : Prop := 0 ≤ C ∧ C < ((b ^ p : Nat) : Int) ∧ low ≤ e ∧ (e = low ∨ ((b ^ (p - 1) : Nat) : Int) ≤ C)
theorem can_isE {low C e : Int} (hp : 1 ≤ p) (h : Can b p low C e) : IsE b p low ((C : Rat) * pw b e) e := by
  obtain ⟨a1, a2, a3, a4⟩ := h
  refine ⟨a3, ?_, a4.imp id fun z => ?_⟩
  · rw [pw_p h2, Rat.mul_lt_mul_right (pw_pos h2 e)]; exact cast_lt.mpr a2
  · have e1 : (p : Int) + e - 1 = ((p - 1 : Nat) : Int) + e := by omega
    rw [e1, pw_p h2]
    exact Rat.mul_le_mul_of_nonneg_right (cast_le.mpr z) (Rat.le_of_lt (pw_pos h2 e))
theorem can_c (C e : Int) : cQ b e ((C : Rat) * pw b e) = C := (c_uniq h2 (s := 0) (by grind) (by grind) (by grind)).1
theorem isE_ex (low : Int) (q : Rat) : ∃ e, IsE b p low q e := by
  have step : ∀ n : Nat, q < pw b (p + (low + n)) → ∃ e, IsE b p low q e := by
    intro n
    induction n with
    | zero => intro h; exact ⟨low, Int.le_refl _, by rw [show (low + (0 : Nat) : Int) = low by omega] at h; exact h, .inl rfl⟩
    | succ n ih =>
      intro h
      by_cases h1 : q < pw b (p + (low + n))
      · exact ih h1
      · refine ⟨low + (n + 1 : Nat), by omega, h, .inr ?_⟩
        rw [show (p : Int) + (low + (n + 1 : Nat)) - 1 = p + (low + n) by omega]
        exact Rat.not_lt.mp h1
  refine step (q.num.natAbs + (-(p + low)).toNat) ?_
  have h1 : pw b (q.num.natAbs : Int) ≤ pw b (p + (low + (q.num.natAbs + (-(p + low)).toNat : Nat))) := pw_mono h2 (by omega)
  refine ltle ?_ h1
  rw [pw_nat]
  have h3 : q.num.natAbs < b ^ q.num.natAbs := Nat.lt_pow_self (by omega)
  by_cases hq : 0 ≤ q
  · have h4 : q ≤ (q.num : Rat) := by
      have hd := num_den q
      have h5 : (1 : Rat) ≤ ((q.den : Int) : Rat) := cast_le.mpr (show 1 ≤ (q.den : Int) by have := den_pos q; omega)
      have := Rat.mul_le_mul_of_nonneg_left h5 hq
      rw [hd, Rat.mul_one] at this; exact this
    refine lelt h4 ?_
    rw [← Rat.intCast_natCast]
    exact cast_lt.mpr (by omega)
  · rw [Rat.not_le] at hq
    have := Rat.natCast_pos.mpr (show 0 < b ^ q.num.natAbs by omega)
    exact ltle hq (Rat.le_of_lt this)
end
open Classical in
noncomputable def eQ (b p : Nat) (low : Int) (q : Rat) : Int := if h : ∃ e, IsE b p low q e then h.choose else low
theorem eQ_is {b p : Nat} (h2 : 2 ≤ b) (low : Int) (q : Rat) : IsE b p low q (eQ b p low q) := by
  have h := isE_ex (p := p) h2 low q
  unfold eQ; rw [dif_pos h]; exact h.choose_spec
theorem eQ_of {b p : Nat} (h2 : 2 ≤ b) {low e : Int} {q : Rat} (h : IsE b p low q e) : eQ b p low q = e := isE_uniq h2 (eQ_is h2 low q) h
def upN (b p : Nat) (c e : Int) : Int × Int := if c + 1 = ((b ^ p : Nat) : Int) then (((b ^ (p - 1) : Nat) : Int), e + 1) else (c + 1, e)
def nb (b p : Nat) (o : Bool) (c e : Int) : Int × Int := if o = true then upN b p c e else (c, e)
theorem nb_can {b p : Nat} {low c e : Int} {o : Bool} (h2 : 2 ≤ b) (hp : 2 ≤ p) (h : Can b p low c e) : Can b p low (nb b p o c e).1 (nb b p o c e).2 ∧ (((nb b p o c e).1 : Rat) * pw b (nb b p o c e).2 = (if o = true then (c : Rat) + 1 else (c : Rat)) * pw b e) := by
  obtain ⟨a1, a2, a3, a4⟩ := h
  have e1 : b ^ p = b ^ (p - 1) * b := by rw [← Nat.pow_succ]; congr 1; omega
  have p1 : 0 < b ^ (p - 1) := Nat.pow_pos (by omega)
  have p2 : b ^ (p - 1) * 2 ≤ b ^ (p - 1) * b := Nat.mul_le_mul_left _ h2
  unfold nb
  by_cases ho : o = true
  · rw [if_pos ho, if_pos ho]
    unfold upN
    by_cases hc : c + 1 = ((b ^ p : Nat) : Int)
    · rw [if_pos hc]
      refine ⟨⟨by omega, by omega, by omega, .inr (Int.le_refl _)⟩, ?_⟩
      rw [← cast_s, hc, ← pw_p h2 p e]
      have := pw_p h2 (p - 1) (e + 1)
      rw [← this]
      congr 1; omega
    · rw [if_neg hc]
      exact ⟨⟨by omega, by omega, a3, a4.imp id fun z => by omega⟩, by rw [cast_s]⟩
  · rw [if_neg ho, if_neg ho]
    exact ⟨⟨a1, a2, a3, a4⟩, rfl⟩
def words (l : List Str) : PyData := .tuple (l.map .str)
def nm (s c e : Int) : PyData := .tuple [.str "num", .int s, .int c, .int e]
def isInf (way : Str) (s : Int) : Bool := decide (way = "even" ∨ way = "away") || (decide (way = "up") && decide (s = 0)) || (decide (way = "down") && decide (s = 1))
def tooG (b p : Nat) (high : Int) (way : Str) (s : Int) : PyData := if isInf way s = true then .tuple [.str "inf", .int s] else nm s (((b ^ p : Nat) : Int) - 1) high
def outP (b p : Nat) (high : Int) (way : Str) (s e c part : Int) : PyData :=
  if high < (nb b p (outw way s c part) c e).2 then .tuple [tooG b p high way s, words ["inexact", "over"]]
  else .tuple [nm s (nb b p (outw way s c part) c e).1 (nb b p (outw way s c part) c e).2, if part = 0 then words [] else if c < ((b ^ (p - 1) : Nat) : Int) then words ["inexact", "tiny"] else words ["inexact"]]
end Lw
set_option exponentiation.threshold 4000
namespace Lw
open PySem PySem.Spec PyProof.Rows L2 Gd Fr
open scoped Rat
structure Fm (b p : Nat) (low high : Int) : Prop where
  b2 : 2 ≤ b
  b6 : b < 2 ^ 6
  p2 : 2 ≤ p
  p7 : p ≤ 120
  lo : -1200 ≤ low
  lh : low ≤ high
  hi : high ≤ 1200
  bp : b ^ p < 2 ^ 700
  bl : b ^ (-low).toNat < 2 ^ 2340
  bh : b ^ high.toNat < 2 ^ 2340
def fmP (b p : Nat) (low high : Int) : PyData := .tuple [.int b, .int p, .int low, .int high]
theorem ways {way : Str} (h : way ∈ wayList) : way = "even" ∨ way = "away" ∨ way = "up" ∨ way = "down" ∨ way = "zero" := by unfold wayList at h; simpa using h
theorem pw_bd {b : Nat} (h2 : 2 ≤ b) {e : Int} {n d : Nat} (hn : b ^ e.toNat < 2 ^ n) (hd : b ^ (-e).toNat < 2 ^ d) (h1 : 1 ≤ n) (h1' : 1 ≤ d) : Qz n d (pw b e) := by
  unfold pw
  by_cases h : e < 0
  · rw [if_pos h]
    have hp : 0 < b ^ (-e).toNat := Nat.pow_pos (by omega)
    refine ⟨?_, ?_⟩
    · rw [Rat.num_inv, Rat.num_natCast, Rat.den_natCast]
      have : (((b ^ (-e).toNat : Nat) : Int)).sign = 1 := Int.sign_eq_one_of_pos (by omega)
      rw [this]
      exact (show Bd 1 (1 * ((1 : Nat) : Int)) by unfold Bd; decide).le h1
    · rw [Rat.den_inv, Rat.num_natCast, if_neg (by omega), Int.natAbs_natCast]
      exact Bd.nat hd
  · rw [if_neg h]
    exact ⟨by rw [Rat.num_natCast]; exact Bd.nat hn, by rw [Rat.den_natCast]; exact (show Bd 1 ((1 : Nat) : Int) by unfold Bd; decide).le h1'⟩
section
variable {b p : Nat} {low high : Int} (F : Fm b p low high)
include F
theorem Fm.pow_lo {e : Int} (h : low ≤ e) : b ^ (-e).toNat < 2 ^ 2340 := Nat.lt_of_le_of_lt (Nat.pow_le_pow_right (by have := F.b2; omega) (by omega)) F.bl
theorem Fm.pow_hi {e : Int} (h : e ≤ high) : b ^ e.toNat < 2 ^ 2340 := Nat.lt_of_le_of_lt (Nat.pow_le_pow_right (by have := F.b2; omega) (by omega)) F.bh
theorem Fm.qz {e : Int} (h : low ≤ e) (h' : e ≤ high) : Qz 2340 2340 (pw b e) := pw_bd F.b2 (F.pow_hi h') (F.pow_lo h) (by decide) (by decide)
theorem Fm.e_bd {q : Rat} {e : Int} {n d : Nat} (hq : Qz n d q) (h0 : 0 ≤ q) (hE : IsE b p low q e) : (q.den * b ^ e.toNat < 2 ^ n ∧ 0 < e ∧ low < e) ∨ (e ≤ 0 ∨ e = low) := by
  by_cases h : 0 < e ∧ low < e
  · refine .inl ⟨?_, h⟩
    have h3 := hE.2.2
    have h4 : pw b (p + e - 1) ≤ q := by
      rcases h3 with z | z
      · omega
      · exact z
    have h5 : pw b (e : Int) ≤ q := Rat.le_trans (pw_mono F.b2 (by have := F.p2; omega)) h4
    have hd0 : (0 : Rat) ≤ ((q.den : Int) : Rat) := cast_le.mpr (Int.le_of_lt (den_pos q))
    have h6 := Rat.mul_le_mul_of_nonneg_right h5 hd0
    rw [num_den, pw_of (by omega), ← Rat.intCast_natCast, ← Rat.intCast_mul] at h6
    have h7 := cast_le.mp h6
    have h8 := hq.nu
    unfold Bd at h8
    have h9 : (q.den : Int) * ((b ^ e.toNat : Nat) : Int) ≤ q.num := by rw [Int.mul_comm]; exact h7
    have h10 : ((q.den * b ^ e.toNat : Nat) : Int) ≤ q.num := by rw [Int.natCast_mul]; exact h9
    omega
  · exact .inr (by have := hE.1; omega)
theorem Fm.D_bd {q : Rat} {e : Int} {n d : Nat} (hq : Qz n d q) (h0 : 0 ≤ q) (hE : IsE b p low q e) (hn : n ≤ 8900) (hd : d ≤ 6500) : Bd 8900 (Dq b e q) := by
  unfold Dq
  rw [← Int.natCast_mul]
  rcases F.e_bd hq h0 hE with ⟨h, _, _⟩ | h
  · exact (Bd.nat h).le hn
  · have h1 : b ^ e.toNat < 2 ^ 2340 := by
      rcases h with h | h
      · have : e.toNat = 0 := by omega
        rw [this, Nat.pow_zero]; exact Nat.one_lt_two_pow (by decide)
      · rw [h]; exact F.pow_hi F.lh
    rw [Int.natCast_mul]
    exact (hq.de.mul (Bd.nat h1)).le (by omega)
theorem Fm.u_bd {q : Rat} {e : Int} {n d : Nat} (hq : Qz n d q) (h0 : 0 ≤ q) (hE : IsE b p low q e) : Qz (max n 2340) 2340 (pw b e) := by
  have hd1 : 1 ≤ q.den := q.den_pos
  have hlo : b ^ (-e).toNat < 2 ^ 2340 := F.pow_lo hE.1
  rcases F.e_bd hq h0 hE with ⟨h, _, _⟩ | h
  · have h1 : b ^ e.toNat < 2 ^ n := Nat.lt_of_le_of_lt (Nat.le_mul_of_pos_left _ hd1) h
    exact pw_bd F.b2 (Nat.lt_of_lt_of_le h1 (Nat.pow_le_pow_right (by decide) (by omega))) hlo (by omega) (by decide)
  · have h1 : b ^ e.toNat < 2 ^ 2340 := by
      rcases h with h | h
      · have : e.toNat = 0 := by omega
        rw [this, Nat.pow_zero]; exact Nat.one_lt_two_pow (by decide)
      · rw [h]; exact F.pow_hi F.lh
    exact pw_bd F.b2 (Nat.lt_of_lt_of_le h1 (Nat.pow_le_pow_right (by decide) (by omega))) hlo (by omega) (by decide)
theorem Fm.e_hi {q : Rat} {e : Int} {n d : Nat} (hq : Qz n d q) (h0 : 0 ≤ q) (hE : IsE b p low q e) (hn : n ≤ 8900) : e ≤ 9000 := by
  rcases F.e_bd hq h0 hE with ⟨h, _, _⟩ | h
  · have hd1 : 1 ≤ q.den := q.den_pos
    have h1 : b ^ e.toNat < 2 ^ n := Nat.lt_of_le_of_lt (Nat.le_mul_of_pos_left _ hd1) h
    have h2 : 2 ^ e.toNat ≤ b ^ e.toNat := Nat.pow_le_pow_left F.b2 _
    have h3 : e.toNat < n := (Nat.pow_lt_pow_iff_right (by decide)).mp (Nat.lt_of_le_of_lt h2 h1)
    omega
  · have := F.hi; have := F.lh
    rcases h with h | h <;> omega
end
section
variable {b p : Nat} (h2 : 2 ≤ b)
include h2
theorem mul_lt_u {x y : Rat} (e : Int) : x * pw b e < y * pw b e ↔ x < y := Rat.mul_lt_mul_right (pw_pos h2 e)
end
theorem outw_even {s c k : Int} (hk : k ≠ 0) : outw "even" s c k = if k = 2 then decide (c % 2 = 1) else decide (k = 3) := by
  unfold outw
  rw [if_neg (show ¬ (k = 0 ∨ ("even" : Str) = "zero") from fun z => z.elim hk fun y => absurd y (by decide)), if_neg (show ¬ ("even" : Str) = "up" by decide), if_neg (show ¬ ("even" : Str) = "down" by decide),
    show decide (("even" : Str) = "away") = false by decide, Bool.false_or]
theorem outw_away {s c k : Int} (hk : k ≠ 0) : outw "away" s c k = if k = 2 then true else decide (k = 3) := by
  unfold outw
  rw [if_neg (show ¬ (k = 0 ∨ ("away" : Str) = "zero") from fun z => z.elim hk fun y => absurd y (by decide)), if_neg (show ¬ ("away" : Str) = "up" by decide), if_neg (show ¬ ("away" : Str) = "down" by decide),
    show decide (("away" : Str) = "away") = true by decide, Bool.true_or]
theorem outw_up {s c k : Int} (hk : k ≠ 0) : outw "up" s c k = decide (s = 0) := by
  unfold outw
  rw [if_neg (show ¬ (k = 0 ∨ ("up" : Str) = "zero") from fun z => z.elim hk fun y => absurd y (by decide)), if_pos (show ("up" : Str) = "up" by decide)]
theorem outw_down {s c k : Int} (hk : k ≠ 0) : outw "down" s c k = decide (s = 1) := by
  unfold outw
  rw [if_neg (show ¬ (k = 0 ∨ ("down" : Str) = "zero") from fun z => z.elim hk fun y => absurd y (by decide)), if_neg (show ¬ ("down" : Str) = "up" by decide), if_pos (show ("down" : Str) = "down" by decide)]
theorem outw_zero {s c k : Int} : outw "zero" s c k = false := by
  unfold outw
  rw [if_pos (show k = 0 ∨ ("zero" : Str) = "zero" from .inr rfl)]
end Lw
set_option exponentiation.threshold 4000
namespace Lw
open PySem PySem.Spec PyProof.Rows L2 Gd Fr
open scoped Rat
section
variable {b p : Nat} {low e : Int} {q : Rat} (h2 : 2 ≤ b) (hp : 2 ≤ p)
include h2
include hp
omit h2 in
theorem over_big {high c : Int} {o : Bool} (hb : 2 ≤ b) (hl : low ≤ high) (hC : Can b p low c e) (h : high < (nb b p o c e).2) : ¬ c < ((b ^ (p - 1) : Nat) : Int) := by
  obtain ⟨a1, a2, a3, a4⟩ := hC
  have e1 : b ^ p = b ^ (p - 1) * b := by rw [← Nat.pow_succ]; congr 1; omega
  have p1 : 0 < b ^ (p - 1) := Nat.pow_pos (by omega)
  have p2 : b ^ (p - 1) * 2 ≤ b ^ (p - 1) * b := Nat.mul_le_mul_left _ hb
  unfold nb at h
  split at h
  · unfold upN at h
    split at h
    · omega
    · rcases a4 with z | z <;> simp only at h <;> omega
  · rcases a4 with z | z <;> simp only at h <;> omega
end
end Lw
set_option exponentiation.threshold 20000
namespace Lw
open PySem PySem.Spec PyProof.Rows L2 Gd Fr
open scoped Rat
theorem pow_uniq {b k j w : Nat} (h2 : 2 ≤ b) (h1 : b ^ k ≤ w) (h3 : w < b ^ (k + 1)) (h1' : b ^ j ≤ w) (h3' : w < b ^ (j + 1)) : k = j := by
  have a := (Nat.pow_lt_pow_iff_right (by omega : 1 < b)).mp (Nat.lt_of_le_of_lt h1 h3')
  have c := (Nat.pow_lt_pow_iff_right (by omega : 1 < b)).mp (Nat.lt_of_le_of_lt h1' h3)
  omega
inductive R_within : Rel
  | mk (b w k : Nat) (B : Bag) (h2 : 2 ≤ b) (hw : w < 2 ^ 8900) (h1 : b ^ k ≤ w) (h3 : w < b ^ (k + 1)) : R_within [.da (.int b), .da (.int w)] B (.int k) B
def sqs (b j : Nat) : List PyData := (List.range j).map fun i => .int ((b ^ 2 ^ i : Nat) : Int)
theorem sqs_len (b j : Nat) : (sqs b j).length = j := by unfold sqs; rw [List.length_map, List.length_range]
theorem sqs_succ (b j : Nat) : sqs b j ++ [.int ((b ^ 2 ^ j : Nat) : Int)] = sqs b (j + 1) := by
  unfold sqs; rw [List.range_succ, List.map_append]; rfl
theorem sqs_at {b j i : Nat} {y : PyData} (h : (sqs b j)[i]? = some y) : y = .int ((b ^ 2 ^ i : Nat) : Int) := by
  unfold sqs at h
  rw [List.getElem?_map] at h
  obtain ⟨k, hk, rfl⟩ := Option.map_eq_some_iff.mp h
  have := (List.getElem?_range (by
    have := (List.getElem?_eq_some_iff.mp hk).1
    rwa [List.length_range] at this) : (List.range j)[i]? = some i)
  rw [this] at hk; cases hk; rfl
theorem sq_next (b j : Nat) : ((b ^ 2 ^ j : Nat) : Int) * ((b ^ 2 ^ j : Nat) : Int) = ((b ^ 2 ^ (j + 1) : Nat) : Int) := by
  rw [← Int.natCast_mul, ← Nat.pow_add, Nat.pow_succ, Nat.mul_two]
theorem few_sq {b j w : Nat} (h2 : 2 ≤ b) (hw : w < 2 ^ 8900) (h : ∀ i, i < j → b ^ 2 ^ i ≤ w) : j ≤ 14 := by
  refine Decidable.byContradiction fun hn => ?_
  have h1 := h 14 (by omega)
  have h3 : 2 ^ 2 ^ 14 ≤ b ^ 2 ^ 14 := Nat.pow_le_pow_left h2 _
  have h4 := (Nat.pow_lt_pow_iff_right (by decide : 1 < 2)).mp (Nat.lt_of_le_of_lt (Nat.le_trans h3 h1) hw)
  exact absurd h4 (by decide)
theorem step_yes {b w k m l : Nat} (h2 : 2 ≤ b) (hl : l = w / b ^ (k * 2 ^ (m + 1))) (hlt : l < b ^ 2 ^ (m + 1)) (h1 : 1 ≤ l) (hs : b ^ 2 ^ m ≤ l) :
    l / b ^ 2 ^ m = w / b ^ ((2 * k + 1) * 2 ^ m) ∧ l / b ^ 2 ^ m < b ^ 2 ^ m ∧ 1 ≤ l / b ^ 2 ^ m := by
  have hp : 0 < b ^ 2 ^ m := Nat.pow_pos (by omega)
  refine ⟨?_, ?_, (Nat.one_le_div_iff hp).mpr hs⟩
  · rw [hl, Nat.div_div_eq_div_mul, ← Nat.pow_add]
    congr 2
    rw [Nat.pow_succ]; grind
  · rw [Nat.div_lt_iff_lt_mul hp, ← Nat.pow_add, ← Nat.mul_two, ← Nat.pow_succ]; exact hlt
theorem step_no {b w k m l : Nat} (hl : l = w / b ^ (k * 2 ^ (m + 1))) (hs : ¬ b ^ 2 ^ m ≤ l) : l = w / b ^ ((2 * k) * 2 ^ m) ∧ l < b ^ 2 ^ m := by
  refine ⟨?_, by omega⟩
  rw [hl]; congr 2
  rw [Nat.pow_succ]; grind
theorem log_end {b w k l : Nat} (h2 : 2 ≤ b) (hl : l = w / b ^ (k * 2 ^ 0)) (hlt : l < b ^ 2 ^ 0) (h1 : 1 ≤ l) : b ^ k ≤ w ∧ w < b ^ (k + 1) := by
  rw [Nat.pow_zero, Nat.mul_one] at hl
  rw [Nat.pow_zero, Nat.pow_one] at hlt
  have hp : 0 < b ^ k := Nat.pow_pos (by omega)
  rw [hl] at hlt h1
  refine ⟨(Nat.one_le_div_iff hp).mp h1, ?_⟩
  rw [Nat.div_lt_iff_lt_mul hp] at hlt
  rw [Nat.pow_succ, Nat.mul_comm]; exact hlt
section
variable {b : Nat} (h2 : 2 ≤ b)
include h2
theorem pw_sub (i j : Nat) : pw b ((j : Int) - i) * ((b ^ i : Nat) : Rat) = ((b ^ j : Nat) : Rat) := by
  rw [← pw_nat, ← pw_add h2, ← pw_nat]; congr 1; omega
theorem lt_pw_iff (q : Rat) (i j : Nat) : q < pw b ((j : Int) - i) ↔ q.num * ((b ^ i : Nat) : Int) < (q.den : Int) * ((b ^ j : Nat) : Int) := by
  have hd : (0 : Rat) < ((q.den : Int) : Rat) := cast_lt.mpr (den_pos q)
  have hi : (0 : Rat) < ((b ^ i : Nat) : Rat) := Rat.natCast_pos.mpr (Nat.pow_pos (by omega))
  rw [← Rat.mul_lt_mul_right hi, ← Rat.mul_lt_mul_right hd, pw_sub h2, ← cast_lt, Rat.intCast_mul, Rat.intCast_mul, ← num_den q, Rat.intCast_natCast, Rat.intCast_natCast, Rat.intCast_natCast]
  constructor <;> intro h <;> grind
theorem pw_le_iff (q : Rat) (i j : Nat) : pw b ((j : Int) - i) ≤ q ↔ (q.den : Int) * ((b ^ j : Nat) : Int) ≤ q.num * ((b ^ i : Nat) : Int) := by
  rw [← Rat.not_lt, lt_pw_iff h2, Int.not_lt]
end
inductive R_pbelow : Rel
  | mk (b : Nat) (q : Rat) (k : Int) (n d : Nat) (B : Bag) (h2 : 2 ≤ b) (h0 : 0 < q) (hq : Qz n d q) (hn : n ≤ 8900) (hd : d ≤ 8900) (h1 : pw b k ≤ q) (h3 : q < pw b (k + 1)) : R_pbelow [.da (.int b), .da (fq q)] B (.int k) B
theorem pw_num (b : Nat) (h2 : 2 ≤ b) (e : Int) : (pw b e).num = ((b ^ e.toNat : Nat) : Int) ∧ ((pw b e).den : Int) = ((b ^ (-e).toNat : Nat) : Int) := by
  unfold pw
  by_cases h : e < 0
  · rw [if_pos h, Rat.num_inv, Rat.den_inv, Rat.num_natCast, Rat.den_natCast]
    have hp : 0 < b ^ (-e).toNat := Nat.pow_pos (by omega)
    have e1 : e.toNat = 0 := by omega
    rw [if_neg (by omega), Int.sign_eq_one_of_pos (by omega), e1, Nat.pow_zero, Int.natAbs_natCast]
    exact ⟨rfl, rfl⟩
  · rw [if_neg h, Rat.num_natCast, Rat.den_natCast]
    have e1 : (-e).toNat = 0 := by omega
    rw [e1, Nat.pow_zero]
    exact ⟨rfl, rfl⟩
theorem fq_pw {b : Nat} (h2 : 2 ≤ b) (e : Int) : fq (pw b e) = .tuple [.int ((b ^ e.toNat : Nat) : Int), .int ((b ^ (-e).toNat : Nat) : Int)] := by
  unfold fq; rw [(pw_num b h2 e).1, (pw_num b h2 e).2]
theorem fq_int (n : Int) : fq (n : Rat) = .tuple [.int n, .int 1] := by unfold fq; rw [Rat.num_intCast, Rat.den_intCast]; rfl
inductive R_nearest : Rel
  | mk (b p : Nat) (low high : Int) (way : Str) (s e c part : Int) (B : Bag) (F : Fm b p low high) :
      R_nearest [.da (fmP b p low high), .da (.str way), .da (.int s), .da (.tuple [.int e, .int c, .int part])] B (nm s (nb b p (outw way s c part) c e).1 (nb b p (outw way s c part) c e).2) B
inductive R_outcome : Rel
  | mk (b p : Nat) (low high : Int) (way : Str) (s e c part : Int) (B : Bag) (F : Fm b p low high) :
      R_outcome [.da (fmP b p low high), .da (.str way), .da (.int s), .da (.tuple [.int e, .int c, .int part])] B (outP b p high way s e c part) B
inductive R_toog : Rel
  | mk (b p : Nat) (low high : Int) (way : Str) (s : Int) (B : Bag) (F : Fm b p low high) : R_toog [.da (fmP b p low high), .da (.str way), .da (.int s)] B (tooG b p high way s) B
inductive Va where
  | nan
  | inf (s : Int)
  | num (s c e : Int)
def Va.tag : Va → Str
  | .nan => "nan"
  | .inf _ => "inf"
  | .num _ _ _ => "num"
def Va.l : Va → List PyData
  | .nan => [.str "nan"]
  | .inf s => [.str "inf", .int s]
  | .num s c e => [.str "num", .int s, .int c, .int e]
def Va.d (v : Va) : PyData := .tuple v.l
theorem Va.at0 (v : Va) : atI v.l 0 = some (.str v.tag) := by cases v <;> rfl
def Va.isNan : Va → Bool
  | .nan => true
  | _ => false
def Va.isInf : Va → Bool
  | .inf _ => true
  | _ => false
def Va.sg : Va → Int
  | .nan => 0
  | .inf s => s
  | .num s _ _ => s
def Va.wQ (b : Nat) : Va → Rat
  | .num s c e => ((if s = 1 then -c else c : Int) : Rat) * pw b e
  | _ => 0
def Vok (b p : Nat) (low high : Int) : Va → Prop
  | .nan => True
  | .inf s => s = 0 ∨ s = 1
  | .num s c e => (s = 0 ∨ s = 1) ∧ 0 ≤ c ∧ c < ((b ^ p : Nat) : Int) ∧ low ≤ e ∧ e ≤ high
theorem Fm.wz {b p : Nat} {low high : Int} (F : Fm b p low high) {v : Va} (h : Vok b p low high v) : Qz 3040 2341 (v.wQ b) := by
  have z : Qz 3040 2341 0 := ⟨by unfold Bd; exact Nat.pow_pos (by decide), (show Bd 1 (((0 : Rat).den : Nat) : Int) by unfold Bd; decide).le (by decide)⟩
  cases v with
  | nan => exact z
  | inf s => exact z
  | num s c e =>
    obtain ⟨h1, h3, h4, h5, h6⟩ := h
    have hc : Qz 700 1 (((if s = 1 then -c else c : Int)) : Rat) := by
      refine ⟨?_, by rw [Rat.den_intCast]; unfold Bd; decide⟩
      rw [Rat.num_intCast]
      have := F.bp
      unfold Bd
      split <;> omega
    exact hc.mul (F.qz h5 h6)
inductive R_worth : Rel
  | mk (b p : Nat) (low high : Int) (s c e : Int) (B : Bag) (F : Fm b p low high) (h : Vok b p low high (.num s c e)) : R_worth [.da (fmP b p low high), .da (Va.d (.num s c e))] B (fq (Va.wQ b (.num s c e))) B
end Lw
set_option exponentiation.threshold 20000
namespace Lw
open PySem PySem.Spec PyProof.Rows L2 Gd Fr
open scoped Rat
inductive R_zero : Rel
  | mk (b p : Nat) (low high : Int) (s : Int) (B : Bag) : R_zero [.da (fmP b p low high), .da (.int s)] B (nm s 0 low) B
theorem cut2 (ds : List PyData) (n : Nat) : cutP ds (some (n : Int)) none = ds.drop n := by
  unfold cutP
  rw [HT.sIx_none, HT.sIx_nat]
  by_cases h : n ≤ ds.length
  · rw [Nat.min_eq_left h, List.take_of_length_le (by rw [List.length_drop]; omega)]
  · rw [Nat.min_eq_right (by omega), List.drop_length, List.take_nil, List.drop_of_length_le (by omega)]
theorem at1 {v : Va} (h : v.isNan = false) : atI v.l 1 = some (.int v.sg) := by cases v <;> first | rfl | cases h
theorem log_ex {b : Nat} (h2 : 2 ≤ b) {q : Rat} (h0 : 0 < q) : ∃ k, pw b k ≤ q ∧ q < pw b (k + 1) := by
  -- one digit, from an e far below on
  obtain ⟨m, hm⟩ : ∃ m : Nat, pw b (-(m : Int)) ≤ q := by
    refine ⟨q.den, ?_⟩
    have := (pw_le_iff h2 q q.den 0).mpr (by
      rw [Nat.pow_zero]
      have h1 : q.den < b ^ q.den := Nat.lt_pow_self (by omega)
      have hn : 1 ≤ q.num := by
        have : ¬ q.num ≤ 0 := fun z => by
          have h3 : ¬ 0 < q := fun z2 => by
            have := (Rat.lt_iff 0 q).mp z2
            rw [show (0 : Rat).num = 0 from rfl, Int.zero_mul, show ((0 : Rat).den : Int) = 1 from rfl] at this
            omega
          exact h3 h0
        omega
      have h4 : ((b ^ q.den : Nat) : Int) * 1 ≤ ((b ^ q.den : Nat) : Int) * q.num := Int.mul_le_mul_of_nonneg_left hn (Int.natCast_nonneg _)
      rw [Int.mul_comm q.num]
      show (q.den : Int) * 1 ≤ _
      omega)
    rw [show ((0 : Nat) : Int) - (q.den : Nat) = -(q.den : Int) by omega] at this
    exact this
  obtain ⟨e, h1, h3, h4⟩ := isE_ex (p := 1) h2 (-(m : Int) - 1) q
  refine ⟨(1 : Nat) + e - 1, ?_, ?_⟩
  · rcases h4 with z | z
    · refine Rat.le_trans (pw_mono h2 (by omega)) hm
    · exact z
  · rw [show ((1 : Nat) : Int) + e - 1 + 1 = (1 : Nat) + e by omega]; exact h3
end Lw
namespace Lw
open PySem PySem.Spec PyProof.Rows L2 Gd Fr
theorem in2 (way : Str) : (["even", "away"] : List Str).any (fun s => decide (s = way)) = decide (way = "even" ∨ way = "away") := by
  show (decide (("even" : Str) = way) || (decide (("away" : Str) = way) || false)) = _
  rw [Bool.or_false, Bool.decide_or]
  congr 1 <;> exact decide_eq_decide.mpr ⟨Eq.symm, Eq.symm⟩
theorem isInf_or (way : Str) (s : Int) : ((["even", "away"] : List Str).any (fun s => decide (s = way)) || ((decide (way = "up") && decide (s = 0)) || (decide (way = "down") && decide (s = 1)))) = isInf way s := by
  rw [in2]; unfold isInf; rw [Bool.or_assoc]
end Lw
namespace Lw
open PySem PySem.Spec PyProof.Rows L2 Gd Fr
end Lw
namespace Lw
open PySem PySem.Spec PyProof.Rows L2 Gd Fr
theorem nice_word {x : Str} (h : (x.cps.all fun c => c < 0x110000) = true) : nice (.str x) = true := by
  simp only [nice]; exact h
end Lw
set_option exponentiation.threshold 20000
namespace Lw
open PySem PySem.Spec PyProof.Rows L2 Gd Fr
open scoped Rat
def pickI (ns : List Int) (B : Bag) : Int := ns.getD (tkV B ns.length).toNat 0
theorem pick_int (ns : List Int) (B : Bag) (h : 0 < ns.length) : pick (ns.map .int) B = .int (pickI ns B) := by
  have h0 := tkV_ge B (m := ns.length) (by omega)
  have h1 := tkV_lt B (m := ns.length) (by omega)
  have hlt : (tkV B ns.length).toNat < ns.length := by omega
  unfold pick pickI
  rw [List.length_map, List.getD_eq_getElem?_getD, List.getD_eq_getElem?_getD, List.getElem?_map, List.getElem?_eq_getElem hlt]; rfl
theorem pickI_mem (ns : List Int) (B : Bag) (h : 0 < ns.length) : pickI ns B ∈ ns := by
  have h0 := tkV_ge B (m := ns.length) (by omega)
  have h1 := tkV_lt B (m := ns.length) (by omega)
  have hlt : (tkV B ns.length).toNat < ns.length := by omega
  unfold pickI
  rw [List.getD_eq_getElem?_getD, List.getElem?_eq_getElem hlt]
  exact List.getElem_mem hlt
theorem some_int {X : Cx} {Γ : List VD} {B B1 : Bag} {a b : Expr} {p pos : Pos} {k : Nat} (ns : List Int) (G : Gx k X) (h2 : 5 ≤ k) (c : Cal X.prog X.w X.K X.mg X.base "_law_some" 5 R_some)
    (ha : AJ X Γ B [a, b] [.bag, .da (.list (ns.map .int))] B1) (h : 0 < ns.length) (hl : ns.length ≤ 1000) (hc : Bok B1) (hg : Gl X "_law_some" := by rfl)
    (he : starEach [a, b] X.env = (false, eval a X.env) :: starEach [b] X.env := by rfl) (hpl : (backTo pos (starEach [b] X.env)).any (·.1) = false := by rfl) :
    EJ X Γ B (.Call (.Name "_law_some" p) [a, b] [] pos) (.da (.int (pickI ns B1))) (tkB B1 ns.length) := by
  have r := R_some.mk B1 (ns.map .int) (by rw [List.length_map]; exact h) (by rw [List.length_map]; exact hl) hc
  rw [pick_int ns B1 h, List.length_map] at r
  exact ej_call c (G.le h2) ha r hg (by decide) he hpl
def pickV (vs : List Va) (B : Bag) : Va := vs.getD (tkV B vs.length).toNat .nan
theorem pick_va (vs : List Va) (B : Bag) (h : 0 < vs.length) : pick (vs.map Va.d) B = (pickV vs B).d := by
  have h0 := tkV_ge B (m := vs.length) (by omega)
  have h1 := tkV_lt B (m := vs.length) (by omega)
  have hlt : (tkV B vs.length).toNat < vs.length := by omega
  unfold pick pickV
  rw [List.length_map, List.getD_eq_getElem?_getD, List.getD_eq_getElem?_getD, List.getElem?_map, List.getElem?_eq_getElem hlt]; rfl
theorem pickV_mem (vs : List Va) (B : Bag) (h : 0 < vs.length) : pickV vs B ∈ vs := by
  have h0 := tkV_ge B (m := vs.length) (by omega)
  have h1 := tkV_lt B (m := vs.length) (by omega)
  have hlt : (tkV B vs.length).toNat < vs.length := by omega
  unfold pickV
  rw [List.getD_eq_getElem?_getD, List.getElem?_eq_getElem hlt]
  exact List.getElem_mem hlt
abbrev F4 := Nat × Nat × Int × Int
def F4.d (t : F4) : PyData := fmP t.1 t.2.1 t.2.2.1 t.2.2.2
def F4.ok (t : F4) : Prop := Fm t.1 t.2.1 t.2.2.1 t.2.2.2
def fmB (t : F4) : Bool :=
  decide (2 ≤ t.1) && decide (t.1 < 2 ^ 6) && decide (2 ≤ t.2.1) && decide (t.2.1 ≤ 120) && decide (-1200 ≤ t.2.2.1) && decide (t.2.2.1 ≤ t.2.2.2) && decide (t.2.2.2 ≤ 1200) &&
    decide (t.1 ^ t.2.1 < 2 ^ 700) && decide (t.1 ^ (-t.2.2.1).toNat < 2 ^ 2340) && decide (t.1 ^ t.2.2.2.toNat < 2 ^ 2340)
theorem fm_of {t : F4} (h : fmB t = true) : t.ok := by
  unfold fmB at h
  simp only [Bool.and_eq_true, decide_eq_true_eq] at h
  obtain ⟨⟨⟨⟨⟨⟨⟨⟨⟨a1, a2⟩, a3⟩, a4⟩, a5⟩, a6⟩, a7⟩, a8⟩, a9⟩, a10⟩ := h
  exact ⟨a1, a2, a3, a4, a5, a6, a7, a8, a9, a10⟩
def pickF (ts : List F4) (B : Bag) : F4 := ts.getD (tkV B ts.length).toNat (2, 2, 0, 0)
theorem pick_fm (ts : List F4) (B : Bag) (h : 0 < ts.length) : pick (ts.map F4.d) B = (pickF ts B).d := by
  have h0 := tkV_ge B (m := ts.length) (by omega)
  have h1 := tkV_lt B (m := ts.length) (by omega)
  have hlt : (tkV B ts.length).toNat < ts.length := by omega
  unfold pick pickF
  rw [List.length_map, List.getD_eq_getElem?_getD, List.getD_eq_getElem?_getD, List.getElem?_map, List.getElem?_eq_getElem hlt]; rfl
theorem pickF_ok (ts : List F4) (B : Bag) (h : 0 < ts.length) (hok : ts.all fmB = true) : (pickF ts B).ok := by
  have h0 := tkV_ge B (m := ts.length) (by omega)
  have h1 := tkV_lt B (m := ts.length) (by omega)
  have hlt : (tkV B ts.length).toNat < ts.length := by omega
  unfold pickF
  rw [List.getD_eq_getElem?_getD, List.getElem?_eq_getElem hlt]
  exact fm_of (List.all_eq_true.mp hok _ (List.getElem_mem hlt))
def smallF : List F4 := [(2, 2, 0, 0), (2, 2, -3, 2), (2, 3, -4, 3), (4, 2, -2, 1), (10, 2, -2, 1), (6, 2, -1, 2), (2, 4, -2, 2)] ++ [(4, 2, 1, 3), (2, 3, 2, 5), (10, 2, -6, -5)]
def worldF : List F4 := ([(2, 24, -149, 104), (2, 11, -24, 5), (10, 7, -101, 90), (36, 3, -5, 4), (16, 6, -70, 57), (10, 34, -60, 40)] ++ [(2, 8, -133, 120), (20, 2, 0, 3), (10, 16, -98, 69), (2, 53, -120, 60), (10, 20, 5, 60)]) ++ [(2, 30, -90, -40), (14, 5, -9, 9), (22, 4, 1, 8)]
def farF : List F4 := [(2, 53, -1074, 971), (10, 16, -398, 369), (36, 120, -200, 200), (2, 120, -1200, 1080), (10, 100, -700, 700)] ++ [(2, 24, -1200, 1200), (2, 40, -300, 300), (10, 16, -300, 300)]
theorem small_ok : smallF.all fmB = true := by decide +kernel
theorem world_ok : worldF.all fmB = true := by decide +kernel
theorem far_ok : farF.all fmB = true := by decide +kernel
inductive R_fmt (f : Bag → F4) (g : Bag → Bag) : Rel
  | mk (B : Bag) (hc : Bok B) : R_fmt f g [.bag] B (f B).d (g B)
def wideV (B : Bag) : F4 := if 0 < tkV B 4 then pickF worldF (tkB B 4) else pickF farF (tkB B 4)
def wideB (B : Bag) : Bag := if 0 < tkV B 4 then tkB (tkB B 4) 14 else tkB (tkB B 4) 8
def smallV (B : Bag) : F4 := pickF smallF B
def smallB (B : Bag) : Bag := tkB B 10
def afV (B : Bag) : F4 := if 0 < tkV B 3 then smallV (tkB B 3) else wideV (tkB B 3)
def afB (B : Bag) : Bag := if 0 < tkV B 3 then smallB (tkB B 3) else wideB (tkB B 3)
theorem wideV_ok (B : Bag) : (wideV B).ok := by
  unfold wideV; split
  · exact pickF_ok _ _ (by decide) world_ok
  · exact pickF_ok _ _ (by decide) far_ok
theorem smallV_ok (B : Bag) : (smallV B).ok := pickF_ok _ _ (by decide) small_ok
theorem afV_ok (B : Bag) : (afV B).ok := by
  unfold afV; split
  · exact smallV_ok _
  · exact wideV_ok _
theorem wideB_ok {B : Bag} (h : Bok B) : Bok (wideB B) := by unfold wideB; split <;> exact tkB_ok (tkB_ok h _) _
theorem smallB_ok {B : Bag} (h : Bok B) : Bok (smallB B) := tkB_ok h _
theorem afB_ok {B : Bag} (h : Bok B) : Bok (afB B) := by
  unfold afB; split
  · exact smallB_ok (tkB_ok h _)
  · exact wideB_ok (tkB_ok h _)
def edgesV (b p : Nat) (low high : Int) : List Va :=
  [.num 0 0 low, .num 0 1 low, .num 0 ((b ^ (p - 1) : Nat) - 1) low, .num 0 (b ^ (p - 1) : Nat) low, .num 0 ((b ^ (p - 1) : Nat) + 1) low, .num 0 ((b ^ p : Nat) - 1) low, .num 0 (b ^ (p - 1) : Nat) high, .num 0 ((b ^ p : Nat) - 1) high,
    .num 0 ((b ^ p : Nat) - 1 - 1) high, .num 0 ((b ^ (p - 1) : Nat) + (b ^ (p - 1) : Nat) / 2) high]
structure Pows (b p : Nat) : Prop where
  l2 : 2 ≤ b ^ (p - 1)
  eq : b ^ p = b ^ (p - 1) * b
  ge : b ^ (p - 1) * 2 ≤ b ^ p
theorem Fm.pows {b p : Nat} {low high : Int} (F : Fm b p low high) : Pows b p := by
  have h2 := F.b2; have hp := F.p2
  have e1 : b ^ p = b ^ (p - 1) * b := by rw [← Nat.pow_succ]; congr 1; omega
  refine ⟨?_, e1, by rw [e1]; exact Nat.mul_le_mul_left _ h2⟩
  have h1 : b ^ 1 ≤ b ^ (p - 1) := Nat.pow_le_pow_right (by omega) (by omega)
  rw [Nat.pow_one] at h1; omega
theorem edges_ok {b p : Nat} {low high : Int} (F : Fm b p low high) : ∀ v ∈ edgesV b p low high, ∃ c e, v = .num 0 c e ∧ Vok b p low high (.num 0 c e) := by
  have P := F.pows; have l2 := P.l2; have ge := P.ge; have lh := F.lh
  intro v hv
  unfold edgesV at hv
  simp only [List.mem_cons, List.not_mem_nil, or_false] at hv
  rcases hv with rfl | rfl | rfl | rfl | rfl | rfl | rfl | rfl | rfl | rfl <;> exact ⟨_, _, rfl, .inl rfl, by omega, by omega, by omega, by omega⟩
inductive R_edges : Rel
  | mk (b p : Nat) (low high : Int) (B : Bag) (F : Fm b p low high) : R_edges [.da (fmP b p low high)] B (.list ((edgesV b p low high).map Va.d)) B
def Va.c : Va → Int
  | .num _ c _ => c
  | _ => 0
def Va.e : Va → Int
  | .num _ _ e => e
  | _ => 0
section
variable (b p : Nat) (low high : Int)
def lead : Int := (b ^ (p - 1) : Nat)
def full : Int := (b ^ p : Nat)
def numE (B : Bag) : Int := pickI [low, high, low + tkV B (high - low + 1), min high (max low (-((p : Int) / 2)))] (tkB B (high - low + 1))
def numEB (B : Bag) : Bag := tkB (tkB B (high - low + 1)) 4
def numC (w : Int) (B : Bag) : Int := if w = 2 then pickI [lead b p, lead b p * (b - 1), lead b p + 1, full b p - 1] (tkB B (full b p - lead b p)) else lead b p + tkV B (full b p - lead b p)
def numCB (w : Int) (B : Bag) : Bag := if w = 2 then tkB (tkB B (full b p - lead b p)) 4 else tkB B (full b p - lead b p)
def numC2 (w e c : Int) (B : Bag) : Int := if e = low ∧ w = 3 then tkV B (lead b p) else c
def numC2B (w e : Int) (B : Bag) : Bag := if e = low ∧ w = 3 then tkB B (lead b p) else B
def numB2 (B : Bag) : Bag := tkB (tkB B 6) 2
def numV (B : Bag) : Va :=
  if tkV B 6 < 2 then .num (tkV (tkB B 6) 2) (pickV (edgesV b p low high) (numB2 B)).c (pickV (edgesV b p low high) (numB2 B)).e
  else .num (tkV (tkB B 6) 2) (numC2 b p low (tkV B 6) (numE p low high (numB2 B)) (numC b p (tkV B 6) (numEB low high (numB2 B))) (numCB b p (tkV B 6) (numEB low high (numB2 B)))) (numE p low high (numB2 B))
def numB (B : Bag) : Bag :=
  if tkV B 6 < 2 then tkB (numB2 B) 10 else numC2B b p low (tkV B 6) (numE p low high (numB2 B)) (numCB b p (tkV B 6) (numEB low high (numB2 B)))
end
theorem tkV_2 (B : Bag) : tkV B 2 = 0 ∨ tkV B 2 = 1 := by
  have h0 := tkV_ge B (m := 2) (by decide)
  have h1 := tkV_lt B (m := 2) (by decide)
  omega
section
variable {b p : Nat} {low high : Int} (F : Fm b p low high)
include F
theorem numE_ok (B : Bag) : low ≤ numE p low high B ∧ numE p low high B ≤ high := by
  have lh := F.lh
  have h := pickI_mem [low, high, low + tkV B (high - low + 1), min high (max low (-((p : Int) / 2)))] (tkB B (high - low + 1)) (by show 0 < 4; decide)
  have h0 := tkV_ge B (m := high - low + 1) (by omega)
  have h1 := tkV_lt B (m := high - low + 1) (by omega)
  unfold numE
  generalize pickI [low, high, low + tkV B (high - low + 1), min high (max low (-((p : Int) / 2)))] (tkB B (high - low + 1)) = z at *
  simp only [List.mem_cons, List.not_mem_nil, or_false] at h
  rcases h with rfl | rfl | rfl | rfl <;> omega
theorem lf : 2 ≤ lead b p ∧ lead b p * 2 ≤ full b p ∧ lead b p * (b - 1) = full b p - lead b p := by
  have P := F.pows; have l2 := P.l2; have ge := P.ge
  unfold lead full
  refine ⟨by omega, by omega, ?_⟩
  rw [P.eq, Int.mul_sub, Int.mul_one, Int.natCast_mul]
theorem numC_ok (w : Int) (B : Bag) : 0 ≤ numC b p w B ∧ numC b p w B < full b p := by
  obtain ⟨l2, ge, e1⟩ := lf F
  unfold numC
  split
  · have h := pickI_mem [lead b p, lead b p * (b - 1), lead b p + 1, full b p - 1] (tkB B (full b p - lead b p)) (by show 0 < 4; decide)
    generalize pickI [lead b p, lead b p * (b - 1), lead b p + 1, full b p - 1] (tkB B (full b p - lead b p)) = z at *
    rw [e1] at h
    simp only [List.mem_cons, List.not_mem_nil, or_false] at h
    rcases h with rfl | rfl | rfl | rfl <;> omega
  · have h0 := tkV_ge B (m := full b p - lead b p) (by omega)
    have h1 := tkV_lt B (m := full b p - lead b p) (by omega)
    omega
theorem numC2_ok (w e c : Int) (B : Bag) (h : 0 ≤ c ∧ c < full b p) : 0 ≤ numC2 b p low w e c B ∧ numC2 b p low w e c B < full b p := by
  obtain ⟨l2, ge, e1⟩ := lf F
  unfold numC2
  split
  · have h0 := tkV_ge B (m := lead b p) (by omega)
    have h1 := tkV_lt B (m := lead b p) (by omega)
    omega
  · exact h
theorem numV_ok (B : Bag) : Vok b p low high (numV b p low high B) := by
  unfold numV
  split
  · obtain ⟨c, e, h1, h3, h4⟩ := edges_ok F _ (pickV_mem (edgesV b p low high) (numB2 B) (by show 0 < 10; decide))
    rw [h1]
    exact ⟨tkV_2 _, h4⟩
  · have h1 := numC2_ok F (tkV B 6) (numE p low high (numB2 B)) (numC b p (tkV B 6) (numEB low high (numB2 B))) (numCB b p (tkV B 6) (numEB low high (numB2 B))) (numC_ok F _ _)
    exact ⟨tkV_2 _, h1.1, h1.2, numE_ok F _⟩
end
theorem numC2B_ok {b p : Nat} {low w e : Int} {B : Bag} (h : Bok B) : Bok (numC2B b p low w e B) := by
  unfold numC2B; split
  · exact tkB_ok h _
  · exact h
theorem numCB_ok {b p : Nat} {w : Int} {B : Bag} (h : Bok B) : Bok (numCB b p w B) := by
  unfold numCB; split
  · exact tkB_ok (tkB_ok h _) _
  · exact tkB_ok h _
theorem numB2_ok {B : Bag} (h : Bok B) : Bok (numB2 B) := tkB_ok (tkB_ok h _) _
theorem numEB_ok {low high : Int} {B : Bag} (h : Bok B) : Bok (numEB low high B) := tkB_ok (tkB_ok h _) _
theorem numB_ok {b p : Nat} {low high : Int} {B : Bag} (h : Bok B) : Bok (numB b p low high B) := by
  unfold numB; split
  · exact tkB_ok (numB2_ok h) _
  · exact numC2B_ok (numCB_ok (numEB_ok (numB2_ok h)))
inductive R_draw (f : Nat → Nat → Int → Int → Bag → Va) (g : Nat → Nat → Int → Int → Bag → Bag) : Rel
  | mk (b p : Nat) (low high : Int) (B : Bag) (F : Fm b p low high) (hc : Bok B) : R_draw f g [.bag, .da (fmP b p low high)] B (f b p low high B).d (g b p low high B)
end Lw
set_option exponentiation.threshold 20000
namespace Lw
open PySem PySem.Spec PyProof.Rows L2 Gd Fr
open scoped Rat
theorem two_words {u v : Str} (huv : u ≠ v) (hgt : sortedS [v, u] = false) {xs ns : List Str} (hx : ∀ k, k ∈ xs ↔ k = u ∨ k = v) (h1 : ns.Nodup) (h3 : ∀ k, k ∈ ns ↔ k ∈ xs) (h4 : sortedS ns = true) : ns = [u, v] := by
  have hm : ∀ k, k ∈ ns ↔ k = u ∨ k = v := fun k => (h3 k).trans (hx k)
  match ns, h1, hm, h4 with
  | [], _, hm, _ => exact absurd ((hm u).mpr (.inl rfl)) (by simp)
  | [x], _, hm, _ =>
    have a := (hm u).mpr (.inl rfl)
    have c := (hm v).mpr (.inr rfl)
    simp only [List.mem_singleton] at a c
    exact absurd (a.trans c.symm) huv
  | [x, y], h1, hm, h4 =>
    have a := (hm x).mp (by simp)
    have c := (hm y).mp (by simp)
    have hxy : x ≠ y := fun z => by rw [z] at h1; simp at h1
    rcases a with rfl | rfl <;> rcases c with rfl | rfl
    · exact absurd rfl hxy
    · rfl
    · rw [hgt] at h4; cases h4
    · exact absurd rfl hxy
  | x :: y :: z :: r, h1, hm, _ =>
    have a := (hm x).mp (by simp)
    have c := (hm y).mp (by simp)
    have d := (hm z).mp (by simp)
    simp only [List.nodup_cons, List.mem_cons, not_or] at h1
    obtain ⟨⟨n1, n2, _⟩, ⟨n3, _⟩, _⟩ := h1
    rcases a with rfl | rfl <;> rcases c with rfl | rfl <;> rcases d with rfl | rfl <;> first | exact absurd rfl n1 | exact absurd rfl n2 | exact absurd rfl n3
def flagsL (r c l : Int) : List Str := if r = 0 then [] else if c < l then ["inexact", "tiny"] else ["inexact"]
theorem over_words {r c l : Int} (h : ¬ c < l) : ∀ ns : List Str, ns.Nodup → (∀ k, k ∈ ns ↔ k ∈ flagsL r c l ++ (["inexact", "over"] : List Str)) → sortedS ns = true → ns = (["inexact", "over"] : List Str) := by
  intro ns h1 h3 h4
  refine two_words (u := "inexact") (v := "over") (by decide) (by decide +kernel) (fun k => ?_) h1 h3 h4
  unfold flagsL
  split
  · simp
  · simp
inductive R_grid : Rel
  | mk (b p : Nat) (low high : Int) (q : Rat) (n d : Nat) (B : Bag) (F : Fm b p low high) (h0 : 0 ≤ q) (hq : Qz n d q) (hn : n ≤ 8900) (hd : d ≤ 6500) :
      R_grid [.da (fmP b p low high), .da (fq q)] B (.tuple [.int (cQ b (eQ b p low q) q), .int (eQ b p low q)]) B
end Lw
namespace Lw
open PySem PySem.Spec PyProof.Rows L2 Gd Fr
open scoped Rat
noncomputable def grQ (b p : Nat) (high : Int) : Rat := ((((b ^ p : Nat) : Int) - 1 : Int) : Rat) * pw b high
inductive R_great : Rel
  | mk (b p : Nat) (low high : Int) (B : Bag) (F : Fm b p low high) : R_great [.da (fmP b p low high)] B (fq (grQ b p high)) B
inductive R_normal : Rel
  | mk (b p : Nat) (low high : Int) (B : Bag) (F : Fm b p low high) : R_normal [.da (fmP b p low high)] B (fq (pw b (low + p - 1))) B
inductive R_formof : Rel
  | mk (b p : Nat) (low high s C E : Int) (q : Rat) (n d : Nat) (B : Bag) (F : Fm b p low high) (hC : Can b p low C E) (he : q = (C : Rat) * pw b E) (hE : E ≤ high) :
      R_formof [.da (fmP b p low high), .da (.int s), .da (fq q)] B (nm s C E) B
theorem can_e {b p : Nat} (h2 : 2 ≤ b) (hp : 1 ≤ p) {low C E : Int} (h : Can b p low C E) : eQ b p low ((C : Rat) * pw b E) = E ∧ cQ b E ((C : Rat) * pw b E) = C := ⟨eQ_of h2 (can_isE h2 hp h), can_c h2 C E⟩
theorem can_qz {b p : Nat} {low high C E : Int} (F : Fm b p low high) (h : Can b p low C E) (hE : E ≤ high) : Qz 3040 2341 ((C : Rat) * pw b E) ∧ 0 ≤ (C : Rat) * pw b E := by
  obtain ⟨a1, a2, a3, _⟩ := h
  have := F.bp
  have hc : Qz 700 1 (C : Rat) := ⟨by rw [Rat.num_intCast]; unfold Bd; omega, by rw [Rat.den_intCast]; unfold Bd; decide⟩
  refine ⟨hc.mul (F.qz a3 hE), ?_⟩
  have h1 : (0 : Rat) ≤ (C : Rat) := cast_le.mpr a1
  have := Rat.mul_le_mul_of_nonneg_right h1 (Rat.le_of_lt (pw_pos F.b2 E))
  rw [Rat.zero_mul] at this; exact this
theorem great_can {b p : Nat} {low high : Int} (F : Fm b p low high) : Can b p low (((b ^ p : Nat) : Int) - 1) high := by
  have P := F.pows; have l2 := P.l2; have ge := P.ge; have lh := F.lh
  exact ⟨by omega, by omega, lh, .inr (by omega)⟩
end Lw
namespace Lw
open PySem PySem.Spec PyProof.Rows L2 Gd Fr
open scoped Rat
end Lw
namespace Lw
open PySem PySem.Spec PyProof.Rows L2 Gd Fr
open scoped Rat
section
variable {b p : Nat} {low high : Int} (F : Fm b p low high)
include F
theorem Fm.pphi {k : Nat} (h : k ≤ p + high.toNat) : b ^ k < 2 ^ 3040 := by
  have h1 := F.bh; have h3 := F.bp
  have h5 : b ^ p * b ^ high.toNat < 2 ^ 700 * 2 ^ 2340 := Nat.mul_lt_mul'' h3 h1
  have h7 : 2 ^ 700 * 2 ^ 2340 = 2 ^ 3040 := by rw [← Nat.pow_add]
  rw [h7, ← Nat.pow_add] at h5
  exact Nat.lt_of_le_of_lt (Nat.pow_le_pow_right (by have := F.b2; omega) h) h5
theorem Fm.nz : Qz 3040 2340 (pw b (low + p - 1)) := by
  have lh := F.lh
  exact pw_bd F.b2 (F.pphi (by omega)) (F.pow_lo (by have := F.p2; omega)) (by decide) (by decide)
end
end Lw
set_option exponentiation.threshold 20000
namespace Lw
open PySem PySem.Spec PyProof.Rows L2 Gd Fr
open scoped Rat
structure Nd (D W : Nat) (d : PyData) : Prop where
  ni : nice d = true
  dp : d.depth ≤ D
  bk : d.bulk ≤ W
structure NdA (D W : Nat) (ds : List PyData) : Prop where
  ni : niceAll ds = true
  dp : PyData.depthAll ds ≤ D
  bk : PyData.bulkAll ds ≤ W
theorem NdA.nil {D W : Nat} : NdA D W [] := ⟨niceAll_nil, by simp only [PyData.depthAll]; omega, by simp only [PyData.bulkAll]; omega⟩
theorem NdA.cons {D W W' : Nat} {d : PyData} {ds : List PyData} (h : Nd D W d) (r : NdA D W' ds) : NdA D (W + 1 + W') (d :: ds) :=
  ⟨niceAll_cons h.ni r.ni, by have := h.dp; have := r.dp; simp only [PyData.depthAll]; omega, by have := h.bk; have := r.bk; simp only [PyData.bulkAll]; omega⟩
theorem NdA.le {D W D' W' : Nat} {ds : List PyData} (h : NdA D W ds) (e : D ≤ D') (f : W ≤ W') : NdA D' W' ds := ⟨h.ni, Nat.le_trans h.dp e, Nat.le_trans h.bk f⟩
theorem Nd.le {D W D' W' : Nat} {d : PyData} (h : Nd D W d) (e : D ≤ D') (f : W ≤ W') : Nd D' W' d := ⟨h.ni, Nat.le_trans h.dp e, Nat.le_trans h.bk f⟩
theorem Nd.list {D W : Nat} {ds : List PyData} (h : NdA D W ds) : Nd (D + 1) W (.list ds) := ⟨nice_list h.ni, by have := h.dp; simp only [PyData.depth]; omega, by have := h.bk; simp only [PyData.bulk]; omega⟩
theorem Nd.tuple {D W : Nat} {ds : List PyData} (h : NdA D W ds) : Nd (D + 1) W (.tuple ds) := ⟨nice_tuple h.ni, by have := h.dp; simp only [PyData.depth]; omega, by have := h.bk; simp only [PyData.bulk]; omega⟩
theorem Nd.int {n : Nat} {i : Int} (h : Bd n i) (e : n ≤ 1920 := by decide) : Nd 1 0 (.int i) := ⟨nice_int h e, by simp only [PyData.depth]; omega, by simp only [PyData.bulk]; omega⟩
theorem Nd.str {x : Str} (h : (x.cps.all fun c => c < 0x110000) = true) (h2 : x.cps.size ≤ 20) : Nd 1 20 (.str x) := ⟨nice_word h, by simp only [PyData.depth]; omega, by simp only [PyData.bulk]; exact h2⟩
theorem Nd.bool {x : Bool} : Nd 1 0 (.bool x) := ⟨by simp only [nice], by simp only [PyData.depth]; omega, by simp only [PyData.bulk]; omega⟩
theorem Nd.none : Nd 1 0 .none := ⟨by simp only [nice], by simp only [PyData.depth]; omega, by simp only [PyData.bulk]; omega⟩
theorem Nd.okd {D W : Nat} {d : PyData} (h : Nd D W d) (e : D ≤ 60 := by decide) (f : W ≤ 5000 := by decide) : Okd d := ⟨h.ni, Nat.le_trans h.dp e, Nat.le_trans h.bk f⟩
def flagW : List Str := ["by", "inexact", "invalid", "over", "tiny"]
theorem words_nd {l : List Str} (h : ∀ x ∈ l, x ∈ flagW) : NdA 1 (21 * l.length) (l.map .str) := by
  induction l with
  | nil => exact .nil
  | cons x l ih =>
    have hx := h x List.mem_cons_self
    have : Nd 1 20 (.str x) := by
      unfold flagW at hx
      simp only [List.mem_cons, List.not_mem_nil, or_false] at hx
      rcases hx with rfl | rfl | rfl | rfl | rfl <;> exact Nd.str (by decide +kernel) (by decide +kernel)
    have := NdA.cons this (ih fun y hy => h y (List.mem_cons_of_mem _ hy))
    exact this.le (Nat.le_refl _) (by rw [List.length_cons]; omega)
section
variable {b p : Nat} {low high : Int} (F : Fm b p low high)
include F
theorem nm_nd {s c e : Int} (hs : s = 0 ∨ s = 1) (h0 : 0 ≤ c) (h1 : c < ((b ^ p : Nat) : Int)) (h3 : low ≤ e) (h4 : e ≤ high) : Nd 2 40 (nm s c e) := by
  have lo := F.lo; have hi := F.hi; have bp := F.bp
  exact (Nd.tuple (NdA.cons (Nd.str (by decide +kernel) (by decide +kernel)) (NdA.cons (Nd.int (n := 2) (by unfold Bd; omega)) (NdA.cons (Nd.int (n := 700) (by unfold Bd; omega)) (NdA.cons (Nd.int (n := 12) (by unfold Bd; omega)) (NdA.nil (W := 0))))))).le (Nat.le_refl _) (by decide)
theorem va_nd {v : Va} (h : Vok b p low high v) : Nd 2 40 v.d := by
  cases v with
  | nan => exact (Nd.tuple (NdA.cons (Nd.str (by decide +kernel) (by decide +kernel)) (NdA.nil (W := 0)))).le (Nat.le_refl _) (by decide)
  | inf s =>
    have h : s = 0 ∨ s = 1 := h
    exact (Nd.tuple (NdA.cons (Nd.str (by decide +kernel) (by decide +kernel)) (NdA.cons (Nd.int (n := 2) (by unfold Bd; omega)) (NdA.nil (W := 0))))).le (Nat.le_refl _) (by decide)
  | num s c e => obtain ⟨h1, h3, h4, h5, h6⟩ := h; exact nm_nd F h1 h3 h4 h5 h6
theorem two_nd {x : PyData} {l : List Str} (h : Nd 2 40 x) (hl : ∀ y ∈ l, y ∈ flagW) (h5 : l.length ≤ 5) : Nd 3 160 (.tuple [x, words l]) :=
  (Nd.tuple (NdA.cons (h.le (Nat.le_refl _) (Nat.le_refl _)) (NdA.cons (W := 105) ((Nd.tuple ((words_nd hl).le (Nat.le_refl _) (show 21 * l.length ≤ 105 by omega))).le (Nat.le_refl _) (Nat.le_refl _)) (NdA.nil (W := 0))))).le (Nat.le_refl _) (by decide)
theorem out_nd {way : Str} {s e c part : Int} (hs : s = 0 ∨ s = 1) (hC : Can b p low c e) : Nd 3 160 (outP b p high way s e c part) := by
  have hn := (nb_can (o := outw way s c part) F.b2 F.p2 hC).1
  have P := F.pows; have l2 := P.l2; have ge := P.ge; have lh := F.lh
  unfold outP
  split
  · refine two_nd F ?_ (by decide) (by decide)
    unfold tooG
    split
    · exact va_nd F (v := .inf s) hs
    · exact nm_nd F hs (by omega) (by omega) lh (Int.le_refl _)
  · obtain ⟨a1, a2, a3, _⟩ := hn
    split
    · exact two_nd F (nm_nd F hs a1 a2 a3 (by omega)) (by decide) (by decide)
    · split <;> exact two_nd F (nm_nd F hs a1 a2 a3 (by omega)) (by decide) (by decide)
end
def Va.isNum : Va → Bool
  | .num _ _ _ => true
  | _ => false
theorem tag_num (v : Va) : decide (v.tag = "num") = v.isNum := by
  cases v
  · exact decide_eq_false (show ¬ ("nan" : Str) = "num" by decide)
  · exact decide_eq_false (show ¬ ("inf" : Str) = "num" by decide)
  · rfl
section
variable (b p : Nat) (low high : Int)
end
end Lw
set_option exponentiation.threshold 20000
namespace Lw
open PySem PySem.Spec PyProof.Rows L2 Gd Fr
open scoped Rat
section
variable {b p : Nat} {low high : Int} (F : Fm b p low high)
include F
end
def outV (b p : Nat) (high : Int) (way : Str) (s e c part : Int) : Va :=
  if high < (nb b p (outw way s c part) c e).2 then (if isInf way s = true then .inf s else .num s (((b ^ p : Nat) : Int) - 1) high)
  else .num s (nb b p (outw way s c part) c e).1 (nb b p (outw way s c part) c e).2
def outF (b p : Nat) (high : Int) (way : Str) (s e c part : Int) : List Str :=
  if high < (nb b p (outw way s c part) c e).2 then ["inexact", "over"] else if part = 0 then [] else if c < ((b ^ (p - 1) : Nat) : Int) then ["inexact", "tiny"] else ["inexact"]
theorem outP_eq (b p : Nat) (high : Int) (way : Str) (s e c part : Int) : outP b p high way s e c part = .tuple [(outV b p high way s e c part).d, words (outF b p high way s e c part)] := by
  unfold outP outV outF
  split
  · unfold tooG; split <;> rfl
  · split
    · rfl
    · split <;> rfl
def pickQ (qs : List Rat) (B : Bag) : Rat := qs.getD (tkV B qs.length).toNat 0
theorem pick_fq (qs : List Rat) (B : Bag) (h : 0 < qs.length) : pick (qs.map fq) B = fq (pickQ qs B) := by
  have h0 := tkV_ge B (m := qs.length) (by omega)
  have h1 := tkV_lt B (m := qs.length) (by omega)
  have hlt : (tkV B qs.length).toNat < qs.length := by omega
  unfold pick pickQ
  rw [List.length_map, List.getD_eq_getElem?_getD, List.getD_eq_getElem?_getD, List.getElem?_map, List.getElem?_eq_getElem hlt]; rfl
theorem pickQ_mem (qs : List Rat) (B : Bag) (h : 0 < qs.length) : pickQ qs B ∈ qs := by
  have h0 := tkV_ge B (m := qs.length) (by omega)
  have h1 := tkV_lt B (m := qs.length) (by omega)
  have hlt : (tkV B qs.length).toNat < qs.length := by omega
  unfold pickQ
  rw [List.getD_eq_getElem?_getD, List.getElem?_eq_getElem hlt]
  exact List.getElem_mem hlt
section
variable (b p : Nat) (low high : Int)
end
section
variable {b p : Nat} {low high : Int} (F : Fm b p low high)
include F
end
end Lw
namespace Lw
open PySem PySem.Spec PyProof.Rows L2 Gd Fr
end Lw
set_option exponentiation.threshold 20000
namespace Lw
open PySem PySem.Spec PyProof.Rows L2 Gd Fr
open scoped Rat
section
variable (b p : Nat) (low high : Int)
end
end Lw
namespace Gd
open PySem PySem.Spec PyProof.Rows L2
section
variable {X : Cx} {i : Nat} {Γ : List VD} {B B1 B2 B' : Bag} {acc ds : List PyData} {e a b c : Expr} {es : List Expr} {d da db : VD} {y : PyData} {pos p p1 p2 p3 pos' : Pos} {rest ss s1 s2 : List Stmt} {E : EnO} {Es : En}
theorem Own.set {K : PySem.W.Frag} {g : Gh} {A0 A1 : Hp} {a : Addr} {σ : L2.St} {H0 H : Hp} (w : Own K i g A0 A1 a B Γ acc σ H0 H) (j : Nat) (hij : j ≠ i) {v : V} (r : Rv K g H0 v d) : Own K i g A0 A1 a B (Γ.set j d) acc (σ.set j (some v)) H0 H :=
  ⟨w.to, w.fr, w.off, w.ev.set j r, by rw [List.getElem?_set_ne hij]; exact w.at', w.no, w.ls, w.on⟩
end
end Gd
namespace Gd
open PySem PySem.Spec PyProof.Rows L2
section
variable {X : Cx} {i : Nat} {Γ : List VD} {B B1 B2 B3 : Bag} {e0 e2 e3 : Expr} {d0 d2 d3 : PyData} {pos pl pt2 : Pos} {rest : List Stmt} {Es : En}
end
end Gd
set_option exponentiation.threshold 20000
namespace Lw
open PySem PySem.Spec PyProof.Rows L2 Gd Fr
open scoped Rat
theorem NdA.all {D W : Nat} : ∀ {ds : List PyData}, (∀ d ∈ ds, Nd D W d) → NdA D ((W + 1) * ds.length) ds
  | [], _ => NdA.nil
  | d :: ds, h => by
    have := NdA.cons (h d List.mem_cons_self) (NdA.all fun e he => h e (List.mem_cons_of_mem _ he))
    exact this.le (Nat.le_refl _) (by rw [List.length_cons, Nat.mul_succ]; omega)
theorem _root_.Gd.pgN {X : Cx} {x : Str} {pos : Pos} (i : Nat) (nd : X.N.Nodup) (hi : X.N[i]? = some x := by rfl) (hx : Loc X.env.scope x := by first | exact Or.inl rfl | exact Or.inr rfl)
    (hf : X.fn x = true ∨ X.env.scope.names.lookup x = some .local := by first | exact .inl rfl | exact .inr rfl) : PG X (.Name x pos) (gName i) := pg_name nd hi hx hf
end Lw
namespace Gd
open PySem PySem.Spec PyProof.Rows L2
section
variable {X : Cx} {i : Nat} {Γ : List VD} {B B1 B2 B' : Bag} {acc ds ys : List PyData} {e a b c : Expr} {es : List Expr} {d da db : VD} {y : PyData} {pos p p1 p2 p3 pos' : Pos} {rest ss s1 s2 : List Stmt} {E : EnO} {Es : En}
section
variable {elt : Expr} {scope : Scope} {j : Nat} {x : Str} {px : Pos}
end
end
end Gd
set_option exponentiation.threshold 20000
namespace Lw
open PySem PySem.Spec PyProof.Rows L2 Gd Fr
open scoped Rat
end Lw
set_option exponentiation.threshold 20000
namespace Lw
open PySem PySem.Spec PyProof.Rows L2 Gd Fr
open scoped Rat
theorem gap_mul (x : Rat) (f : Int) : (x - (f : Rat)) * ((x.den : Int) : Rat) = ((x.num - f * (x.den : Int) : Int) : Rat) := by
  have h := num_den x
  rw [Rat.intCast_sub, Rat.intCast_mul, ← h]; grind
theorem denQ_pos (x : Rat) : (0 : Rat) < ((x.den : Int) : Rat) := Rat.intCast_pos.mpr (den_pos x)
theorem fl (x : Rat) : ∃ g : Rat, x = ((x.num / (x.den : Int) : Int) : Rat) + g ∧ 0 ≤ g ∧ g < 1 ∧ x - ((x.num / (x.den : Int) : Int) : Rat) = g := by
  refine ⟨x - ((x.num / (x.den : Int) : Int) : Rat), by grind, ?_, ?_, rfl⟩
  · have h := gap_mul x (x.num / (x.den : Int))
    have h1 := Int.emod_add_mul_ediv x.num (x.den : Int)
    have h2 := Int.emod_nonneg x.num (Int.ne_of_gt (den_pos x))
    have h3 : (0 : Rat) ≤ (x - ((x.num / (x.den : Int) : Int) : Rat)) * ((x.den : Int) : Rat) := by
      rw [h]; exact Rat.intCast_nonneg.mpr (by rw [Int.mul_comm]; omega)
    refine Rat.not_lt.mp fun z => ?_
    have := (Rat.mul_lt_mul_right (denQ_pos x)).mpr z
    rw [Rat.zero_mul] at this
    exact absurd (ltle this h3) Rat.lt_irrefl
  · have h := gap_mul x (x.num / (x.den : Int))
    have h1 := Int.emod_add_mul_ediv x.num (x.den : Int)
    have h2 := Int.emod_lt_of_pos x.num (den_pos x)
    refine (Rat.mul_lt_mul_right (denQ_pos x)).mp ?_
    rw [h, Rat.one_mul]
    exact cast_lt.mpr (by rw [Int.mul_comm]; omega)
end Lw
set_option exponentiation.threshold 20000
namespace Lw
open PySem PySem.Spec PyProof.Rows L2 Gd Fr
open scoped Rat
theorem half_nd : ((1 / 2 : Rat)).num = 1 ∧ ((1 / 2 : Rat)).den = 2 := by constructor <;> decide +kernel
theorem fq_half : fq (1 / 2 : Rat) = .tuple [.int 1, .int 2] := by unfold fq; rw [half_nd.1, half_nd.2]; rfl
theorem half_qz : Qz 1 2 (1 / 2 : Rat) := ⟨by rw [half_nd.1]; unfold Bd; decide, by rw [half_nd.2]; unfold Bd; decide⟩
end Lw
set_option exponentiation.threshold 20000
namespace Lw
open PySem PySem.Spec PyProof.Rows L2 Gd Fr
open scoped Rat
section
variable (b p : Nat) (low high : Int)
end
theorem fq_mk {q : Rat} {n d : Int} (h1 : q.num = n) (h2 : (q.den : Int) = d) : .tuple [.int n, .int d] = fq q := by unfold fq; rw [h1, h2]
end Lw
set_option exponentiation.threshold 20000
namespace Lw
open PySem PySem.Spec PyProof.Rows L2 Gd Fr
open scoped Rat
def nfParts : List Rat := [0, 1 / 2, 1 / 2, 1 / 3, 2 / 3, 1 / 1000000000, -1 / 1000000000, 1 / 4]
def nfG : List Rat := [1, 2, 101 / 100, 99 / 100, 1000000000]
def nfN : List Rat := [1, 1 / 2, 999 / 1000, 1 / 1000000000, 1001 / 1000]
def unitQ (i : Int) (k : Nat) : Rat := i /. ((10 ^ k : Nat) : Int)
theorem pm_mem (B : Bag) : pickI [1, -1] B = 1 ∨ pickI [1, -1] B = -1 := by
  have h := pickI_mem [1, -1] B (by decide)
  generalize pickI [1, -1] B = z at *
  simpa using h
theorem unit_fq40 {i : Int} (h : i = 1 ∨ i = -1) : .tuple [.int i, .int (10 ^ 40)] = fq (unitQ i 40) := by
  rcases h with rfl | rfl <;> exact fq_mk (by decide +kernel) (by decide +kernel)
theorem unit_fq120 {i : Int} (h : i = 1 ∨ i = -1) : .tuple [.int i, .int (10 ^ 60 * 10 ^ 60)] = fq (unitQ i 120) := by
  rcases h with rfl | rfl <;> exact fq_mk (by decide +kernel) (by decide +kernel)
theorem unit_qz40 {i : Int} (h : i = 1 ∨ i = -1) : Qz 1 133 (unitQ i 40) := by
  rcases h with rfl | rfl <;> exact ⟨by unfold Bd; decide +kernel, by unfold Bd; decide +kernel⟩
theorem unit_qz120 {i : Int} (h : i = 1 ∨ i = -1) : Qz 1 399 (unitQ i 120) := by
  rcases h with rfl | rfl <;> exact ⟨by unfold Bd; decide +kernel, by unfold Bd; decide +kernel⟩
theorem parts_is : PyData.list [.tuple [.int 0, .int 1], .tuple [.int 1, .int 2], .tuple [.int 1, .int 2], .tuple [.int 1, .int 3], .tuple [.int 2, .int 3], .tuple [.int 1, .int (10 ^ 9)], .tuple [.int (-1), .int (10 ^ 9)], .tuple [.int 1, .int 4]] = .list (nfParts.map fq) := by
  unfold nfParts
  simp only [List.map_cons, List.map_nil]
  rw [← fq_mk (q := 0) (n := 0) (d := 1) (by decide +kernel) (by decide +kernel), ← fq_mk (q := 1 / 2) (n := 1) (d := 2) (by decide +kernel) (by decide +kernel), ← fq_mk (q := 1 / 3) (n := 1) (d := 3) (by decide +kernel) (by decide +kernel), ← fq_mk (q := 2 / 3) (n := 2) (d := 3) (by decide +kernel) (by decide +kernel),
    ← fq_mk (q := 1 / 1000000000) (n := 1) (d := 10 ^ 9) (by decide +kernel) (by decide +kernel), ← fq_mk (q := -1 / 1000000000) (n := -1) (d := 10 ^ 9) (by decide +kernel) (by decide +kernel), ← fq_mk (q := 1 / 4) (n := 1) (d := 4) (by decide +kernel) (by decide +kernel)]
theorem great_is : PyData.list [.tuple [.int 1, .int 1], .tuple [.int 2, .int 1], .tuple [.int 101, .int 100], .tuple [.int 99, .int 100], .tuple [.int (10 ^ 9), .int 1]] = .list (nfG.map fq) := by
  unfold nfG
  simp only [List.map_cons, List.map_nil]
  rw [← fq_mk (q := 1) (n := 1) (d := 1) (by decide +kernel) (by decide +kernel), ← fq_mk (q := 2) (n := 2) (d := 1) (by decide +kernel) (by decide +kernel), ← fq_mk (q := 101 / 100) (n := 101) (d := 100) (by decide +kernel) (by decide +kernel), ← fq_mk (q := 99 / 100) (n := 99) (d := 100) (by decide +kernel) (by decide +kernel),
    ← fq_mk (q := 1000000000) (n := 10 ^ 9) (d := 1) (by decide +kernel) (by decide +kernel)]
theorem norm_is : PyData.list [.tuple [.int 1, .int 1], .tuple [.int 1, .int 2], .tuple [.int 999, .int 1000], .tuple [.int 1, .int (10 ^ 9)], .tuple [.int 1001, .int 1000]] = .list (nfN.map fq) := by
  unfold nfN
  simp only [List.map_cons, List.map_nil]
  rw [← fq_mk (q := 1) (n := 1) (d := 1) (by decide +kernel) (by decide +kernel), ← fq_mk (q := 1 / 2) (n := 1) (d := 2) (by decide +kernel) (by decide +kernel), ← fq_mk (q := 999 / 1000) (n := 999) (d := 1000) (by decide +kernel) (by decide +kernel), ← fq_mk (q := 1 / 1000000000) (n := 1) (d := 10 ^ 9) (by decide +kernel) (by decide +kernel),
    ← fq_mk (q := 1001 / 1000) (n := 1001) (d := 1000) (by decide +kernel) (by decide +kernel)]
theorem parts_qz : ∀ q ∈ nfParts, Qz 401 401 q := by
  intro q hq
  have : Qz 2 30 q := by
    unfold nfParts at hq
    simp only [List.mem_cons, List.not_mem_nil, or_false] at hq
    rcases hq with rfl | rfl | rfl | rfl | rfl | rfl | rfl | rfl <;> exact ⟨by unfold Bd; decide +kernel, by unfold Bd; decide +kernel⟩
  exact this.le (by decide) (by decide)
theorem g_qz : ∀ q ∈ nfG, Qz 30 7 q := by
  intro q hq
  unfold nfG at hq
  simp only [List.mem_cons, List.not_mem_nil, or_false] at hq
  rcases hq with rfl | rfl | rfl | rfl | rfl <;> exact ⟨by unfold Bd; decide +kernel, by unfold Bd; decide +kernel⟩
theorem n_qz : ∀ q ∈ nfN, Qz 10 30 q := by
  intro q hq
  unfold nfN at hq
  simp only [List.mem_cons, List.not_mem_nil, or_false] at hq
  rcases hq with rfl | rfl | rfl | rfl | rfl <;> exact ⟨by unfold Bd; decide +kernel, by unfold Bd; decide +kernel⟩
noncomputable def nfP (B : Bag) : Rat := if tkV (tkB B 8) 12 = 0 then 1 / 2 + unitQ (pickI [1, -1] (tkB (tkB B 8) 12)) 120 else pickQ nfParts B
def nfPB (B : Bag) : Bag := if tkV (tkB B 8) 12 = 0 then tkB (tkB (tkB B 8) 12) 2 else tkB (tkB B 8) 12
def nf0 (w : Int) (f : Rat) (B : Bag) : Rat := if w = 0 then f + unitQ (pickI [1, -1] B) 40 else f
def nf0B (w : Int) (B : Bag) : Bag := if w = 0 then tkB B 2 else B
def nf1 (w : Int) (f : Rat) (B : Bag) : Rat := if w = 1 then (tkV B (10 ^ 6) - 500000) /. (1 + tkV (tkB B (10 ^ 6)) (10 ^ 4)) else f
def nf1B (w : Int) (B : Bag) : Bag := if w = 1 then tkB (tkB B (10 ^ 6)) (10 ^ 4) else B
noncomputable def nf2 (b p : Nat) (high w : Int) (f : Rat) (B : Bag) : Rat := if w = 2 then grQ b p high * pickQ nfG B else f
def nf2B (w : Int) (B : Bag) : Bag := if w = 2 then tkB B 5 else B
def nf3 (b p : Nat) (low w : Int) (f : Rat) (B : Bag) : Rat := if w = 3 then pw b (low + p - 1) * pickQ nfN B else f
def nf3B (w : Int) (B : Bag) : Bag := if w = 3 then tkB B 5 else B
section
variable (b p : Nat) (low high : Int)
def nfW (B : Bag) : Int := tkV (numB b p low high B) 8
def nfB2 (B : Bag) : Bag := tkB (numB b p low high B) 8
noncomputable def nfF (B : Bag) : Rat := (((numV b p low high B).c : Int) + nfP (nfB2 b p low high B)) * pw b (numV b p low high B).e
def nfS (w : Int) (B : Bag) : Bag := nf3B w (nf2B w (nf1B w (nf0B w B)))
noncomputable def nfT (w : Int) (f : Rat) (B : Bag) : Rat := nf3 b p low w (nf2 b p high w (nf1 w (nf0 w f B) (nf0B w B)) (nf1B w (nf0B w B))) (nf2B w (nf1B w (nf0B w B)))
noncomputable def nfQ (B : Bag) : Rat :=
  if tkV (nfS (nfW b p low high B) (nfPB (nfB2 b p low high B))) 2 = 0 then -nfT b p low high (nfW b p low high B) (nfF b p low high B) (nfPB (nfB2 b p low high B)) else nfT b p low high (nfW b p low high B) (nfF b p low high B) (nfPB (nfB2 b p low high B))
def nfB (B : Bag) : Bag := tkB (nfS (nfW b p low high B) (nfPB (nfB2 b p low high B))) 2
end
theorem nfPB_ok {B : Bag} (h : Bok B) : Bok (nfPB B) := by
  unfold nfPB; split
  · exact tkB_ok (tkB_ok (tkB_ok h _) _) _
  · exact tkB_ok (tkB_ok h _) _
theorem nf0B_ok {w : Int} {B : Bag} (h : Bok B) : Bok (nf0B w B) := by
  unfold nf0B; split
  · exact tkB_ok h _
  · exact h
theorem nf1B_ok {w : Int} {B : Bag} (h : Bok B) : Bok (nf1B w B) := by
  unfold nf1B; split
  · exact tkB_ok (tkB_ok h _) _
  · exact h
theorem nf2B_ok {w : Int} {B : Bag} (h : Bok B) : Bok (nf2B w B) := by
  unfold nf2B; split
  · exact tkB_ok h _
  · exact h
theorem nf3B_ok {w : Int} {B : Bag} (h : Bok B) : Bok (nf3B w B) := by
  unfold nf3B; split
  · exact tkB_ok h _
  · exact h
theorem nfS_ok {w : Int} {B : Bag} (h : Bok B) : Bok (nfS w B) := nf3B_ok (nf2B_ok (nf1B_ok (nf0B_ok h)))
theorem nfB_ok {b p : Nat} {low high : Int} {B : Bag} (h : Bok B) : Bok (nfB b p low high B) := tkB_ok (nfS_ok (nfPB_ok (tkB_ok (numB_ok h) _))) _
theorem nfP_qz (B : Bag) : Qz 401 401 (nfP B) := by
  unfold nfP; split
  · exact half_qz.add (unit_qz120 (pm_mem _)) 401 (by decide) (by decide)
  · exact parts_qz _ (pickQ_mem nfParts _ (by decide))
theorem nf1_den (B : Bag) : 1 + tkV (tkB B (10 ^ 6)) (10 ^ 4) ≠ 0 := by
  have := tkV_ge (tkB B (10 ^ 6)) (m := 10 ^ 4) (by decide)
  omega
theorem nf1_bd (B : Bag) : Bd 20 (tkV B (10 ^ 6) - 500000) ∧ Bd 14 (1 + tkV (tkB B (10 ^ 6)) (10 ^ 4)) := by
  have h1 := tkV_ge B (m := 10 ^ 6) (by decide)
  have h3 := tkV_lt B (m := 10 ^ 6) (by decide)
  have h4 := tkV_ge (tkB B (10 ^ 6)) (m := 10 ^ 4) (by decide)
  have h5 := tkV_lt (tkB B (10 ^ 6)) (m := 10 ^ 4) (by decide)
  unfold Bd
  omega
theorem num_parts {b p : Nat} {low high : Int} (F : Fm b p low high) (B : Bag) : ∃ s c e, numV b p low high B = .num s c e ∧ Vok b p low high (.num s c e) := by
  have h := numV_ok F B
  cases hv : numV b p low high B with
  | nan => unfold numV at hv; split at hv <;> cases hv
  | inf s => unfold numV at hv; split at hv <;> cases hv
  | num s c e => rw [hv] at h; exact ⟨_, _, _, rfl, h⟩
section
variable {b p : Nat} {low high : Int} (F : Fm b p low high)
include F
theorem nfF0_qz {s c e : Int} (h : Vok b p low high (.num s c e)) {q : Rat} (hq : Qz 401 401 q) : Qz 3442 2742 (((c : Int) + q) * pw b e) := by
  obtain ⟨h1, h3, h4, h5, h6⟩ := h
  have bp := F.bp
  have hc : Qz 700 1 (c : Rat) := ⟨by rw [Rat.num_intCast]; unfold Bd; omega, by rw [Rat.den_intCast]; unfold Bd; decide⟩
  exact (hc.add hq 1102 (by decide) (by decide)).mul (F.qz h5 h6)
theorem nfF_qz (B : Bag) : Qz 3442 2742 (nfF b p low high B) := by
  obtain ⟨s, c, e, hv, ok⟩ := num_parts F B
  unfold nfF
  rw [hv]
  exact nfF0_qz F ok (nfP_qz _)
omit F in
theorem nf0_qz {w : Int} {f : Rat} (B : Bag) (h : Qz 3442 2742 f) : Qz 3576 2875 (nf0 w f B) := by
  unfold nf0; split
  · exact h.add (unit_qz40 (pm_mem B)) 3576 (by decide) (by decide)
  · exact h.le (by decide) (by decide)
omit F in
theorem nf1_qz {w : Int} {f : Rat} (B : Bag) (h : Qz 3576 2875 f) : Qz 3576 2875 (nf1 w f B) := by
  unfold nf1; split
  · have hb := nf1_bd B
    have := divInt_bd (nf1_den B) hb.1 hb.2
    exact (show Qz 20 14 _ from ⟨this.1, this.2⟩).le (by decide) (by decide)
  · exact h
theorem gr_qz : Qz 3040 2341 (grQ b p high) := (can_qz F (great_can F) (Int.le_refl _)).1
end
inductive R_nearF : Rel
  | mk (b p : Nat) (low high : Int) (B : Bag) (F : Fm b p low high) (hc : Bok B) : R_nearF [.bag, .da (fmP b p low high)] B (fq (nfQ b p low high B)) (nfB b p low high B)
theorem fq_neg (q : Rat) : fq (-q) = .tuple [.int (-q.num), .int (q.den : Int)] := by unfold fq; rw [Rat.neg_num, Rat.neg_den]
end Lw
namespace Gd
open PySem PySem.Spec PyProof.Rows L2
section
variable {X : Cx} {i : Nat} {Γ : List VD} {B B1 B2 B' : Bag} {acc ds ys : List PyData} {e a b c : Expr} {es : List Expr} {d da db : VD} {y : PyData} {pos p p1 p2 p3 pos' : Pos} {rest ss s1 s2 : List Stmt} {E : EnO} {Es : En}
end
end Gd
namespace Gd
open PySem PySem.Spec PyProof.Rows L2
mutual
def niceB : PyData → Bool
  | .none => true
  | .bool _ => true
  | .int i => decide (Nat.log2 i.natAbs < 12900)
  | .str x => x.cps.all fun c => c < 0x110000
  | .list xs => niceBAll xs
  | .tuple xs => niceBAll xs
  | .dict _ => false
def niceBAll : List PyData → Bool
  | [] => true
  | x :: xs => niceB x && niceBAll xs
end
theorem big_lt {i : Int} (h : Nat.log2 i.natAbs < 12900) : i.natAbs < 10 ^ 4300 := Nat.lt_of_lt_of_le (lt_of_log2 h) pow_lo
section
variable {prog : Program} {w : World} {A : Around} {E : Value → Shared → Prop} {s : Shared} {h₀ : Heap}
end
mutual
theorem niceB_lay : ∀ d : PyData, niceB d = true → d.canLay0 = true ∧ d.leavesShort 4301 = true
  | .none, _ => ⟨by simp only [PyData.canLay0], by simp only [PyData.leavesShort]⟩
  | .bool _, _ => ⟨by simp only [PyData.canLay0], by simp only [PyData.leavesShort]⟩
  | .int i, h => ⟨by simp only [PyData.canLay0], by
    simp only [niceB, decide_eq_true_eq] at h
    simp only [PyData.leavesShort, decide_eq_true_eq, PyData.shown_int]; rw [PySem.ofString_length]
    exact int_text_length_le10 (k := 4300) (by decide) (big_lt h)⟩
  | .str x, h => by
    simp only [niceB] at h
    refine ⟨by simp only [PyData.canLay0]; exact h, ?_⟩
    simp only [PyData.leavesShort, List.all_eq_true, decide_eq_true_eq]; intro c hc
    have h3 : c < 0x110000 := of_decide_eq_true (Array.all_eq_true'.mp h c (by simpa using hc))
    omega
  | .list xs, h => by simp only [niceB] at h; simp only [PyData.canLay0, PyData.leavesShort]; exact niceB_layA xs h
  | .tuple xs, h => by simp only [niceB] at h; simp only [PyData.canLay0, PyData.leavesShort]; exact niceB_layA xs h
  | .dict _, h => by simp only [niceB] at h; cases h
theorem niceB_layA : ∀ ds : List PyData, niceBAll ds = true → PyData.canLayAll0 ds = true ∧ PyData.leavesShortAll 4301 ds = true
  | [], _ => ⟨by simp only [PyData.canLayAll0], by simp only [PyData.leavesShortAll]⟩
  | x :: xs, h => by
    simp only [niceBAll, Bool.and_eq_true] at h
    have a := niceB_lay x h.1
    have c := niceB_layA xs h.2
    simp only [PyData.canLayAll0, PyData.leavesShortAll, Bool.and_eq_true]; exact ⟨⟨a.1, c.1⟩, a.2, c.2⟩
end
structure OkB (d : PyData) : Prop where
  nice : niceB d = true
  dp : d.depth ≤ 60
  bulk : d.bulk ≤ 2000
theorem OkB.shaped {d : PyData} (h : OkB d) : SeqAt.shaped d = true := by
  unfold SeqAt.shaped
  rw [(niceB_lay d h.nice).1, Bool.true_and, decide_eq_true_eq]; have := h.dp; omega
theorem OkB.len {d : PyData} (h : OkB d) : d.shown.length ≤ sizeLine := by
  have h1 := PyData.shown_le_bulk 4301 (by decide) d (niceB_lay d h.nice).2
  have h2 := h.bulk
  rw [show sizeLine = 16777216 from by decide]; omega
section
variable {X : Cx} {i : Nat} {Γ : List VD} {B B1 B2 B' : Bag} {e a b c : Expr} {es : List Expr} {y : PyData} {pos p : Pos}
end
end Gd
set_option exponentiation.threshold 20000
namespace Lw
open PySem PySem.Spec PyProof.Rows L2 Gd Fr
open scoped Rat
mutual
theorem niceB_of : ∀ d : PyData, nice d = true → niceB d = true
  | .none, _ => by simp only [niceB]
  | .bool _, _ => by simp only [niceB]
  | .int i, h => by
    simp only [nice, decide_eq_true_eq] at h
    simp only [niceB, decide_eq_true_eq]
    omega
  | .str _, h => by simp only [nice] at h; simp only [niceB]; exact h
  | .list xs, h => by simp only [nice] at h; simp only [niceB]; exact niceB_ofA xs h
  | .tuple xs, h => by simp only [nice] at h; simp only [niceB]; exact niceB_ofA xs h
  | .dict _, h => by simp only [nice] at h; cases h
theorem niceB_ofA : ∀ ds : List PyData, niceAll ds = true → niceBAll ds = true
  | [], _ => by simp only [niceBAll]
  | x :: xs, h => by
    simp only [niceAll, Bool.and_eq_true] at h
    simp only [niceBAll, Bool.and_eq_true]
    exact ⟨niceB_of x h.1, niceB_ofA xs h.2⟩
end
structure NdB (D W : Nat) (d : PyData) : Prop where
  ni : niceB d = true
  dp : d.depth ≤ D
  bk : d.bulk ≤ W
structure NdBA (D W : Nat) (ds : List PyData) : Prop where
  ni : niceBAll ds = true
  dp : PyData.depthAll ds ≤ D
  bk : PyData.bulkAll ds ≤ W
theorem Nd.b {D W : Nat} {d : PyData} (h : Nd D W d) : NdB D W d := ⟨niceB_of d h.ni, h.dp, h.bk⟩
theorem NdBA.nil {D W : Nat} : NdBA D W [] := ⟨by simp only [niceBAll], by simp only [PyData.depthAll]; omega, by simp only [PyData.bulkAll]; omega⟩
theorem NdBA.cons {D W W' : Nat} {d : PyData} {ds : List PyData} (h : NdB D W d) (r : NdBA D W' ds) : NdBA D (W + 1 + W') (d :: ds) :=
  ⟨by simp only [niceBAll, h.ni, r.ni, Bool.and_self], by have := h.dp; have := r.dp; simp only [PyData.depthAll]; omega, by have := h.bk; have := r.bk; simp only [PyData.bulkAll]; omega⟩
theorem NdB.le {D W D' W' : Nat} {d : PyData} (h : NdB D W d) (e : D ≤ D') (f : W ≤ W') : NdB D' W' d := ⟨h.ni, Nat.le_trans h.dp e, Nat.le_trans h.bk f⟩
theorem NdB.list {D W : Nat} {ds : List PyData} (h : NdBA D W ds) : NdB (D + 1) W (.list ds) := ⟨by simp only [niceB]; exact h.ni, by have := h.dp; simp only [PyData.depth]; omega, by have := h.bk; simp only [PyData.bulk]; omega⟩
theorem NdB.tuple {D W : Nat} {ds : List PyData} (h : NdBA D W ds) : NdB (D + 1) W (.tuple ds) := ⟨by simp only [niceB]; exact h.ni, by have := h.dp; simp only [PyData.depth]; omega, by have := h.bk; simp only [PyData.bulk]; omega⟩
theorem NdB.int {n : Nat} {i : Int} (h : Bd n i) (e : n ≤ 12900 := by decide) : NdB 1 0 (.int i) := ⟨by
  simp only [niceB, decide_eq_true_eq]
  by_cases h0 : 0 < n
  · exact Nat.lt_of_lt_of_le (PySem.Flt.log2_lt_of h0 h) e
  · have : n = 0 := by omega
    subst this
    have : i.natAbs = 0 := by unfold Bd at h; omega
    rw [this]; decide, by simp only [PyData.depth]; omega, by simp only [PyData.bulk]; omega⟩
theorem unit_split {b : Nat} (h2 : 2 ≤ b) (e : Int) (q : Rat) : q * pw b (-e) = (cQ b e q : Rat) + tQ b e q := by
  conv => lhs; lhs; rw [q_val h2 e q]
  rw [Rat.mul_assoc, ← pw_add h2, show e + -e = 0 by omega, pw_zero, Rat.mul_one]
def Vcan (b p : Nat) (low high : Int) : Va → Prop
  | .num s c e => (s = 0 ∨ s = 1) ∧ Can b p low c e ∧ e ≤ high
  | .inf s => s = 0 ∨ s = 1
  | .nan => True
theorem Vcan.ok {b p : Nat} {low high : Int} {v : Va} (h : Vcan b p low high v) : Vok b p low high v := by
  cases v with
  | nan => trivial
  | inf s => exact h
  | num s c e => exact ⟨h.1, h.2.1.1, h.2.1.2.1, h.2.1.2.2.1, h.2.2⟩
end Lw
set_option exponentiation.threshold 20000
namespace Lw
open PySem PySem.Spec PyProof.Rows L2 Gd Fr
open scoped Rat
section
variable {b p : Nat} {low high : Int} (F : Fm b p low high)
include F
end
end Lw
namespace Gd
open PySem PySem.Spec PyProof.Rows L2
section
variable {X : Cx} {Γ : List VD} {B B1 B2 : Bag} {e c elt : Expr} {scope : Scope} {acc : List PyData} {pos pos' : Pos} {rest : List Stmt} {E : En} {d : VD}
end
end Gd
set_option exponentiation.threshold 20000
namespace Lw
open PySem PySem.Spec PyProof.Rows L2 Gd Fr
open scoped Rat
section
variable {b p : Nat} {low high : Int} (F : Fm b p low high)
include F
end
end Lw
namespace Gd
open PySem PySem.Spec PyProof.Rows L2
section
variable {X : Cx} {Γ : List VD} {B B1 B2 : Bag} {e c elt a b : Expr} {scope : Scope} {acc : List PyData} {pos pos' : Pos} {rest : List Stmt} {E : En} {d : VD}
theorem op_inDT (hu : X.A.units + 64 < cLine) : OpR X (compareOp .In) (fun x y H Q => ∃ d ds, Dp X.K H x d ∧ Dp X.K H y (.tuple ds) ∧ SeqAt.shaped d = true ∧ SeqAt.shaped (.tuple ds) = true ∧ d.depth ≤ 60 ∧ Q (.bl (ds.any fun z => PyData.eqv z d)) H) := by
  intro pins s σ H x y v u Q I rx ry h
  obtain ⟨d, ds, hd, he, sd, se, hp, q⟩ := h
  obtain ⟨as, r1⟩ := Dp.reads I d x v hd rx
  obtain ⟨bs, r2⟩ := Dp.reads I (.tuple ds) y u he ry
  exact SeqAt.in_tuple_reads r2 r1 (SeqAt.canLay_of_shaped se) (SeqAt.canLay_of_shaped sd) (by have := Nat.min_le_right (PyData.depthAll ds) d.depth; omega) ⟨.bl _, H, I, rfl, q⟩
theorem tj_inD {d : PyData} {ds : List PyData} (hu : X.A.units + 64 < cLine) (ha : EJ X Γ B a (.da d) B1) (hb : EJ X Γ B1 b (.da (.tuple ds)) B2) (hd : SeqAt.shaped d = true) (hds : SeqAt.shaped (.tuple ds) = true) (hp : d.depth ≤ 60) (hm : behindInMarks .In b = false := by rfl) :
    TJ X Γ B (.Compare a [.In] [b] pos) (ds.any fun z => PyData.eqv z d) B2 :=
  tj_cmp ha hb (op_inDT hu) hm fun g v w H0 H O r1 r2 Q q => ⟨d, ds, (Rp.mono O.ex r1).dp, (Rp.mono O.ex r2).dp, hd, hds, hp, q H0 H To.refl O⟩
end
end Gd
set_option exponentiation.threshold 20000
namespace Lw
open PySem PySem.Spec PyProof.Rows L2 Gd Fr
open scoped Rat
section
variable {b p : Nat} {low high : Int} (F : Fm b p low high)
include F
end
end Lw
namespace Gd
open PySem PySem.Spec PyProof.Rows L2
section
variable {P : Program} {w : World} {A : Around} {s : Shared} {E : Value → Shared → Prop}
end
section
variable {X : Cx}
end
end Gd
namespace Gd
open PySem PySem.Spec PyProof.Rows L2
section
variable {X : Cx} {Γ : List VD} {B B1 B2 : Bag} {e c elt a b : Expr} {scope : Scope} {acc : List PyData} {pos pos' p p' : Pos} {rest : List Stmt} {E : En} {d : VD}
end
end Gd
set_option exponentiation.threshold 20000
namespace Lw
open PySem PySem.Spec PyProof.Rows L2 Gd Fr
open scoped Rat
end Lw
set_option exponentiation.threshold 20000
namespace Lw
open PySem PySem.Spec PyProof.Rows L2 Gd Fr
open scoped Rat
section
variable {b p : Nat} {low high : Int} (F : Fm b p low high)
include F
end
end Lw
set_option exponentiation.threshold 20000
namespace Lw
open PySem PySem.Spec PyProof.Rows L2 Gd Fr
open scoped Rat
section
variable {X : Cx} {Γ : List VD} {B B1 B2 : Bag} {a b : Expr} {pos : Pos}
end
end Lw
namespace Gd
open PySem PySem.Spec PyProof.Rows L2
section
variable {P : Program} {w : World} {K : PySem.W.Frag} {mg : Str → Option Value} {base : Heap} {x : Str}
def CalE (P : Program) (w : World) (K : PySem.W.Frag) (mg : Str → Option Value) (base : Heap) (x : Str) (k : Nat) (Pre : List VD → Bag → Prop) (Post : List VD → Bag → PyData → Bag → Prop) : Prop :=
  ∃ R : Rel, Cal P w K mg base x k R ∧ ∀ Γ B, Pre Γ B → ∃ r B', R Γ B r B' ∧ Post Γ B r B'
theorem Cal.e {k : Nat} {R : Rel} (c : Cal P w K mg base x k R) {Pre : List VD → Bag → Prop} {Post : List VD → Bag → PyData → Bag → Prop} (h : ∀ Γ B, Pre Γ B → ∃ r B', R Γ B r B' ∧ Post Γ B r B') : CalE P w K mg base x k Pre Post := ⟨R, c, h⟩
end
section
variable {X : Cx} {Γ : List VD} {B B1 B2 : Bag} {a b c : Expr} {d : VD} {pos : Pos}
end
end Gd
namespace Gd
open PySem PySem.Spec PyProof.Rows L2
section
variable {X : Cx} {i : Nat} {Γ : List VD} {B B1 B2 B' : Bag} {ds : List PyData} {e a b c : Expr} {es : List Expr} {pos p p1 p2 p3 pos' : Pos} {rest ss s1 s2 : List Stmt} {E : En}
end
end Gd
set_option exponentiation.threshold 20000
namespace Lw
open PySem PySem.Spec PyProof.Rows L2 Gd Fr
open scoped Rat
end Lw
namespace Lw
open PySem PySem.Spec PyProof.Rows L2 Gd Fr
end Lw
namespace Gd
open PySem PySem.Spec PyProof.Rows L2
section
variable {X : Cx} {Γ : List VD} {B B1 B2 : Bag} {a b c : Expr} {es : List Expr} {pos p : Pos}
end
end Gd
set_option exponentiation.threshold 20000
namespace Gd
open PySem PySem.Spec PyProof.Rows L2
section
variable {X : Cx} {Γ : List VD} {B B1 B2 : Bag} {c : Expr} {pos : Pos} {rest s1 s2 : List Stmt} {E : En}
end
end Gd
namespace Lw
open PySem PySem.Spec PyProof.Rows L2 Gd Fr
open scoped Rat
end Lw
set_option exponentiation.threshold 20000
namespace Lw
open PySem PySem.Spec PyProof.Rows L2 Gd Fr
open scoped Rat
def fmI (b p : Nat) : Int := ((b : Int) - 1) * ((b ^ (p - 1) : Nat) : Int)
def mostI (b p : Nat) (low high : Int) : Int := ((b ^ p : Nat) : Int) + (high - low) * fmI b p
def rkS (b p : Nat) (low high : Int) : Va → Int
  | .num _ c e => c + (e - low) * fmI b p
  | _ => mostI b p low high
def rkI (b p : Nat) (low high : Int) (v : Va) : Int := if v.sg = 1 then -rkS b p low high v else rkS b p low high v
structure Rkf (b p : Nat) (low high : Int) : Prop where
  l2 : (2 : Int) ≤ ((b ^ (p - 1) : Nat) : Int)
  fl : ((b ^ p : Nat) : Int) = ((b ^ (p - 1) : Nat) : Int) + fmI b p
  f1 : (1 : Int) ≤ fmI b p
  fb : Bd 701 (fmI b p)
  lh : low ≤ high
  lb : ((b ^ (p - 1) : Nat) : Int) ≤ fmI b p
theorem Fm.rkf {b p : Nat} {low high : Int} (F : Fm b p low high) : Rkf b p low high := by
  have P := F.pows; have l2 := P.l2; have eq := P.eq; have b2 := F.b2; have bp := F.bp
  have e : ((b ^ p : Nat) : Int) = ((b ^ (p - 1) : Nat) : Int) * (b : Int) := by rw [eq, Int.natCast_mul]
  have f : fmI b p = ((b ^ (p - 1) : Nat) : Int) * (b : Int) - ((b ^ (p - 1) : Nat) : Int) := by unfold fmI; rw [Int.sub_mul, Int.one_mul, Int.mul_comm]
  have g : ((b ^ (p - 1) : Nat) : Int) * 2 ≤ ((b ^ (p - 1) : Nat) : Int) * (b : Int) := Int.mul_le_mul_of_nonneg_left (by omega) (by omega)
  have bpI : ((b ^ p : Nat) : Int) < 2 ^ 700 := by exact_mod_cast bp
  refine ⟨by omega, by omega, by omega, ?_, F.lh, by omega⟩
  unfold Bd
  have : (fmI b p).natAbs < 2 ^ 700 := by omega
  exact Nat.lt_trans this (by decide)
variable {b p : Nat} {low high : Int} (F : Fm b p low high)
include F
end Lw
namespace Gd
open PySem PySem.Spec PyProof.Rows L2
section
variable {X : Cx} {Γ : List VD} {B B1 B2 : Bag} {a b c e : Expr} {pos p pos' : Pos} {rest : List Stmt} {E : En} {elt : Expr} {scope : Scope} {j : Nat} {x : Str} {px : Pos} {d : VD}
end
end Gd
namespace Gd
open PySem PySem.Spec PyProof.Rows L2
section
variable {X : Cx} {Γ : List VD} {B B1 B2 : Bag} {a b c e : Expr} {pos p pos' : Pos} {rest s1 : List Stmt} {E : En}
end
end Gd
set_option exponentiation.threshold 20000
namespace Lw
open PySem PySem.Spec PyProof.Rows L2 Gd Fr
open scoped Rat
noncomputable instance instVa : DecidableEq Va := fun x y => Classical.propDecidable (x = y)
theorem tag_numD (v : Va) : decide (v.tag = "num") = v.isNum := tag_num v
section
variable {b p : Nat} {low high : Int} (F : Fm b p low high)
include F
theorem zero_can {s : Int} (hs : s = 0 ∨ s = 1) : Vcan b p low high (.num s 0 low) := by
  have R := F.rkf
  have l2 := R.l2; have fl := R.fl; have f1 := R.f1
  exact ⟨hs, ⟨Int.le_refl _, by omega, Int.le_refl _, .inl rfl⟩, F.lh⟩
end
end Lw
namespace Gd
open PySem PySem.Spec PyProof.Rows L2
section
variable {X : Cx} {Γ : List VD} {B B1 B2 : Bag} {a b c e : Expr} {pos p pos' : Pos} {rest s1 : List Stmt} {E : En}
end
end Gd
set_option exponentiation.threshold 20000
namespace Lw
open PySem PySem.Spec PyProof.Rows L2 Gd Fr
open scoped Rat
section
variable {b p : Nat} {low high : Int} (F : Fm b p low high)
include F
end
section
variable {b p : Nat} {low high : Int} (F : Fm b p low high)
include F
end
end Lw
set_option exponentiation.threshold 20000
namespace Lw
open PySem PySem.Spec PyProof.Rows L2 Gd Fr
open scoped Rat
def exQ (b p : Nat) (low high : Int) (x : Rat) : Prop := rQ b (eQ b p low (absQ x)) (absQ x) = 0 ∧ eQ b p low (absQ x) ≤ high
section
variable {b p : Nat} {low high : Int} (F : Fm b p low high)
include F
end
end Lw
namespace Lw
open PySem PySem.Spec PyProof.Rows L2 Gd Fr
end Lw
namespace Gd
open PySem PySem.Spec PyProof.Rows L2
section
variable {X : Cx} {Γ : List VD} {B B1 B2 : Bag} {a b c e elt : Expr} {scope : Scope} {pos p pos' : Pos} {rest s1 : List Stmt} {E : En} {d : VD}
end
end Gd
set_option exponentiation.threshold 20000
namespace Lw
open PySem PySem.Spec PyProof.Rows L2 Gd Fr
open scoped Rat
section
variable {b p : Nat} {low high : Int} (F : Fm b p low high)
include F
end
end Lw
namespace Lw
end Lw
namespace Gd
open PySem PySem.Spec PyProof.Rows L2
section
variable {X : Cx} {Γ : List VD} {B B1 B2 : Bag} {e c elt a b : Expr} {scope : Scope} {acc : List PyData} {pos pos' p p' : Pos} {rest : List Stmt} {E : En} {d : VD}
end
end Gd
set_option exponentiation.threshold 20000
namespace Lw
open PySem PySem.Spec PyProof.Rows L2 Gd Fr
open scoped Rat
noncomputable instance exQ_dec (b p : Nat) (low high : Int) (x : Rat) : Decidable (exQ b p low high x) := by unfold exQ; infer_instance
section
variable {b p : Nat} {low high : Int} {b' p' : Nat} {low' high' : Int} (F : Fm b p low high) (F' : Fm b' p' low' high')
include F F'
end
end Lw
set_option exponentiation.threshold 20000
namespace Lw
open PySem PySem.Spec PyProof.Rows L2 Gd Fr
open scoped Rat
end Lw
set_option exponentiation.threshold 20000
namespace Lw
open PySem PySem.Spec PyProof.Rows L2 Gd Fr
open scoped Rat
end Lw
namespace Gd
open PySem PySem.Spec PyProof.Rows L2
section
variable {X : Cx} {Γ : List VD} {B B1 B2 B3 : Bag} {e c elt a b o i f : Expr} {scope : Scope} {acc : List PyData} {pos pos' p p' : Pos} {rest : List Stmt} {E : En} {d : VD}
end
end Gd
namespace Gd
open PySem PySem.Spec PyProof.Rows L2
section
variable {X : Cx} {Γ : List VD} {B B1 B2 : Bag} {a b c e : Expr} {pos p pos' : Pos} {rest s1 : List Stmt} {E : En}
end
end Gd
set_option exponentiation.threshold 20000
namespace Lw
open PySem PySem.Spec PyProof.Rows L2 Gd Fr
open scoped Rat
section
variable {b p : Nat} {low high : Int} (F : Fm b p low high)
include F
end
end Lw
namespace Lw
open PySem PySem.Spec PyProof.Rows L2 Gd Fr
open scoped Rat
end Lw
namespace Fr
open Gd PySem
open scoped Rat
def tw (k : Nat) (a : Int) : Int := 2 ^ k * (2 * a + 1)
theorem tw_of : ∀ (m : Nat) (n : Int), n.natAbs ≤ m → n ≠ 0 → ∃ k a, n = tw k a := by
  intro m
  induction m with
  | zero => intro n h hn; omega
  | succ m ih =>
    intro n h hn
    by_cases ho : n % 2 = 1
    · exact ⟨0, n / 2, by unfold tw; omega⟩
    · obtain ⟨k, a, e⟩ := ih (n / 2) (by omega) (by omega)
      refine ⟨k + 1, a, ?_⟩
      unfold tw at *
      rw [Int.pow_succ, Int.mul_comm _ 2, Int.mul_assoc, ← e]; omega
theorem tw_ex {n : Int} (h : n ≠ 0) : ∃ k a, n = tw k a := tw_of _ n (Nat.le_refl _) h
theorem tw_ne (k : Nat) (a : Int) : tw k a ≠ 0 := by
  unfold tw
  exact Int.mul_ne_zero (Int.ne_of_gt (Int.pow_pos (by decide))) (by omega)
theorem tw_low (k : Nat) (a : Int) : Builtin.bitAnd (tw k a) (-(tw k a)) = 2 ^ k := PySem.W.kbt_low k a
theorem bits_two (k : Nat) : ((Builtin.Int.intBits ((2 : Int) ^ k) : Nat) : Int) - 1 = (k : Int) := by
  have e : ((2 : Int) ^ k) = ((2 ^ k : Nat) : Int) := by rw [Int.natCast_pow]; rfl
  have p : 0 < 2 ^ k := Nat.pow_pos (by decide)
  unfold Builtin.Int.intBits
  rw [e, if_neg (by rw [beq_iff_eq]; omega), Int.natAbs_natCast, Nat.log2_two_pow]
  omega
theorem tw_shr {j k : Nat} (h : j ≤ k) (a : Int) : tw k a / 2 ^ j = tw (k - j) a := by
  unfold tw
  have e : (2 : Int) ^ k = 2 ^ j * 2 ^ (k - j) := by rw [← Int.pow_add]; congr 1; omega
  rw [e, Int.mul_assoc]
  exact Int.mul_ediv_cancel_left _ (Int.ne_of_gt (Int.pow_pos (by decide)))
theorem tw_zero (a : Int) : tw 0 a = 2 * a + 1 := by unfold tw; omega
theorem tw_split {j k : Nat} (h : j ≤ k) (a : Int) : tw k a = 2 ^ j * tw (k - j) a := by
  unfold tw
  rw [← Int.mul_assoc, ← Int.pow_add]; congr 2; omega
theorem gcd_odd {n : Int} (k : Nat) (b : Int) (h : n % 2 = 1 ∨ k = 0) : Nat.gcd n.natAbs (tw k b).natAbs = Nat.gcd n.natAbs (tw 0 b).natAbs := by
  rcases h with h | rfl
  · have e : (tw k b).natAbs = 2 ^ k * (tw 0 b).natAbs := by
      unfold tw; rw [Int.natAbs_mul, Int.natAbs_pow, Int.pow_zero, Int.one_mul]; rfl
    rw [e]
    have c : Nat.Coprime n.natAbs (2 ^ k) := by
      refine Nat.Coprime.pow_right _ ?_
      rw [Nat.coprime_comm]
      have : n.natAbs % 2 = 1 := by omega
      rw [Nat.Coprime, Nat.gcd_rec, this]; decide
    exact Nat.Coprime.gcd_mul_left_cancel_right _ c.symm
  · rfl
theorem tw_odd (a : Int) : tw 0 a % 2 = 1 := by rw [tw_zero]; omega
theorem bd_tw {m j k : Nat} {a : Int} (h : Bd m (tw k a)) (hj : j ≤ k) : Bd m (tw j a) := by
  unfold Bd tw at *
  rw [Int.natAbs_mul, Int.natAbs_pow] at *
  refine Nat.lt_of_le_of_lt (Nat.mul_le_mul_right _ ?_) h
  exact Nat.pow_le_pow_right (by decide) hj
theorem divInt_tw {i j t : Nat} (hi : t ≤ i) (hj : t ≤ j) (a b : Int) : tw i a /. tw j b = tw (i - t) a /. tw (j - t) b := by
  rw [tw_split hi, tw_split hj, Rat.divInt_mul_left (Int.ne_of_gt (Int.pow_pos (by decide)))]
end Fr
namespace Gd
open PySem PySem.Spec PyProof.Rows L2
section
variable {X : Cx} {Γ : List VD} {B B1 B2 B3 B' : Bag} {e a b c : Expr} {es : List Expr} {d da db dc : VD} {pos p pos' apos : Pos} {rest ss s1 s2 : List Stmt} {E : En}
theorem ej_band {i j : Int} (ha : EJ X Γ B a (.da (.int i)) B1) (hb : EJ X Γ B1 b (.da (.int j)) B2) : EJ X Γ B (.BinOp a .BitAnd b pos) (.da (.int (Builtin.bitAnd i j))) B2 :=
  ej_ii ha hb op_and fun _ => .int _
theorem ej_shr {i : Int} {k : Nat} (ha : EJ X Γ B a (.da (.int i)) B1) (hb : EJ X Γ B1 b (.da (.int (k : Int))) B2) : EJ X Γ B (.BinOp a .RShift b pos) (.da (.int (i / 2 ^ k))) B2 :=
  ej_iic ha hb op_shr (Int.natCast_nonneg k) fun _ => .int _
theorem ej_bits {i : Int} (ha : EJ X Γ B a (.da (.int i)) B1) (hbase : attributeBase a "bit_length" X.env (eval a X.env) = eval a X.env := by rfl) (hline : (apos.endLine == pos.line) = true := by rfl) :
    EJ X Γ B (.Call (.Attribute a "bit_length" apos) [] [] pos) (.da (.int (Builtin.Int.intBits i : Nat))) B1 := fun g σ H0 H E O Q q =>
  ⟨_, pe_bits (we a) hbase hline, ha g σ H0 H E O _ fun v H1 H' t o r => ⟨i, rvI r, q _ H1 H' t o (Rp.int _)⟩⟩
end
end Gd
namespace Lw
open PySem PySem.Spec PyProof.Rows L2 Gd Fr
open scoped Rat
inductive R_twos : Rel
  | mk (k : Nat) (a : Int) (B : Bag) : R_twos [.da (.int (tw k a))] B (.int (k : Int)) B
theorem fq_cop {n : Int} {d : Nat} (hd : d ≠ 0) (h : Nat.Coprime n.natAbs d) : fq (n /. (d : Int)) = .tuple [.int n, .int (d : Int)] := by
  have hd' : (d : Int) ≠ 0 := by omega
  have c1 : com n (d : Int) = 1 := by
    unfold com
    rw [if_neg (by omega), Int.natAbs_natCast, h.gcd_eq_one]; rfl
  have e1 := red_num (n := n) hd'
  have e2 := red_den (n := n) hd'
  rw [c1, Int.fdiv_one] at e1 e2
  unfold fq
  rw [← e1, ← e2]
theorem div_eq {n d n' d' : Int} (h : d ≠ 0) (h' : d' ≠ 0) (e : n * d' = n' * d) : n /. d = n' /. d' := (Rat.divInt_eq_divInt_iff h h').mpr e
theorem div_cross {n d : Int} (h : d ≠ 0) : n * ((n /. d).den : Int) = (n /. d).num * d := by
  have := (Rat.divInt_eq_divInt_iff h (den_ne (n /. d))).mp (self_div (n /. d)).symm
  exact this
theorem num_dvd {n d : Int} (h : d ≠ 0) : (n /. d).num.natAbs ∣ n.natAbs := by
  have e := congrArg Int.natAbs (div_cross (n := n) h)
  rw [Int.natAbs_mul, Int.natAbs_mul, Int.natAbs_natCast] at e
  have : (n /. d).num.natAbs ∣ n.natAbs * (n /. d).den := ⟨_, e⟩
  exact Nat.Coprime.dvd_of_dvd_mul_right (n /. d).reduced this
theorem den_dvd {n d : Int} (h : d ≠ 0) : (n /. d).den ∣ d.natAbs := by
  have e := congrArg Int.natAbs (div_cross (n := n) h)
  rw [Int.natAbs_mul, Int.natAbs_mul, Int.natAbs_natCast] at e
  have : (n /. d).den ∣ (n /. d).num.natAbs * d.natAbs := ⟨n.natAbs, by rw [← e, Nat.mul_comm]⟩
  exact Nat.Coprime.dvd_of_dvd_mul_left (n /. d).reduced.symm this
theorem mul_by (x y : Rat) : (.tuple [.int ((x.num /. (y.den : Int)).num * (y.num /. (x.den : Int)).num), .int (((y.num /. (x.den : Int)).den : Int) * ((x.num /. (y.den : Int)).den : Int))] : PyData) = fq (x * y) := by
  have c1 := div_cross (n := x.num) (den_ne y)
  have c2 := div_cross (n := y.num) (den_ne x)
  have d1 := num_dvd (n := x.num) (den_ne y)
  have d2 := den_dvd (n := x.num) (den_ne y)
  have d3 := num_dvd (n := y.num) (den_ne x)
  have d4 := den_dvd (n := y.num) (den_ne x)
  have r1 := (x.num /. (y.den : Int)).reduced
  have r2 := (y.num /. (x.den : Int)).reduced
  have p1 := (x.num /. (y.den : Int)).den_pos
  have p2 := (y.num /. (x.den : Int)).den_pos
  generalize x.num /. (y.den : Int) = u at *
  generalize y.num /. (x.den : Int) = v at *
  rw [Int.natAbs_natCast] at d2 d4
  have k1 : Nat.Coprime u.num.natAbs v.den := (x.reduced.coprime_dvd_left d1).coprime_dvd_right d4
  have k2 : Nat.Coprime v.num.natAbs u.den := (y.reduced.coprime_dvd_left d3).coprime_dvd_right d2
  have k : Nat.Coprime (u.num * v.num).natAbs (v.den * u.den) := by
    rw [Int.natAbs_mul]
    exact Nat.Coprime.mul_left (Nat.Coprime.mul_right k1 r1) (Nat.Coprime.mul_right r2 k2)
  have hne : v.den * u.den ≠ 0 := Nat.ne_of_gt (Nat.mul_pos p2 p1)
  have e := fq_cop hne k
  rw [← Int.natCast_mul, ← e, ← mul_div x y]
  congr 1
  refine div_eq (by omega) (Int.mul_ne_zero (den_ne x) (den_ne y)) ?_
  rw [Int.natCast_mul]
  have : u.num * (y.den : Int) * (v.num * (x.den : Int)) = x.num * (u.den : Int) * (y.num * (v.den : Int)) := by rw [c1, c2]
  grind
end Lw
namespace Gd
open PySem PySem.Spec PyProof.Rows L2
section
variable {X : Cx}
end
section
variable {X : Cx} {Γ : List VD} {B B1 B2 B3 B' : Bag} {e a b c : Expr} {es : List Expr} {d da db dc : VD} {pos p pos' apos : Pos} {kp : Pos} {rest ss s1 s2 : List Stmt} {E : En}
end
end Gd
namespace Gd
open PySem PySem.Spec PyProof.Rows L2
section
variable {X : Cx} {Γ : List VD} {B B1 B2 : Bag} {e c elt : Expr} {scope : Scope} {acc : List PyData} {pos pos' : Pos} {rest : List Stmt} {E : En} {d : VD}
end
end Gd
set_option exponentiation.threshold 20000
namespace Lw
open PySem PySem.Spec PyProof.Rows L2 Gd Fr
open scoped Rat
end Lw
namespace Gd
open PySem PySem.Spec PyProof.Rows L2
section
variable {P : Program} {w : World} {A : Around} {s : Shared} {E : Value → Shared → Prop}
end
section
variable {X : Cx} {Γ : List VD} {B B1 B2 B' : Bag} {e a b c : Expr} {es : List Expr} {d da db dc : VD} {pos p p' pos' : Pos} {rest ss s1 s2 : List Stmt} {E : En}
end
end Gd
namespace Gd
open PySem PySem.Spec PyProof.Rows L2
section
variable {K : PySem.W.Frag} {H : Hp} {a : Addr} {zs : List V}
end
section
variable {X : Cx} {i : Nat} {Γ : List VD} {B B1 B2 B' : Bag} {acc ds : List PyData} {e e2 a b c : Expr} {es : List Expr} {d da db : VD} {y y2 : PyData} {pos p p1 p2 p3 pos' : Pos} {rest ss s1 s2 : List Stmt} {E : EnO}
end
end Gd
namespace Gd
open PySem PySem.Spec PyProof.Rows L2
abbrev Post := PyData → Bag → Prop
def EX (X : Cx) (Γ : List VD) (B : Bag) (e : Expr) (Φ : Post) : Prop :=
  ∀ g σ H0 H, EnvD X.K g H0 σ Γ → On X.K g B H0 H → ∀ Q : VK,
    (∀ v H0' H' y B', Φ y B' → To g H0 H H0' H' → On X.K g B' H0' H' → Rp X.K H0' v y → Q v H') → WE X e σ H Q
def AX (X : Cx) (Γ : List VD) (B : Bag) (es : List Expr) (Φ : List VD → Bag → Prop) : Prop :=
  ∀ g σ H0 H, EnvD X.K g H0 σ Γ → On X.K g B H0 H → ∀ Q : List V → Hp → Prop,
    (∀ vs H0' H' ds B', Φ ds B' → To g H0 H H0' H' → On X.K g B' H0' H' → RvAll X.K g H0' vs ds → Q vs H') → WA X es σ H Q
def TX (X : Cx) (Γ : List VD) (B : Bag) (e : Expr) (Φ : Bool → Bag → Prop) : Prop :=
  ∀ g σ H0 H, EnvD X.K g H0 σ Γ → On X.K g B H0 H → ∀ Q : Bool → Hp → Prop,
    (∀ b H0' H' B', Φ b B' → To g H0 H H0' H' → On X.K g B' H0' H' → Q b H') → WT X e σ H Q
def DefSpX (K : PySem.W.Frag) (Pre : List VD → Bag → Prop) (Po : List VD → Bag → Post) : Sp := fun vs H Q _ =>
  ∃ g Γ B H0, RvAll K g H0 vs Γ ∧ On K g B H0 H ∧ Pre Γ B ∧
    ∀ v H0' H' r B', Po Γ B r B' → To g H0 H H0' H' → On K g B' H0' H' → Rp K H0' v r → Q v H'
def CalX (P : Program) (w : World) (K : PySem.W.Frag) (mg : Str → Option Value) (base : Heap) (x : Str) (k : Nat) (Pre : List VD → Bag → Prop) (Po : List VD → Bag → Post) : Prop :=
  ∃ f fd ps, FnG P w K mg base k f fd ps (DefSpX K Pre Po) ∧ mg x = some (.ref f) ∧ PySem.W.keepIn K (.ref f) = true ∧ Binds K fd ps []
theorem calx_at {P : Program} {w : World} {K : PySem.W.Frag} {mg : Str → Option Value} {base : Heap} {x : Str} {st : Stmt} {N ps : List Str} {k : Nat} {Pre : List VD → Bag → Prop} {Po : List VD → Bag → Post}
    (T : At K mg x st ps) (S : FnScope N ps (defScope st)) (len : ∀ Γ B, Pre Γ B → Γ.length = ps.length)
    (body : ∀ (f : Addr) (cdv : Value) (A : Around) (out : List Env) (s : Shared) (H : Hp) (E : XK),
      Gx k (cxOf CX0 P w K mg base N x (defScope st) f cdv A out s H E).nox → ∀ Γ B, Pre Γ B →
      SJ (cxOf CX0 P w K mg base N x (defScope st) f cdv A out s H E).nox (Γ ++ List.replicate (N.length - ps.length) .no) B (defBody st)
        { nx := fun _ B2 => Po Γ B .none B2, rt := fun d B2 => Po Γ B d B2 }) : CalX P w K mg base x (k + 1) Pre Po := by
  obtain ⟨f, fd, F, hm, hb⟩ := T
  have hpl : ps.length ≤ N.length := by
    have := congrArg List.length S.pre
    rw [List.length_take] at this; omega
  refine ⟨f, fd, ps, fnG_of F S ?_ ?_, hm, F.kp, hb⟩
  · rintro vs H Q E ⟨g, Γ, B, H0, a, b, c, d⟩
    rw [a.length]; exact len _ _ c
  · intro cdv A out s H vs Q E G ⟨g, Γ, B, H0, a, b, c, d⟩
    have hl := len _ _ c
    have E0' := start_env (N := N) a (by rw [hl]; exact hpl)
    rw [hl] at E0'
    refine body f cdv A out s H E G Γ B c g _ H0 H E0' b _ ⟨?_, ?_, ?_, ?_⟩
    · intro Γ2 B2 σ H1 H' z t _ o
      exact d _ _ _ _ _ z t o .non
    · intro r2 B2 v H1 H' z t o rv
      exact d _ _ _ _ _ z t o rv
    · intro _ _ _ _ _ z; exact z.elim
    · intro _ _ _ _ _ z; exact z.elim
theorem Cal.x {P : Program} {w : World} {K : PySem.W.Frag} {mg : Str → Option Value} {base : Heap} {x : Str} {k : Nat} {R : Rel} {Pre : List VD → Bag → Prop} {Po : List VD → Bag → Post}
    (c : Cal P w K mg base x k R) (h : ∀ Γ B, Pre Γ B → ∃ r B', R Γ B r B' ∧ Po Γ B r B') : CalX P w K mg base x k Pre Po := by
  obtain ⟨f, fd, ps, F, h1, h2, h3⟩ := c
  have im : ∀ vs H Q E, DefSpX K Pre Po vs H Q E → DefSp K R vs H Q E := by
    rintro vs H Q E ⟨g, Γ, B, H0, a, b, c, d⟩
    obtain ⟨r, B', hR, hP⟩ := h Γ B c
    exact ⟨g, Γ, B, H0, r, B', a, b, hR, fun v H0' H' t o rv => d v H0' H' r B' hP t o rv⟩
  exact ⟨f, fd, ps, ⟨fun vs H Q E q => F.len vs H Q E (im _ _ _ _ q), fun A o s H ar us vs Q E q1 q2 q3 q4 q5 q => F.run A o s H ar us vs Q E q1 q2 q3 q4 q5 (im _ _ _ _ q)⟩, h1, h2, h3⟩
section
variable {X : Cx} {Γ : List VD} {B B1 B2 B' : Bag} {e a b c : Expr} {es : List Expr} {d da db : VD} {y : PyData} {pos p pos' : Pos} {rest ss s1 s2 : List Stmt} {E : En} {Φ : Post} {Ω : List VD → Bag → Prop} {Ψ : Bool → Bag → Prop}
theorem ex_ej (h : EJ X Γ B e (.da y) B1) (hΦ : Φ y B1) : EX X Γ B e Φ := fun g σ H0 H Ev O Q q => h g σ H0 H Ev O Q fun v H1 H' t o r => q v H1 H' y B1 hΦ t o r
theorem ex_mono {Φ' : Post} (h : EX X Γ B e Φ) (m : ∀ y B', Φ y B' → Φ' y B') : EX X Γ B e Φ' := fun g σ H0 H Ev O Q q => h g σ H0 H Ev O Q fun v H1 H' y B' hy t o r => q v H1 H' y B' (m _ _ hy) t o r
theorem ax_aj {ds : List VD} (h : AJ X Γ B es ds B1) (hΩ : Ω ds B1) : AX X Γ B es Ω := fun g σ H0 H Ev O Q q => h g σ H0 H Ev O Q fun v H1 H' t o r => q v H1 H' ds B1 hΩ t o r
theorem ax_bag (i : Nat) {x : Str} (r : AX X Γ B es fun ds B2 => Ω (.bag :: ds) B2) (h : Γ[i]? = some .bag := by rfl) (hN : X.N[i]? = some x := by rfl)
    (hv : Vis X.env.scope x := by first | exact Or.inl rfl | exact Or.inr (Or.inl rfl) | exact Or.inr (Or.inr rfl))
    (h1 : (x == ("__debug__" : Str)) = false := by decide) (h2 : (x == ("__classdict__" : Str)) = false := by decide)
    (hs : starEach (.Name x pos :: es) X.env = (false, eval (.Name x pos) X.env) :: starEach es X.env := by rfl) : AX X Γ B (.Name x pos :: es) Ω := fun g σ H0 H E O Q q =>
  ⟨_, pa_cons (we (.Name x pos)) (wa es) hs, (ej_bag (B := B) i h hN hv h1 h2) g σ H0 H E O _ fun v H1 H' t o rv => r g σ H1 H' (E.mono t.ex) o _ fun vs H2 H'' ds B2 hd t2 o2 rs => q (v :: vs) H2 H'' _ _ hd (t.trans t2) o2 ⟨rv.mono t2.ex, rs⟩⟩
theorem ex_call {x : Str} {k : Nat} {Pre : List VD → Bag → Prop} {Po : List VD → Bag → Post} (c : CalX X.prog X.w X.K X.mg X.base x k Pre Po) (g : Gx k X) (ha : AX X Γ B (e :: es) fun ds B1 => Pre ds B1 ∧ ∀ r B', Po ds B1 r B' → Φ r B')
    (hg : Gl X x := by rfl) (hdb : (x == ("__debug__" : Str)) = false := by decide) (he : starEach (e :: es) X.env = (false, eval e X.env) :: starEach es X.env := by rfl)
    (hpl : (backTo pos (starEach es X.env)).any (·.1) = false := by rfl) : EX X Γ B (.Call (.Name x p) (e :: es) [] pos) Φ := by
  obtain ⟨f, fd, ps, F, hm, hk, hb⟩ := c
  intro gh σ H0 H E O Q q
  refine ⟨fun σ H Q => WA X (e :: es) σ H fun vs H1 => DefSpX X.K Pre Po vs H1 Q E0, ⟨fun pins s σ H Q I h => ?_⟩, ?_⟩
  · refine wpAny_Call_Name_kw (ld_glob I hg hm ?_ hdb)
    refine PySem.W.callWith_K (h₀ := X.base) I.ok.mod.kin hk (thn ((wa (e :: es)).run pos pins s σ H _ I h) ?_) he hpl
    rintro us s1 ⟨vs, H1, I1, r1, q1⟩
    exact ⟨I1.kIn, runG F g hb I1 r1 q1⟩
  · refine ha gh σ H0 H E O _ fun vs H1 H' ds B1 hd t o rs => ?_
    exact ⟨gh, ds, B1, H1, rs, o, hd.1, fun v H2 H'' r B2 hr t2 o2 rv => q v H2 H'' _ _ (hd.2 _ _ hr) (t.trans t2) o2 rv⟩
theorem tx_tj {x : Bool} (h : TJ X Γ B e x B1) (hΨ : Ψ x B1) : TX X Γ B e Ψ := fun g σ H0 H Ev O Q q => h g σ H0 H Ev O Q fun H1 H' t o => q x H1 H' B1 hΨ t o
theorem ex_if (h : TX X Γ B c fun x B1 => (x = true → EX X Γ B1 a Φ) ∧ (x = false → EX X Γ B1 b Φ)) : EX X Γ B (.IfExp c a b pos) Φ := fun g σ H0 H Ev O Q q =>
  ⟨_, pe_ifExp (wt c) (we a) (we b), h g σ H0 H Ev O _ fun x H1 H' B1 hx t o => by
    cases x with
    | true => exact iteT (hx.1 rfl g σ H1 H' (Ev.mono t.ex) o Q fun z H2 H'' y B2 hy t2 o2 r2 => q z H2 H'' y B2 hy (t.trans t2) o2 r2)
    | false => exact iteF (hx.2 rfl g σ H1 H' (Ev.mono t.ex) o Q fun z H2 H'' y B2 hy t2 o2 r2 => q z H2 H'' y B2 hy (t.trans t2) o2 r2)⟩
theorem sj_setX (i : Nat) {x : Str} (nd : X.N.Nodup) (h : EX X Γ B e fun y B1 => SJ X (Γ.set i (.da y)) B1 rest E) (hi : X.N[i]? = some x := by rfl)
    (hx : Loc X.env.scope x := by first | exact Or.inl rfl | exact Or.inr rfl) (hs : swapsWith e (some (.Name x pos')) pos.line X.env = pure false := by rfl)
    (hf : X.fn x = true ∨ X.env.scope.names.lookup x = some .local := by first | exact Or.inl rfl | exact Or.inr rfl) : SJ X Γ B (.Assign [.Name x pos'] e pos :: rest) E := fun g σ H0 H Ev O D G =>
  ⟨_, pss_cons (ps_set nd hi hx (we e) hs hf) (ws rest), h g σ H0 H Ev O _ fun v H1 H' y B1 k t o r => k g _ H1 H' ((Ev.mono t.ex).set i r) o D (G.on t)⟩
end
section
variable {X : Cx} {i : Nat} {Γ : List VD} {B B1 B2 B' : Bag} {acc ds : List PyData} {e e2 a b c : Expr} {es : List Expr} {d da db : VD} {y y2 : PyData} {pos p p1 p2 p3 pos' : Pos} {rest ss s1 s2 : List Stmt} {E : EnO} {Φ : Post}
end
section
variable {X : Cx} {Γ : List VD} {B B1 B2 B' : Bag} {e a : Expr} {elt : Expr} {scope : Scope} {j : Nat} {x : Str} {px : Pos} {ds ys : List PyData} {pos pos' : Pos} {rest : List Stmt} {E : En} {Φ : Post}
end
end Gd
namespace Gd
open PySem PySem.Spec PyProof.Rows L2
section
variable {X : Cx} {Γ : List VD} {B B1 B2 B' : Bag} {e a b c : Expr} {es : List Expr} {d da db : VD} {y : PyData} {pos p pos' : Pos} {rest ss s1 s2 : List Stmt} {E : En} {Φ : Post} {Ω : List VD → Bag → Prop} {Ψ : Bool → Bag → Prop}
end
end Gd
set_option exponentiation.threshold 20000
namespace Lw
open PySem PySem.Spec PyProof.Rows L2 Gd Fr
open scoped Rat
theorem lay_all {ds : List PyData} (h : ∀ d ∈ ds, d.canLay0 = true) : PyData.canLayAll0 ds = true := by
  induction ds with
  | nil => simp only [PyData.canLayAll0]
  | cons d ds ih => simp only [PyData.canLayAll0, h d List.mem_cons_self, ih fun x hx => h x (List.mem_cons_of_mem _ hx), Bool.and_self]
theorem depth_all {n : Nat} {ds : List PyData} (h : ∀ d ∈ ds, d.depth ≤ n) : PyData.depthAll ds ≤ n := by
  induction ds with
  | nil => exact Nat.zero_le _
  | cons d ds ih =>
    show max d.depth (PyData.depthAll ds) ≤ n
    exact Nat.max_le.mpr ⟨h d List.mem_cons_self, ih fun x hx => h x (List.mem_cons_of_mem _ hx)⟩
def Sh (n : Nat) (d : PyData) : Prop := d.canLay0 = true ∧ d.depth ≤ n
theorem Sh.shaped {n : Nat} {d : PyData} (h : Sh n d) (hn : n ≤ 64 := by decide) : SeqAt.shaped d = true := by
  unfold SeqAt.shaped
  rw [h.1, Bool.true_and, decide_eq_true_eq]
  exact Nat.le_trans h.2 hn
theorem Sh.lst {n : Nat} {ds : List PyData} (h : ∀ d ∈ ds, Sh n d) : Sh (n + 1) (.list ds) :=
  ⟨by simp only [PyData.canLay0]; exact lay_all fun d hd => (h d hd).1, by show PyData.depthAll ds + 1 ≤ n + 1; have := depth_all fun d hd => (h d hd).2; omega⟩
theorem Sh.tup {n : Nat} {ds : List PyData} (h : ∀ d ∈ ds, Sh n d) : Sh (n + 1) (.tuple ds) :=
  ⟨by simp only [PyData.canLay0]; exact lay_all fun d hd => (h d hd).1, by show PyData.depthAll ds + 1 ≤ n + 1; have := depth_all fun d hd => (h d hd).2; omega⟩
theorem Sh.int (i : Int) : Sh 0 (.int i) := ⟨by simp only [PyData.canLay0], Nat.le_refl _⟩
theorem Sh.str {x : Str} (h : PyData.strOk x = true) : Sh 0 (.str x) := ⟨by simp only [PyData.canLay0]; exact h, Nat.le_refl _⟩
theorem Sh.mono {n m : Nat} {d : PyData} (h : Sh n d) (e : n ≤ m) : Sh m d := ⟨h.1, Nat.le_trans h.2 e⟩
inductive Te where
  | nan
  | inf (s : Int)
  | x (q : Rat) (s : Int)
def Te.d : Te → PyData
  | .nan => .tuple [.str "nan"]
  | .inf s => .tuple [.str "inf", .int s]
  | .x q s => .tuple [.str "x", fq q, .int s]
def Te.isNan : Te → Bool
  | .nan => true
  | _ => false
def Te.isInf : Te → Bool
  | .inf _ => true
  | _ => false
def Te.sg : Te → Int
  | .nan => 0
  | .inf s => s
  | .x _ s => s
def Te.q : Te → Rat
  | .x q _ => q
  | _ => 0
end Lw
namespace Lw
open PySem PySem.Spec PyProof.Rows L2 Gd Fr
end Lw
set_option exponentiation.threshold 20000
namespace Lw
open PySem PySem.Spec PyProof.Rows L2 Gd Fr
open scoped Rat
theorem F4.inj {t u : F4} (h : t.d = u.d) : t = u := by
  obtain ⟨a, b, c, d⟩ := t
  obtain ⟨a', b', c', d'⟩ := u
  have h : fmP a b c d = fmP a' b' c' d' := h
  unfold fmP at h
  injection h with h
  injection h with h1 h
  injection h with h2 h
  injection h with h3 h
  injection h with h4 h
  injection h1 with h1
  injection h2 with h2
  injection h3 with h3
  injection h4 with h4
  have h1 : a = a' := by omega
  have h2 : b = b' := by omega
  subst h1; subst h2; subst h3; subst h4; rfl
section
variable {b p : Nat} {low high : Int} (F : Fm b p low high)
include F
end
end Lw
namespace Lw
open Gd
end Lw
set_option exponentiation.threshold 20000
namespace Lw
open PySem PySem.Spec PyProof.Rows L2 Gd Fr
open scoped Rat
end Lw
namespace Gd
open PySem PySem.Spec PyProof.Rows L2
section
variable {X : Cx} {Γ : List VD} {B B1 B2 : Bag} {e c elt : Expr} {scope : Scope} {acc : List PyData} {pos pos' : Pos} {rest : List Stmt} {E : En} {d : VD}
end
end Gd
set_option exponentiation.threshold 20000
namespace Lw
open PySem PySem.Spec PyProof.Rows L2 Gd Fr
open scoped Rat
end Lw
namespace Lw
open PySem PySem.Spec PyProof.Rows L2 Gd Fr
open scoped Rat
end Lw
namespace Gd
open PySem PySem.Spec PyProof.Rows L2
section
variable {X : Cx} {Γ : List VD} {B B1 B2 : Bag} {e c elt : Expr} {scope : Scope} {acc : List PyData} {pos pos' : Pos} {rest : List Stmt} {E : En} {d : VD} {Φ : Post}
end
end Gd
set_option exponentiation.threshold 20000
namespace Lw
open PySem PySem.Spec PyProof.Rows L2 Gd Fr
open scoped Rat
end Lw
set_option exponentiation.threshold 20000
namespace Lw
open PySem PySem.Spec PyProof.Rows L2 Gd Fr
open scoped Rat
def Fl (fl : List Str) : Prop := fl = [] ∨ fl = (["invalid"] : List Str) ∨ fl = (["inexact", "over"] : List Str) ∨ fl = (["inexact", "tiny"] : List Str) ∨ fl = (["inexact"] : List Str)
theorem Fl.sh {fl : List Str} (h : Fl fl) : SeqAt.shaped (words fl) = true := by
  rcases h with rfl | rfl | rfl | rfl | rfl <;> decide +kernel
theorem Fl.eqv {fl : List Str} (h : Fl fl) : PyData.eqv (words fl) (.tuple []) = decide (fl = []) := by
  rcases h with rfl | rfl | rfl | rfl | rfl <;> rfl
end Lw
namespace Gd
open PySem PySem.Spec PyProof.Rows L2
section
variable {prog : Program} {w : World} {A : Around} {E : Value → Shared → Prop} {s : Shared}
end
section
variable {X : Cx} {Γ : List VD} {B B1 B2 : Bag} {a b c e : Expr} {pos p pos' : Pos} {rest s1 : List Stmt} {E : En}
end
end Gd
namespace Gd
open PySem PySem.Spec PyProof.Rows L2
section
variable {X : Cx} {Γ : List VD} {B B1 B2 B3 B' : Bag} {e a b c : Expr} {es : List Expr} {d da db dc : VD} {pos p pos' apos p1 p2 p3 : Pos} {rest ss s1 s2 : List Stmt} {E : En}
end
end Gd
set_option exponentiation.threshold 20000
namespace Lw
open PySem PySem.Spec PyProof.Rows L2 Gd Fr
open scoped Rat
inductive Sp where
  | none
  | span (u v : Va)
def Sp.d : Sp → PyData
  | .none => .tuple [.str "none"]
  | .span u v => .tuple [.str "span", u.d, v.d]
def Sp.ok (b p : Nat) (low high : Int) : Sp → Prop
  | .none => True
  | .span u v => (Vcan b p low high u ∧ u.isNan = false) ∧ Vcan b p low high v ∧ v.isNan = false
def apI (b p : Nat) (low high : Int) : Sp → Int
  | .none => 0
  | .span u v => rkI b p low high v - rkI b p low high u
inductive Wd (b p : Nat) (low high : Int) (L : List Sp) : PyData → Prop
  | none (h : ∀ s ∈ L, apI b p low high s < 2) : Wd b p low high L .none
  | some (i : Nat) (x : Sp) (hi : L[i]? = .some x) (h2 : 2 ≤ apI b p low high x) (h3 : ∀ s ∈ L, apI b p low high s ≤ apI b p low high x) (h4 : ∀ j y, j < i → L[j]? = .some y → apI b p low high y < apI b p low high x) : Wd b p low high L (.int (i : Nat))
theorem Wd.one {b p : Nat} {low high : Int} {L : List Sp} {d e : PyData} (h : Wd b p low high L d) (h' : Wd b p low high L e) : d = e := by
  cases h with
  | none h =>
    cases h' with
    | none _ => rfl
    | some i x hi h2 _ _ => have := h x (List.mem_of_getElem? hi); omega
  | some i x hi h2 h3 h4 =>
    cases h' with
    | none h => have := h x (List.mem_of_getElem? hi); omega
    | some j y hj g2 g3 g4 =>
      have a1 := h3 y (List.mem_of_getElem? hj)
      have a2 := g3 x (List.mem_of_getElem? hi)
      rcases Nat.lt_trichotomy i j with z | z | z
      · have := g4 i x z hi; omega
      · rw [z]
      · have := h4 j y z hj; omega
noncomputable def wdP (b p : Nat) (low high : Int) (L : List Sp) : PyData := by
  classical exact if h : ∃ d, Wd b p low high L d then h.choose else .none
theorem Wd.is {b p : Nat} {low high : Int} {L : List Sp} {d : PyData} (h : Wd b p low high L d) : wdP b p low high L = d := by
  have hx : ∃ d, Wd b p low high L d := ⟨d, h⟩
  unfold wdP
  rw [dif_pos hx]
  exact hx.choose_spec.one h
end Lw
namespace PySem
end PySem
namespace Gd
open PySem PySem.Spec PyProof.Rows L2
end Gd
namespace Gd
open PySem PySem.Spec PyProof.Rows L2
end Gd
namespace Gd
open PySem PySem.Spec PyProof.Rows L2
section
variable {X : Cx} {Γ : List VD} {B B1 : Bag} {a : Expr} {p p' kp pos : Pos}
end
end Gd
set_option exponentiation.threshold 20000
namespace Lw
open PySem PySem.Spec PyProof.Rows L2 Gd Fr
open scoped Rat
def t3 (x : Int × Int × Int) : PyData := .tuple [.int x.1, .int x.2.1, .int x.2.2]
end Lw
set_option exponentiation.threshold 20000
namespace Lw
open PySem PySem.Spec PyProof.Rows L2 Gd Fr
open scoped Rat
section
variable {b p : Nat} {low high : Int} (F : Fm b p low high)
include F
end
section
variable {b p : Nat} {low high : Int} (F : Fm b p low high)
include F
end
end Lw
set_option exponentiation.threshold 20000
namespace Gd
open PySem PySem.Spec PyProof.Rows L2
section
variable {X : Cx} {Γ : List VD} {B B1 B2 B' : Bag} {e a b c : Expr} {pos : Pos}
end
end Gd
set_option exponentiation.threshold 20000
namespace Lw
open PySem PySem.Spec PyProof.Rows L2 Gd Fr
open scoped Rat
def lex3 (x y : Int × Int × Int) : Prop := x.1 < y.1 ∨ (x.1 = y.1 ∧ (x.2.1 < y.2.1 ∨ (x.2.1 = y.2.1 ∧ x.2.2 < y.2.2)))
instance (x y : Int × Int × Int) : Decidable (lex3 x y) := by unfold lex3; infer_instance
section
variable {b p : Nat} {low high : Int} (F : Fm b p low high)
include F
end
section
variable {b p : Nat} {low high : Int} (F : Fm b p low high)
include F
end
end Lw
namespace Lw
open PySem PySem.Spec PyProof.Rows L2 Gd Fr
end Lw
namespace Lw
open PySem PySem.Spec PyProof.Rows L2 Gd Fr
end Lw
namespace Lw
open PySem PySem.Spec PyProof.Rows L2 Gd Fr
end Lw
namespace Lw
open PySem PySem.Spec PyProof.Rows L2 Gd Fr
open scoped Rat
end Lw
namespace Lw
open PySem PySem.Spec PyProof.Rows L2 Gd Fr
open scoped Rat
end Lw
namespace Lw
open PySem PySem.Spec PyProof.Rows L2 Gd Fr
end Lw
set_option exponentiation.threshold 20000
namespace Gd
open PySem PySem.Spec PyProof.Rows L2
section
variable {X : Cx} {Γ : List VD} {B B1 B2 B' : Bag} {e a b c : Expr} {pos p : Pos}
def rIsq : List V → Hp → VK → Prop := fun vs H Q => ∃ a : Int, vs = [.int a] ∧ 0 ≤ a ∧ a.toNat < 2 ^ 9000 ∧ Q (.int ((Float64.isqrt a.toNat : Nat) : Int)) H
theorem cr_isqrt : CallR X (.builtin "math.isqrt") rIsq := by
  intro pins s σ H vs us Q I r h
  obtain ⟨a, rfl, h0, h1, q⟩ := h
  cases r with
  | cons r1 rs =>
    cases rs
    obtain ⟨t, rfl⟩ := r1
    have hl : a.toNat.log2 ≤ 8999 := PySem.W.mg_log (by show a.toNat < 2 ^ 9000; exact h1)
    exact PySem.call_function_meets PySem.W.MGF.kind_isqrt PySem.W.MGF.plain_isqrt PySem.W.MGF.entry_isqrt (PySem.W.MGF.args_isqrt _) (PySem.W.mg_run_isqrt a t (by omega) (by omega) (by omega)).meets ⟨.int _, H, I.tok _, ⟨_, rfl⟩, q⟩
theorem ej_isqrt {i : Int} (hm : X.mg "isqrt" = some (.builtin "math.isqrt")) (ha : EJ X Γ B a (.da (.int i)) B1) (h0 : 0 ≤ i) (hb : i.toNat < 2 ^ 9000) (hg : Gl X "isqrt" := by rfl)
    (h1 : starEach [a] X.env = (false, eval a X.env) :: starEach [] X.env := by rfl)
    (hpl : (backTo pos (starEach [] X.env)).any (·.1) = false := by rfl) :
    EJ X Γ B (.Call (.Name "isqrt" p) [a] [] pos) (.da (.int ((Float64.isqrt i.toNat : Nat) : Int))) B1 := fun g σ H0 H E O Q q =>
  ⟨_, pe_callBfun cr_isqrt hg hm (wa [a]) (by decide) h1 hpl, (aj_cons ha aj_nil h1) g σ H0 H E O _ fun vs H1 H' t o r => by
    obtain ⟨v, rfl, r1⟩ := rv1 r
    exact ⟨i, by rw [rvI r1], h0, hb, q _ _ _ t o (Rp.int _)⟩⟩
end
end Gd
set_option exponentiation.threshold 20000
namespace Lw
open PySem PySem.Spec PyProof.Rows L2 Gd Fr
open scoped Rat
def IsR (b p : Nat) (low : Int) (q : Rat) (e : Int) : Prop := low ≤ e ∧ q < pw b (2 * (p + e)) ∧ (e = low ∨ pw b (2 * (p + e - 1)) ≤ q)
section
variable {b p : Nat} (h2 : 2 ≤ b)
include h2
theorem isR_le {low e e' : Int} {q : Rat} (h : IsR b p low q e) (h' : IsR b p low q e') : e' ≤ e := by
  rcases Int.lt_or_le e e' with hl | hl
  · exfalso
    rcases h'.2.2 with z | z
    · have := h.1; omega
    · have h1 := h.2.1
      have h3 := pw_mono h2 (show 2 * ((p : Int) + e) ≤ 2 * ((p : Int) + e' - 1) by omega)
      grind
  · exact hl
theorem isR_uniq {low e e' : Int} {q : Rat} (h : IsR b p low q e) (h' : IsR b p low q e') : e = e' := by
  have := isR_le h2 h h'; have := isR_le h2 h' h; omega
theorem isR_log {low k : Int} {q : Rat} (h1 : pw b k ≤ q) (h3 : q < pw b (k + 1)) : IsR b p low q (max low (k / 2 - p + 1)) := by
  refine ⟨by omega, ?_, ?_⟩
  · have := pw_mono h2 (show k + 1 ≤ 2 * ((p : Int) + max low (k / 2 - p + 1)) by omega)
    grind
  · by_cases h : max low (k / 2 - p + 1) = low
    · exact .inl h
    · right
      have := pw_mono h2 (show 2 * ((p : Int) + max low (k / 2 - p + 1) - 1) ≤ k by omega)
      grind
theorem isR_ex (low : Int) {q : Rat} (h0 : 0 < q) : ∃ e, IsR b p low q e := by
  obtain ⟨k, k1, k2⟩ := log_ex h2 h0
  exact ⟨_, isR_log h2 k1 k2⟩
end
open Classical in
noncomputable def eR (b p : Nat) (low : Int) (q : Rat) : Int := if h : ∃ e, IsR b p low q e then h.choose else low
theorem eR_is {b p : Nat} (h2 : 2 ≤ b) (low : Int) {q : Rat} (h0 : 0 < q) : IsR b p low q (eR b p low q) := by
  unfold eR
  have h := isR_ex (p := p) h2 low h0
  rw [dif_pos h]
  exact h.choose_spec
theorem eR_of {b p : Nat} (h2 : 2 ≤ b) {low e : Int} {q : Rat} (h : IsR b p low q e) : eR b p low q = e := by
  unfold eR
  rw [dif_pos ⟨e, h⟩]
  exact isR_uniq h2 (Exists.choose_spec (⟨e, h⟩ : ∃ e, IsR b p low q e)) h
def cR (b : Nat) (e : Int) (q : Rat) : Int := ((Float64.isqrt (cQ b (2 * e) q).toNat : Nat) : Int)
theorem sq_nat (c : Nat) : (((c : Nat) : Int) : Rat) * (((c : Nat) : Int) : Rat) = (((c * c : Nat) : Int) : Rat) := by
  rw [Int.natCast_mul, Rat.intCast_mul]
section
variable {b p : Nat} (h2 : 2 ≤ b)
include h2
theorem cR_nn (e : Int) (q : Rat) : 0 ≤ cR b e q := Int.natCast_nonneg _
theorem cR_lo {q : Rat} (h0 : 0 ≤ q) (e : Int) : (cR b e q : Rat) * (cR b e q : Rat) * pw b (2 * e) ≤ q := by
  have hm := c_ge h2 h0 (2 * e)
  have h1 := c_le h2 (2 * e) q
  have s := (Float64.isqrt_spec (cQ b (2 * e) q).toNat).1
  unfold cR
  rw [sq_nat]
  generalize Float64.isqrt (cQ b (2 * e) q).toNat = c at *
  have : ((c * c : Nat) : Int) ≤ cQ b (2 * e) q := by omega
  have h3 := Rat.mul_le_mul_of_nonneg_right (cast_le.mpr this) (Rat.le_of_lt (pw_pos h2 (2 * e)))
  grind
theorem cR_up {q : Rat} (h0 : 0 ≤ q) (e : Int) : q < ((cR b e q : Rat) + 1) * ((cR b e q : Rat) + 1) * pw b (2 * e) := by
  have hm := c_ge h2 h0 (2 * e)
  have h1 := c_up h2 (2 * e) q
  have s := (Float64.isqrt_spec (cQ b (2 * e) q).toNat).2
  unfold cR
  generalize Float64.isqrt (cQ b (2 * e) q).toNat = c at *
  have e1 : (((c : Nat) : Int) : Rat) + 1 = (((c + 1 : Nat) : Int) : Rat) := by rw [Int.natCast_add, Rat.intCast_add]; rfl
  rw [e1, sq_nat]
  have : cQ b (2 * e) q + 1 ≤ (((c + 1) * (c + 1) : Nat) : Int) := by omega
  have h3 := Rat.mul_le_mul_of_nonneg_right (cast_le.mpr this) (Rat.le_of_lt (pw_pos h2 (2 * e)))
  rw [cast_s] at h3
  grind
theorem pw_sq (n : Nat) (e : Int) : pw b (2 * ((n : Int) + e)) = (((b ^ n : Nat) : Int) : Rat) * (((b ^ n : Nat) : Int) : Rat) * pw b (2 * e) := by
  have e1 : 2 * ((n : Int) + e) = (n : Int) + ((n : Int) + 2 * e) := by omega
  rw [e1, pw_p h2, pw_p h2, Rat.mul_assoc]
theorem sq_lt {x y : Int} (hx : 0 ≤ x) (hy : 0 ≤ y) (h : (x : Rat) * (x : Rat) < (y : Rat) * (y : Rat)) : x < y := by
  rw [← Rat.intCast_mul, ← Rat.intCast_mul, cast_lt] at h
  rcases Int.lt_or_le x y with z | z
  · exact z
  · have := Int.mul_le_mul z z hy hx; omega
theorem cR_can {low e : Int} {q : Rat} (hp : 1 ≤ p) (h0 : 0 ≤ q) (h : IsR b p low q e) : Can b p low (cR b e q) e := by
  have lo := cR_lo h2 h0 e
  have up := cR_up h2 h0 e
  have c0 := cR_nn h2 e q
  have pp := pw_pos h2 (2 * e)
  refine ⟨c0, ?_, h.1, ?_⟩
  · refine sq_lt h2 c0 (Int.natCast_nonneg _) ((mul_lt_u h2 (2 * e)).mp ?_)
    have h1 := h.2.1
    rw [pw_sq h2] at h1
    grind
  · rcases h.2.2 with z | z
    · exact .inl z
    · right
      have e1 : 2 * ((p : Int) + e - 1) = 2 * (((p - 1 : Nat) : Int) + e) := by omega
      rw [e1, pw_sq h2] at z
      have := sq_lt h2 (x := ((b ^ (p - 1) : Nat) : Int)) (y := cR b e q + 1) (Int.natCast_nonneg _) (by omega) ((mul_lt_u h2 (2 * e)).mp (by rw [cast_s]; grind))
      omega
end
def rpN (c n d : Int) : Int := if c * c * d = n then 0 else if 4 * n < (2 * c + 1) * (2 * c + 1) * d then 1 else if 4 * n = (2 * c + 1) * (2 * c + 1) * d then 2 else 3
def prR (b : Nat) (e : Int) (q : Rat) : Int := rpN (cR b e q) (q * pw b (-(2 * e))).num ((q * pw b (-(2 * e))).den : Int)
theorem nd_eq (x : Rat) (k : Int) : k * (x.den : Int) = x.num ↔ (k : Rat) = x := by
  have hd : ((x.den : Int) : Rat) ≠ 0 := by rw [Rat.intCast_natCast]; exact fun z => Nat.ne_of_gt x.den_pos (Rat.natCast_eq_zero_iff.mp z)
  have e := num_den x
  constructor
  · intro h
    have : (k : Rat) * ((x.den : Int) : Rat) = x * ((x.den : Int) : Rat) := by rw [e, ← Rat.intCast_mul, h]
    grind
  · intro h
    rw [← Rat.intCast_inj, Rat.intCast_mul, h, e]
theorem nd_lt (x : Rat) (k : Int) : 4 * x.num < k * (x.den : Int) ↔ 4 * x < (k : Rat) := by
  have hd : (0 : Rat) < ((x.den : Int) : Rat) := by rw [Rat.intCast_natCast]; exact Rat.natCast_pos.mpr x.den_pos
  have e := num_den x
  rw [← cast_lt, Rat.intCast_mul, Rat.intCast_mul, ← e]
  have e1 : ((4 : Int) : Rat) * (x * ((x.den : Int) : Rat)) = (4 * x) * ((x.den : Int) : Rat) := by
    have : ((4 : Int) : Rat) = 4 := rfl
    rw [this]; grind
  rw [e1]
  exact Rat.mul_lt_mul_right hd
theorem nd_eq4 (x : Rat) (k : Int) : 4 * x.num = k * (x.den : Int) ↔ 4 * x = (k : Rat) := by
  have hd : ((x.den : Int) : Rat) ≠ 0 := by rw [Rat.intCast_natCast]; exact fun z => Nat.ne_of_gt x.den_pos (Rat.natCast_eq_zero_iff.mp z)
  have e := num_den x
  have e1 : ((4 : Int) : Rat) = 4 := rfl
  rw [← Rat.intCast_inj, Rat.intCast_mul, Rat.intCast_mul, ← e, e1]
  constructor
  · intro h; grind
  · intro h; rw [← h]; grind
theorem prR_cases {b : Nat} (h2 : 2 ≤ b) (e : Int) (q : Rat) :
    ((cR b e q : Rat) * (cR b e q : Rat) * pw b (2 * e) = q ∧ prR b e q = 0) ∨
    ((cR b e q : Rat) * (cR b e q : Rat) * pw b (2 * e) ≠ q ∧ ((4 * q < (((2 * cR b e q + 1) * (2 * cR b e q + 1) : Int) : Rat) * pw b (2 * e) ∧ prR b e q = 1) ∨
      (4 * q = (((2 * cR b e q + 1) * (2 * cR b e q + 1) : Int) : Rat) * pw b (2 * e) ∧ prR b e q = 2) ∨ ((((2 * cR b e q + 1) * (2 * cR b e q + 1) : Int) : Rat) * pw b (2 * e) < 4 * q ∧ prR b e q = 3))) := by
  have pp := pw_pos h2 (2 * e)
  have pm : pw b (-(2 * e)) * pw b (2 * e) = 1 := by rw [← pw_add h2, show -(2 * e) + 2 * e = 0 by omega]; exact pw_zero
  unfold prR rpN
  generalize cR b e q = c at *
  have x1 := nd_eq (q * pw b (-(2 * e))) (c * c)
  have x2 := nd_lt (q * pw b (-(2 * e))) ((2 * c + 1) * (2 * c + 1))
  have x3 := nd_eq4 (q * pw b (-(2 * e))) ((2 * c + 1) * (2 * c + 1))
  have hX : q * pw b (-(2 * e)) * pw b (2 * e) = q := by rw [Rat.mul_assoc, pm, Rat.mul_one]
  generalize q * pw b (-(2 * e)) = X at *
  rw [Rat.intCast_mul] at x1
  generalize hk : (2 * c + 1) * (2 * c + 1) = k at *
  subst hX
  by_cases h1 : c * c * (X.den : Int) = X.num
  · left
    rw [if_pos h1]
    exact ⟨by rw [x1.mp h1], rfl⟩
  · right
    rw [if_neg h1]
    refine ⟨fun z => h1 (x1.mpr (by grind)), ?_⟩
    by_cases h3 : 4 * X.num < k * (X.den : Int)
    · rw [if_pos h3]
      left
      have := x2.mp h3
      refine ⟨?_, rfl⟩
      have := (Rat.mul_lt_mul_right pp).mpr this
      grind
    · rw [if_neg h3]
      right
      have n2 : ¬ 4 * X < (k : Rat) := fun z => h3 (x2.mpr z)
      by_cases h4 : 4 * X.num = k * (X.den : Int)
      · rw [if_pos h4]
        left
        have := x3.mp h4
        exact ⟨by rw [← this]; grind, rfl⟩
      · rw [if_neg h4]
        right
        have n3 : ¬ 4 * X = (k : Rat) := fun z => h4 (x3.mpr z)
        have : (k : Rat) < 4 * X := by grind
        have := (Rat.mul_lt_mul_right pp).mpr this
        exact ⟨by grind, rfl⟩
noncomputable def rtP (b p : Nat) (low high : Int) (way : Str) (q : Rat) : PyData :=
  if q = 0 then .tuple [nm 0 0 low, .tuple []] else outP b p high way 0 (eR b p low q) (cR b (eR b p low q) q) (prR b (eR b p low q) q)
end Lw
set_option exponentiation.threshold 20000
namespace Lw
open PySem PySem.Spec PyProof.Rows L2 Gd Fr
open scoped Rat
structure RtOk (b : Nat) (low : Int) (q : Rat) (n d : Nat) : Prop where
  h0 : 0 < q
  hq : Qz n d q
  hn : n ≤ 8800
  hd : d ≤ 8800
  hL : q.den * b ^ (2 * low).toNat < 2 ^ 8800
theorem two_sizes {A B K : Nat} (hA : 0 < A) (hB : 0 < B) (h : A * B < 2 ^ K) : ∃ d c : Nat, A < 2 ^ d ∧ B < 2 ^ c ∧ d + c ≤ K + 1 ∧ 1 ≤ d ∧ 1 ≤ c := by
  refine ⟨A.log2 + 1, B.log2 + 1, Nat.lt_log2_self, Nat.lt_log2_self, ?_, by omega, by omega⟩
  have h1 := Nat.log2_self_le (n := A) (by omega)
  have h2 := Nat.log2_self_le (n := B) (by omega)
  have h3 := Nat.mul_le_mul h1 h2
  rw [← Nat.pow_add] at h3
  have h4 : 2 ^ (A.log2 + B.log2) < 2 ^ K := Nat.lt_of_le_of_lt h3 h
  have := (Nat.pow_lt_pow_iff_right (by decide : 1 < 2)).mp h4
  omega
section
variable {b p : Nat} {low high : Int} (F : Fm b p low high)
include F
theorem eR_bd {q : Rat} {e : Int} {n d : Nat} (hq : Qz n d q) (hE : IsR b p low q e) : (q.den * b ^ (2 * (p + e - 1)).toNat < 2 ^ n ∧ 0 < e ∧ low < e) ∨ (e ≤ 0 ∨ e = low) := by
  by_cases h : 0 < e ∧ low < e
  · refine .inl ⟨?_, h⟩
    have h5 : pw b (2 * (p + e - 1)) ≤ q := by
      rcases hE.2.2 with z | z
      · omega
      · exact z
    have hd0 : (0 : Rat) ≤ ((q.den : Int) : Rat) := cast_le.mpr (Int.le_of_lt (den_pos q))
    have h6 := Rat.mul_le_mul_of_nonneg_right h5 hd0
    rw [num_den, pw_of (by omega), ← Rat.intCast_natCast, ← Rat.intCast_mul] at h6
    have h7 := cast_le.mp h6
    have h8 := hq.nu
    unfold Bd at h8
    have h9 : (q.den : Int) * ((b ^ (2 * (p + e - 1)).toNat : Nat) : Int) ≤ q.num := by rw [Int.mul_comm]; exact h7
    have h10 : ((q.den * b ^ (2 * (p + e - 1)).toNat : Nat) : Int) ≤ q.num := by rw [Int.natCast_mul]; exact h9
    omega
  · exact .inr (by have := hE.1; omega)
theorem DR_bd {q : Rat} {e : Int} {n d : Nat} (ok : RtOk b low q n d) (hE : IsR b p low q e) : q.den * b ^ (2 * e).toNat < 2 ^ 8800 := by
  have b2 := F.b2
  have p2 := F.p2
  rcases eR_bd F ok.hq hE with ⟨h, _, _⟩ | h | h
  · have h1 : b ^ (2 * e).toNat ≤ b ^ (2 * (p + e - 1)).toNat := Nat.pow_le_pow_right (by omega) (by omega)
    have h3 := Nat.mul_le_mul_left q.den h1
    have h4 : 2 ^ n ≤ 2 ^ 8800 := Nat.pow_le_pow_right (by decide) ok.hn
    omega
  · have : (2 * e).toNat = 0 := by omega
    rw [this, Nat.pow_zero, Nat.mul_one]
    have h8 := ok.hq.de
    unfold Bd at h8
    have h4 : 2 ^ d ≤ 2 ^ 8800 := Nat.pow_le_pow_right (by decide) ok.hd
    omega
  · rw [h]; exact ok.hL
theorem eR_hi {q : Rat} {e : Int} {n d : Nat} (ok : RtOk b low q n d) (hE : IsR b p low q e) : e ≤ 5000 := by
  have b2 := F.b2
  have h1 := DR_bd F ok hE
  by_cases h : e ≤ 0
  · omega
  have h3 : 2 ^ (2 * e).toNat ≤ b ^ (2 * e).toNat := Nat.pow_le_pow_left b2 _
  have h4 : b ^ (2 * e).toNat ≤ q.den * b ^ (2 * e).toNat := Nat.le_mul_of_pos_left _ q.den_pos
  have h5 : 2 ^ (2 * e).toNat < 2 ^ 8800 := by omega
  have := (Nat.pow_lt_pow_iff_right (by decide : 1 < 2)).mp h5
  omega
theorem NR_bd {e : Int} (h : low ≤ e) : b ^ (-(2 * e)).toNat < 2 ^ 4680 := by
  have b2 := F.b2
  have h1 := F.pow_lo h
  have h3 : b ^ (-(2 * e)).toNat ≤ b ^ ((-e).toNat + (-e).toNat) := Nat.pow_le_pow_right (by omega) (by omega)
  rw [Nat.pow_add] at h3
  have h4 : b ^ (-e).toNat * b ^ (-e).toNat < 2 ^ 2340 * 2 ^ 2340 := Nat.mul_lt_mul'' h1 h1
  have h7 : 2 ^ 2340 * 2 ^ 2340 = 2 ^ 4680 := by rw [← Nat.pow_add]
  rw [h7] at h4
  omega
theorem mR_bd {q : Rat} {e : Int} (h0 : 0 ≤ q) (hE : IsR b p low q e) : (cQ b (2 * e) q).toNat < 2 ^ 1400 := by
  have b2 := F.b2
  have h1 := c_le b2 (2 * e) q
  have h3 := hE.2.1
  rw [pw_sq b2] at h3
  have h4 : (cQ b (2 * e) q : Rat) * pw b (2 * e) < (((b ^ p : Nat) : Int) : Rat) * (((b ^ p : Nat) : Int) : Rat) * pw b (2 * e) := by grind
  have h5 := (mul_lt_u b2 (2 * e)).mp h4
  rw [← Rat.intCast_mul, cast_lt, ← Int.natCast_mul] at h5
  have h6 := F.bp
  have h8 : b ^ p * b ^ p < 2 ^ 700 * 2 ^ 700 := Nat.mul_lt_mul'' h6 h6
  have h7 : 2 ^ 700 * 2 ^ 700 = 2 ^ 1400 := by rw [← Nat.pow_add]
  rw [h7] at h8
  omega
end
theorem floor_is {x : Rat} {k : Int} (h1 : (k : Rat) ≤ x) (h3 : x < (k : Rat) + 1) : x.num / (x.den : Int) = k := by
  have hd := den_pos x
  have e := num_den x
  have hd0 : (0 : Rat) < ((x.den : Int) : Rat) := by rw [← Rat.intCast_zero]; exact cast_lt.mpr hd
  have a1 := Rat.mul_le_mul_of_nonneg_right h1 (Rat.le_of_lt hd0)
  have a2 := (Rat.mul_lt_mul_right hd0).mpr h3
  rw [e, ← Rat.intCast_mul, cast_le] at a1
  rw [e, ← cast_s, ← Rat.intCast_mul, cast_lt] at a2
  have b1 := Int.le_ediv_of_mul_le hd a1
  have b3 := Int.ediv_lt_of_lt_mul hd a2
  omega
theorem floor_X {b : Nat} (h2 : 2 ≤ b) (e : Int) (q : Rat) : (q * pw b (-e)).num / ((q * pw b (-e)).den : Int) = cQ b e q := by
  have h := unit_split h2 e q
  have t0 := t_ge h2 e q
  have t1 := t_lt1 h2 e q
  exact floor_is (by rw [h]; grind) (by rw [h]; grind)
theorem sq_nnI (x : Int) : 0 ≤ x * x := by
  rcases Int.le_total 0 x with h | h
  · exact Int.mul_nonneg h h
  · have := Int.mul_nonneg (a := -x) (b := -x) (by omega) (by omega)
    rwa [Int.neg_mul_neg] at this
theorem newton {n f s : Nat} (hf : 0 < f) (hs : s * s ≤ n) : s ≤ (f + n / f) / 2 := by
  rcases Nat.lt_or_ge ((f + n / f) / 2) s with h | h
  · exfalso
    have h1 : f + n / f + 1 ≤ 2 * s := by omega
    have h3 : n < f * (n / f + 1) := by
      have := Nat.div_add_mod n f
      have := Nat.mod_lt n hf
      rw [Nat.mul_add, Nat.mul_one]; omega
    generalize n / f = g at *
    have h4 : (f + g + 1) * (f + g + 1) ≤ (2 * s) * (2 * s) := Nat.mul_le_mul h1 h1
    have h5 : (2 * s) * (2 * s) = 4 * (s * s) := by grind
    have h6 : (f + g + 1) * (f + g + 1) ≥ 4 * (f * (g + 1)) := by
      have h7 : (f : Int) * (g + 1) * 4 ≤ (f + g + 1) * (f + g + 1) := by
        have := sq_nnI ((f : Int) - (g + 1))
        grind
      have h8 : ((4 * (f * (g + 1)) : Nat) : Int) ≤ (((f + g + 1) * (f + g + 1) : Nat) : Int) := by
        rw [Int.natCast_mul, Int.natCast_mul, Int.natCast_mul]
        show (4 : Int) * ((f : Int) * ((g : Int) + 1)) ≤ ((f : Int) + g + 1) * ((f : Int) + g + 1)
        grind
      omega
    omega
  · exact h
theorem newton_end {n f s : Nat} (hf : 0 < f) (hs : s * s ≤ n ∧ n < (s + 1) * (s + 1)) (h1 : s ≤ f) (h : f ≤ (f + n / f) / 2) : f = s := by
  rcases Nat.lt_or_ge s f with z | z
  · exfalso
    have h3 : (s + 1) * (s + 1) ≤ f * f := Nat.mul_le_mul z z
    have h4 : n / f < f := (Nat.div_lt_iff_lt_mul hf).mpr (by omega)
    omega
  · omega
theorem root_uniq {n s t : Nat} (hs : s * s ≤ n ∧ n < (s + 1) * (s + 1)) (ht : t * t ≤ n ∧ n < (t + 1) * (t + 1)) : s = t := by
  rcases Nat.lt_trichotomy s t with z | z | z
  · have : (s + 1) * (s + 1) ≤ t * t := Nat.mul_le_mul z z
    omega
  · exact z
  · have : (t + 1) * (t + 1) ≤ s * s := Nat.mul_le_mul z z
    omega
def isqI (n : Int) : Int := ((Float64.isqrt n.toNat : Nat) : Int)
inductive R_froot : Rel
  | mk (n : Int) (B : Bag) (h0 : 0 ≤ n) (h : n.toNat < 2 ^ 1400) : R_froot [.da (.int n)] B (.int (isqI n)) B
inductive R_rpart : Rel
  | mk (c n d : Int) (B : Bag) (hc : Bd 1400 c) (hn : Bd 90000 n) (hd : Bd 9000 d) : R_rpart [.da (.int c), .da (.int n), .da (.int d)] B (.int (rpN c n d)) B
inductive R_rspot : Rel
  | mk (b p : Nat) (low high : Int) (q : Rat) (n d : Nat) (B : Bag) (F : Fm b p low high) (ok : RtOk b low q n d) :
      R_rspot [.da (fmP b p low high), .da (fq q)] B (.tuple [.int (eR b p low q), .int (cR b (eR b p low q) q), .int (prR b (eR b p low q) q)]) B
inductive R_rgrid : Rel
  | mk (b p : Nat) (low high : Int) (q : Rat) (n d : Nat) (B : Bag) (F : Fm b p low high) (ok : RtOk b low q n d) :
      R_rgrid [.da (fmP b p low high), .da (fq q)] B (.tuple [.int (cR b (eR b p low q) q), .int (eR b p low q)]) B
inductive R_rroot : Rel
  | zero (b p : Nat) (low high : Int) (way : Str) (B : Bag) (F : Fm b p low high) (hw : way ∈ wayList) : R_rroot [.da (fmP b p low high), .da (.str way), .da (fq 0)] B (rtP b p low high way 0) B
  | mk (b p : Nat) (low high : Int) (way : Str) (q : Rat) (n d : Nat) (B : Bag) (F : Fm b p low high) (hw : way ∈ wayList) (ok : RtOk b low q n d) :
      R_rroot [.da (fmP b p low high), .da (.str way), .da (fq q)] B (rtP b p low high way q) B
inductive R_rooted : Rel
  | mk (b p : Nat) (low high : Int) (way : Str) (q : Rat) (n d : Nat) (B : Bag) (F : Fm b p low high) (hw : way ∈ wayList) (ok : RtOk b low q n d) :
      R_rooted [.da (fmP b p low high), .da (.str way), .da (fq q)] B (rtP b p low high way q) B
end Lw
set_option exponentiation.threshold 20000
namespace Lw
open PySem PySem.Spec PyProof.Rows L2 Gd Fr
open scoped Rat
theorem tinyR {b p : Nat} (h2 : 2 ≤ b) (hp : 1 ≤ p) {low e : Int} {q : Rat} (h0 : 0 ≤ q) (hE : IsR b p low q e) : q < pw b (2 * (low + p - 1)) ↔ cR b e q < ((b ^ (p - 1) : Nat) : Int) := by
  have lo := cR_lo h2 h0 e
  have up := cR_up h2 h0 e
  have c0 := cR_nn h2 e q
  have cc := cR_can h2 hp h0 hE
  have e1 : 2 * (low + (p : Int) - 1) = 2 * (((p - 1 : Nat) : Int) + low) := by omega
  constructor
  · intro h
    rcases hE.2.2 with z | z
    · subst z
      rw [e1, pw_sq h2] at h
      exact sq_lt h2 c0 (Int.natCast_nonneg _) ((mul_lt_u h2 (2 * e)).mp (by grind))
    · exfalso
      have := pw_mono h2 (show 2 * (low + (p : Int) - 1) ≤ 2 * ((p : Int) + e - 1) by have := hE.1; omega)
      grind
  · intro h
    have el : e = low := by rcases cc.2.2.2 with z | z <;> omega
    subst el
    rw [e1, pw_sq h2]
    have h1 : cR b e q + 1 ≤ ((b ^ (p - 1) : Nat) : Int) := by omega
    have h3 := Int.mul_le_mul h1 h1 (by omega) (Int.natCast_nonneg _)
    have h4 := cast_le.mpr h3
    rw [Rat.intCast_mul, Rat.intCast_mul, cast_s] at h4
    have h5 := Rat.mul_le_mul_of_nonneg_right h4 (Rat.le_of_lt (pw_pos h2 (2 * e)))
    grind
section
variable {b : Nat} (h2 : 2 ≤ b)
include h2
theorem raw_pos (e : Int) (q : Rat) : (0 : Rat) < ((q.den : Int) : Rat) * (((b ^ (-e).toNat : Nat) : Int) : Rat) := by
  have h1 : (0 : Int) < (q.den : Int) * ((b ^ (-e).toNat : Nat) : Int) := Int.mul_pos (den_pos q) (Int.natCast_pos.mpr (Nat.pow_pos (by omega)))
  rw [← Rat.intCast_mul]
  rw [← Rat.intCast_zero]; exact cast_lt.mpr h1
theorem raw_l (k e : Int) (q : Rat) : ((k * ((b ^ e.toNat : Nat) : Int) * (q.den : Int) : Int) : Rat) = ((k : Rat) * pw b e) * (((q.den : Int) : Rat) * (((b ^ (-e).toNat : Nat) : Int) : Rat)) := by
  have u := unit_ND h2 e
  rw [Rat.intCast_mul, Rat.intCast_mul, Rat.intCast_natCast (b ^ e.toNat), ← u, Rat.intCast_natCast (b ^ (-e).toNat)]
  grind
theorem raw_r (e : Int) (q : Rat) : ((q.num * ((b ^ (-e).toNat : Nat) : Int) : Int) : Rat) = q * (((q.den : Int) : Rat) * (((b ^ (-e).toNat : Nat) : Int) : Rat)) := by
  rw [Rat.intCast_mul, ← num_den q]; grind
theorem raw_eq (k e : Int) (q : Rat) : (k * ((b ^ e.toNat : Nat) : Int) * (q.den : Int) = q.num * ((b ^ (-e).toNat : Nat) : Int)) ↔ (k : Rat) * pw b e = q := by
  have hp := raw_pos h2 e q
  rw [← Rat.intCast_inj, raw_l h2, raw_r h2]
  generalize ((q.den : Int) : Rat) * (((b ^ (-e).toNat : Nat) : Int) : Rat) = D at *
  constructor
  · intro h
    have hD : D ≠ 0 := fun z => by rw [z] at hp; exact absurd hp (by decide)
    have h1 : (k : Rat) * pw b e * (D * D⁻¹) = q * (D * D⁻¹) := by grind
    rwa [Rat.mul_inv_cancel D hD, Rat.mul_one, Rat.mul_one] at h1
  · intro h; rw [h]
theorem raw_lt (k e : Int) (q : Rat) : (q.num * (4 * ((b ^ (-e).toNat : Nat) : Int)) < k * ((b ^ e.toNat : Nat) : Int) * (q.den : Int)) ↔ 4 * q < (k : Rat) * pw b e := by
  have hp := raw_pos h2 e q
  have e1 : q.num * (4 * ((b ^ (-e).toNat : Nat) : Int)) = 4 * (q.num * ((b ^ (-e).toNat : Nat) : Int)) := by grind
  have e4 : ((4 : Int) : Rat) = 4 := rfl
  rw [e1, ← cast_lt, Rat.intCast_mul, raw_l h2, raw_r h2, e4, ← Rat.mul_assoc]
  exact Rat.mul_lt_mul_right hp
theorem raw_gt (k e : Int) (q : Rat) : (k * ((b ^ e.toNat : Nat) : Int) * (q.den : Int) < q.num * (4 * ((b ^ (-e).toNat : Nat) : Int))) ↔ (k : Rat) * pw b e < 4 * q := by
  have hp := raw_pos h2 e q
  have e1 : q.num * (4 * ((b ^ (-e).toNat : Nat) : Int)) = 4 * (q.num * ((b ^ (-e).toNat : Nat) : Int)) := by grind
  have e4 : ((4 : Int) : Rat) = 4 := rfl
  rw [e1, ← cast_lt, Rat.intCast_mul 4, raw_l h2, raw_r h2, e4, ← Rat.mul_assoc 4]
  exact Rat.mul_lt_mul_right hp
end
theorem upperR {way : Str} (hw : way ∈ wayList) {lt gt : Bool} {k : Int} (c : Int) (h : (lt = true ∧ gt = false ∧ k = 1) ∨ (lt = false ∧ gt = false ∧ k = 2) ∨ (lt = false ∧ gt = true ∧ k = 3)) :
    ((decide (way = "even") && ((decide (way = "up") || ((["even", "away"] : List Str).any (fun s => decide (s = way)) && !lt)) && !gt)) = true → decide (c % 2 = 1) = outw way 0 c k) ∧
    ((decide (way = "even") && ((decide (way = "up") || ((["even", "away"] : List Str).any (fun s => decide (s = way)) && !lt)) && !gt)) = false → (decide (way = "up") || ((["even", "away"] : List Str).any (fun s => decide (s = way)) && !lt)) = outw way 0 c k) := by
  have hk : k ≠ 0 := by omega
  rcases ways hw with rfl | rfl | rfl | rfl | rfl
  · rw [outw_even hk]
    generalize decide (c % 2 = 1) = o
    rcases h with ⟨rfl, rfl, rfl⟩ | ⟨rfl, rfl, rfl⟩ | ⟨rfl, rfl, rfl⟩ <;> cases o <;> decide
  · rw [outw_away hk]
    generalize decide (c % 2 = 1) = o
    rcases h with ⟨rfl, rfl, rfl⟩ | ⟨rfl, rfl, rfl⟩ | ⟨rfl, rfl, rfl⟩ <;> cases o <;> decide
  · rw [outw_up hk]
    generalize decide (c % 2 = 1) = o
    rcases h with ⟨rfl, rfl, rfl⟩ | ⟨rfl, rfl, rfl⟩ | ⟨rfl, rfl, rfl⟩ <;> cases o <;> decide
  · rw [outw_down hk]
    generalize decide (c % 2 = 1) = o
    rcases h with ⟨rfl, rfl, rfl⟩ | ⟨rfl, rfl, rfl⟩ | ⟨rfl, rfl, rfl⟩ <;> cases o <;> decide
  · rw [outw_zero]
    generalize decide (c % 2 = 1) = o
    rcases h with ⟨rfl, rfl, rfl⟩ | ⟨rfl, rfl, rfl⟩ | ⟨rfl, rfl, rfl⟩ <;> cases o <;> decide
theorem in3 {way : Str} (hw : way ∈ wayList) : (["even", "away", "up"] : List Str).any (fun s => decide (s = way)) = isInf way 0 := by
  rcases ways hw with rfl | rfl | rfl | rfl | rfl <;> decide
inductive R_belowR : Rel
  | mk (n d m c : Int) (B : Bag) (h1 : Bd 90000 n) (h2 : Bd 90000 d) (h3 : Bd 90000 m) (h4 : Bd 90000 c) : R_belowR [.da (.tuple [.int n, .int d]), .da (.tuple [.int m, .int c])] B (.bool (decide (n * c < m * d))) B
theorem rt_down {b p : Nat} {low high : Int} (F : Fm b p low high) {q : Rat} (h0 : 0 < q) : ∃ c e, outV b p high "down" 0 (eR b p low q) (cR b (eR b p low q) q) (prR b (eR b p low q) q) = .num 0 c e ∧ Vcan b p low high (.num 0 c e) ∧ (Va.num 0 c e).wQ b * (Va.num 0 c e).wQ b ≤ q := by
  have b2 := F.b2
  have p2 := F.p2
  have hE := eR_is (p := p) b2 low h0
  have lo := cR_lo b2 (Rat.le_of_lt h0) (eR b p low q)
  have can := cR_can (p := p) b2 (by omega) (Rat.le_of_lt h0) hE
  generalize eR b p low q = e at *
  have ho : outw "down" 0 (cR b e q) (prR b e q) = false := by
    by_cases h : prR b e q = 0
    · unfold outw; rw [if_pos (.inl h)]
    · rw [outw_down h]; rfl
  unfold outV
  rw [ho]
  have hnb : nb b p false (cR b e q) e = (cR b e q, e) := rfl
  rw [hnb]
  have sqw : ∀ (C : Int) (E : Int), (Va.num 0 C E).wQ b * (Va.num 0 C E).wQ b = (C : Rat) * (C : Rat) * pw b (2 * E) := by
    intro C E
    show ((if (0 : Int) = 1 then -C else C : Int) : Rat) * pw b E * (((if (0 : Int) = 1 then -C else C : Int) : Rat) * pw b E) = _
    rw [if_neg (by decide), show 2 * E = E + E by omega, pw_add b2]; grind
  by_cases h : high < e
  · rw [if_pos h]
    have hi : isInf "down" 0 = false := by decide
    rw [hi, if_neg Bool.false_ne_true]
    refine ⟨_, _, rfl, ⟨.inl rfl, great_can F, Int.le_refl _⟩, ?_⟩
    rw [sqw]
    have h5 : pw b (2 * (p + e - 1)) ≤ q := by
      rcases hE.2.2 with z | z
      · have := F.lh; omega
      · exact z
    have h6 := pw_mono b2 (show 2 * ((p : Int) + high) ≤ 2 * ((p : Int) + e - 1) by omega)
    rw [pw_sq b2] at h6
    have g1 : (0 : Int) < ((b ^ p : Nat) : Int) := Int.natCast_pos.mpr (Nat.pow_pos (by omega))
    have g2 := Int.mul_le_mul (show ((b ^ p : Nat) : Int) - 1 ≤ ((b ^ p : Nat) : Int) by omega) (show ((b ^ p : Nat) : Int) - 1 ≤ ((b ^ p : Nat) : Int) by omega) (by omega) (by omega)
    have g3 := cast_le.mpr g2
    rw [Rat.intCast_mul, Rat.intCast_mul] at g3
    have g4 := Rat.mul_le_mul_of_nonneg_right g3 (Rat.le_of_lt (pw_pos b2 (2 * high)))
    grind
  · rw [if_neg h]
    exact ⟨_, _, rfl, ⟨.inl rfl, can, by show e ≤ high; omega⟩, by rw [sqw]; exact lo⟩
theorem rt_up {b p : Nat} {low high : Int} (F : Fm b p low high) {q : Rat} (h0 : 0 < q) : outV b p high "up" 0 (eR b p low q) (cR b (eR b p low q) q) (prR b (eR b p low q) q) = .inf 0 ∨ ∃ c e, outV b p high "up" 0 (eR b p low q) (cR b (eR b p low q) q) (prR b (eR b p low q) q) = .num 0 c e ∧ Vcan b p low high (.num 0 c e) ∧ q ≤ (Va.num 0 c e).wQ b * (Va.num 0 c e).wQ b := by
  have b2 := F.b2
  have p2 := F.p2
  have hE := eR_is (p := p) b2 low h0
  have up := cR_up b2 (Rat.le_of_lt h0) (eR b p low q)
  have can := cR_can (p := p) b2 (by omega) (Rat.le_of_lt h0) hE
  have cas := prR_cases b2 (eR b p low q) q
  generalize eR b p low q = e at *
  unfold outV
  have nc := nb_can (o := outw "up" 0 (cR b e q) (prR b e q)) b2 p2 can
  by_cases h : high < (nb b p (outw "up" 0 (cR b e q) (prR b e q)) (cR b e q) e).2
  · rw [if_pos h]
    left
    rw [if_pos (by decide)]
  · rw [if_neg h]
    right
    refine ⟨_, _, rfl, ⟨.inl rfl, nc.1, by omega⟩, ?_⟩
    have ew : ∀ (C : Int) (E : Int), (Va.num 0 C E).wQ b = (C : Rat) * pw b E := by
      intro C E
      show ((if (0 : Int) = 1 then -C else C : Int) : Rat) * pw b E = _
      rw [if_neg (by decide)]
    rw [ew, nc.2]
    have ep : pw b (2 * e) = pw b e * pw b e := by rw [← pw_add b2]; congr 1; omega
    rw [ep] at cas up
    rcases cas with ⟨h1, h3⟩ | ⟨h1, h3⟩
    · have ho : outw "up" 0 (cR b e q) (prR b e q) = false := by unfold outw; rw [if_pos (.inl h3)]
      rw [ho, if_neg Bool.false_ne_true]
      grind
    · have hn : prR b e q ≠ 0 := by omega
      have ho : outw "up" 0 (cR b e q) (prR b e q) = true := by rw [outw_up hn]; rfl
      rw [ho, if_pos rfl]
      grind
end Lw
set_option exponentiation.threshold 20000
namespace Lw
open PySem PySem.Spec PyProof.Rows L2 Gd Fr
open scoped Rat
section
variable {b p : Nat} {low high : Int} (F : Fm b p low high)
include F
theorem rt_nd {way : Str} {q : Rat} (h0 : 0 < q) : Nd 3 160 (rtP b p low high way q) := by
  have hq0 : ¬ q = 0 := fun z => by rw [z] at h0; exact absurd h0 (by decide)
  unfold rtP
  rw [if_neg hq0]
  exact out_nd F (.inl rfl) (cR_can (p := p) F.b2 (by have := F.p2; omega) (Rat.le_of_lt h0) (eR_is F.b2 low h0))
end
theorem rtP_eq {b p : Nat} {low high : Int} {way : Str} {q : Rat} (h0 : 0 < q) : rtP b p low high way q = .tuple [(outV b p high way 0 (eR b p low q) (cR b (eR b p low q) q) (prR b (eR b p low q) q)).d, words (outF b p high way 0 (eR b p low q) (cR b (eR b p low q) q) (prR b (eR b p low q) q))] := by
  have hq0 : ¬ q = 0 := fun z => by rw [z] at h0; exact absurd h0 (by decide)
  unfold rtP
  rw [if_neg hq0, outP_eq]
section
variable (b p : Nat) (low high : Int)
end
end Lw
set_option exponentiation.threshold 20000
namespace Gd
open PySem PySem.Spec PyProof.Rows L2
section
variable {X : Cx} {Γ : List VD} {B B1 B2 B' : Bag} {e a b c : Expr} {pos p : Pos} {rest s1 : List Stmt} {E : En} {Φ : Post}
end
end Gd
set_option exponentiation.threshold 20000
namespace Lw
open PySem PySem.Spec PyProof.Rows L2 Gd Fr
open scoped Rat
end Lw
namespace Lw
open PySem PySem.Spec PyProof.Rows L2 Gd Fr
open scoped Rat
end Lw
namespace Lw
open PySem PySem.Spec PyProof.Rows L2 Gd Fr
open scoped Rat
theorem rtP_bx (b p : Nat) (low high : Int) (way : Str) (q : Rat) : boxed (rtP b p low high way q) = true := by
  unfold rtP
  split
  · rfl
  · rw [outP_eq]; rfl
end Lw
set_option exponentiation.threshold 20000
namespace Lw
open PySem PySem.Spec PyProof.Rows L2 Gd Fr
open scoped Rat
structure Sz (b p : Nat) (low high : Int) (P H J : Nat) : Prop where
  hP : b ^ p < 2 ^ P
  hH : b ^ high.toNat < 2 ^ H
  hL : b ^ (-low).toNat < 2 ^ J
  pj : P + H ≤ J
  p1 : 1 ≤ P
  h1 : 1 ≤ H
section
variable {b p : Nat} {low high : Int} {P H J : Nat} (F : Fm b p low high) (Z : Sz b p low high P H J)
include F Z
theorem Sz.pw {e : Int} (h : low ≤ e) (h' : e ≤ high) : Qz H J (pw b e) := by
  have b2 := F.b2
  refine pw_bd b2 ?_ ?_ Z.h1 (by have := Z.pj; have := Z.p1; omega)
  · exact Nat.lt_of_le_of_lt (Nat.pow_le_pow_right (by omega) (by omega)) Z.hH
  · exact Nat.lt_of_le_of_lt (Nat.pow_le_pow_right (by omega) (by omega)) Z.hL
theorem Sz.c {c : Int} (h0 : 0 ≤ c) (h1 : c < ((b ^ p : Nat) : Int)) : Qz P 1 (c : Rat) := by
  have := Z.hP
  exact ⟨by rw [Rat.num_intCast]; unfold Bd; omega, by rw [Rat.den_intCast]; unfold Bd; decide⟩
theorem Sz.nfF (B : Bag) : Qz (P + 402 + H) (402 + J) (nfF b p low high B) := by
  obtain ⟨s, c, e, hv, h1, h3, h4, h5, h6⟩ := num_parts F B
  unfold Lw.nfF
  rw [hv]
  exact ((Z.c F h3 h4).add (nfP_qz _) (P + 402) (by omega) (by have := Z.p1; omega)).mul (Z.pw F h5 h6)
theorem Sz.nf0 {w : Int} {f : Rat} (B : Bag) (h : Qz (P + 402 + H) (402 + J) f) : Qz (J + 540) (J + 540) (nf0 w f B) := by
  have := Z.pj; have := Z.p1; have := Z.h1
  unfold Lw.nf0; split
  · exact (h.add (unit_qz40 (pm_mem B)) (J + 540) (by omega) (by omega)).le (Nat.le_refl _) (by omega)
  · exact h.le (by omega) (by omega)
omit F Z in
theorem Sz.nf1 {w : Int} {f : Rat} (B : Bag) (h : Qz (J + 540) (J + 540) f) : Qz (J + 540) (J + 540) (nf1 w f B) := by
  unfold Lw.nf1; split
  · have hb := nf1_bd B
    have := divInt_bd (nf1_den B) hb.1 hb.2
    exact (show Qz 20 14 _ from ⟨this.1, this.2⟩).le (by omega) (by omega)
  · exact h
theorem Sz.nf2 {w : Int} {f : Rat} (B : Bag) (h : Qz (J + 540) (J + 540) f) : Qz (J + 540) (J + 540) (nf2 b p high w f B) := by
  have := Z.pj; have := Z.p1; have := Z.h1
  unfold Lw.nf2; split
  · have hp : (0 : Int) < ((b ^ p : Nat) : Int) := Int.natCast_pos.mpr (Nat.pow_pos (by have := F.b2; omega))
    have g : Qz (P + H) (1 + J) (grQ b p high) := (Z.c F (c := ((b ^ p : Nat) : Int) - 1) (by omega) (by omega)).mul (Z.pw F F.lh (Int.le_refl _))
    exact (g.mul (g_qz _ (pickQ_mem nfG B (by decide)))).le (by omega) (by omega)
  · exact h
theorem Sz.nf3 {w : Int} {f : Rat} (B : Bag) (h : Qz (J + 540) (J + 540) f) : Qz (J + 540) (J + 540) (nf3 b p low w f B) := by
  have := Z.pj; have := Z.p1; have := Z.h1
  have b2 := F.b2
  unfold Lw.nf3; split
  · have g : Qz J J (Lw.pw b (low + p - 1)) := by
      refine pw_bd b2 ?_ ?_ (by omega) (by omega)
      · have h5 : b ^ (low + p - 1).toNat ≤ b ^ (p + high.toNat) := Nat.pow_le_pow_right (by omega) (by have := F.lh; omega)
        have h6 : b ^ p * b ^ high.toNat < 2 ^ P * 2 ^ H := Nat.mul_lt_mul'' Z.hP Z.hH
        rw [Nat.pow_add] at h5
        rw [← Nat.pow_add 2] at h6
        have h7 : 2 ^ (P + H) ≤ 2 ^ J := Nat.pow_le_pow_right (by decide) Z.pj
        exact Nat.lt_of_le_of_lt h5 (Nat.lt_of_lt_of_le h6 h7)
      · exact Nat.lt_of_le_of_lt (Nat.pow_le_pow_right (by omega) (by have := F.p2; omega)) Z.hL
    exact (g.mul (n_qz _ (pickQ_mem nfN B (by decide)))).le (by omega) (by omega)
  · exact h
theorem Sz.nfQ (B : Bag) : Qz (J + 540) (J + 540) (nfQ b p low high B) := by
  have t : ∀ (w : Int) (C : Bag), Qz (J + 540) (J + 540) (nfT b p low high w (Lw.nfF b p low high B) C) := fun w C => Z.nf3 F _ (Z.nf2 F _ (Sz.nf1 _ (Z.nf0 F _ (Z.nfF F B))))
  unfold Lw.nfQ; split
  · exact (t _ _).neg
  · exact t _ _
theorem Sz.half {q : Rat} (h0 : 0 ≤ q) (hq : Qz (J + 540) (J + 540) q) : Qz (P + 2 + (J + 540)) (2 + J) (((2 * cQ b (eQ b p low q) q + 1 : Int) : Rat) / 2 * Lw.pw b (eQ b p low q)) := by
  have b2 := F.b2
  have pj := Z.pj; have p1 := Z.p1; have z1 := Z.h1
  have hE := eQ_is (p := p) b2 low q
  have c0 := c_ge b2 h0 (eQ b p low q)
  have c1 := c_lt b2 hE
  have ebd := F.e_bd hq h0 hE
  have el := hE.1
  generalize eQ b p low q = e at *
  have hu : Qz (J + 540) J (Lw.pw b e) := by
    refine pw_bd b2 ?_ ?_ (by omega) (by omega)
    · have h3 : 2 ^ H ≤ 2 ^ (J + 540) := Nat.pow_le_pow_right (by decide) (by omega)
      rcases ebd with ⟨h, _, _⟩ | h | h
      · exact Nat.lt_of_le_of_lt (Nat.le_mul_of_pos_left _ q.den_pos) h
      · have : e.toNat = 0 := by omega
        rw [this, Nat.pow_zero]; exact Nat.one_lt_two_pow (by omega)
      · have h5 : b ^ e.toNat ≤ b ^ high.toNat := Nat.pow_le_pow_right (by omega) (by have := F.lh; omega)
        have := Z.hH
        omega
    · exact Nat.lt_of_le_of_lt (Nat.pow_le_pow_right (by omega) (by omega)) Z.hL
  have hc : Qz (P + 2) 1 ((2 * cQ b e q + 1 : Int) : Rat) := by
    have := Z.hP
    have e4 : 2 ^ (P + 2) = 2 ^ P * 4 := by rw [Nat.pow_add]
    exact ⟨by rw [Rat.num_intCast]; unfold Bd; omega, by rw [Rat.den_intCast]; unfold Bd; decide⟩
  have h2 : Qz 2 1 (2 : Rat) := ⟨by unfold Bd; decide, by unfold Bd; decide⟩
  have h2' : Qz (P + 2) 2 (((2 * cQ b e q + 1 : Int) : Rat) / 2) := by
    rw [Rat.div_def]
    have hi : Qz 1 2 ((2 : Rat)⁻¹) := ⟨by unfold Bd; decide +kernel, by unfold Bd; decide +kernel⟩
    have e1 : ((2 * cQ b e q + 1 : Int) : Rat) * (2 : Rat)⁻¹ = (2 * cQ b e q + 1) /. 2 := by rw [← Rat.div_def, Rat.divInt_eq_div]; rfl
    rw [e1]
    have hn : Bd (P + 2) (2 * cQ b e q + 1) := by have := hc.nu; rwa [Rat.num_intCast] at this
    obtain ⟨z1, z2⟩ := divInt_bd (n := 2 * cQ b e q + 1) (d := 2) (by decide) hn (b := 2) (by unfold Bd; decide)
    exact ⟨z1, z2⟩
  exact (h2'.mul hu).le (by omega) (by omega)
end
theorem half_fq (c : Int) : PyData.tuple [.int (2 * c + 1), .int 2] = fq (((2 * c + 1 : Int) : Rat) / 2) := by
  have e1 : ((2 * c + 1 : Int) : Rat) / 2 = (2 * c + 1) /. 2 := by rw [Rat.divInt_eq_div]; rfl
  have hg : com (2 * c + 1) 2 = 1 := by
    unfold com
    rw [if_neg (by decide)]
    have h : Nat.gcd (2 * c + 1).natAbs 2 = 1 := by
      have h1 := Nat.gcd_dvd_left (2 * c + 1).natAbs 2
      have h2 := Nat.gcd_dvd_right (2 * c + 1).natAbs 2
      have h3 := Nat.le_of_dvd (by decide) h2
      generalize Nat.gcd (2 * c + 1).natAbs 2 = g at *
      rcases Nat.lt_or_ge g 2 with z | z
      · rcases Nat.eq_zero_or_pos g with y | y
        · subst y; exact absurd (Nat.eq_zero_of_zero_dvd h2) (by decide)
        · omega
      · have : g = 2 := by omega
        subst this
        omega
    show ((Nat.gcd (2 * c + 1).natAbs (2 : Int).natAbs : Nat) : Int) = 1
    have : (2 : Int).natAbs = 2 := rfl
    rw [this, h]; rfl
  have hn := red_num (n := 2 * c + 1) (d := 2) (by decide)
  have hd := red_den (n := 2 * c + 1) (d := 2) (by decide)
  rw [hg, Int.fdiv_one] at hn hd
  unfold fq
  rw [e1, ← hn, ← hd]
theorem pm_fq {i : Int} (h : i = 1 ∨ i = -1) {N : Nat} (hN : 0 < N) : PyData.tuple [.int i, .int (N : Int)] = fq ((i : Rat) / ((N : Int) : Rat)) := by
  have e1 : (i : Rat) / ((N : Int) : Rat) = i /. (N : Int) := by rw [Rat.divInt_eq_div]
  have hN' : (N : Int) ≠ 0 := by omega
  have hg : com i (N : Int) = 1 := by
    unfold com
    rw [if_neg (by omega)]
    have : i.natAbs = 1 := by omega
    rw [this, Nat.gcd_one_left]; rfl
  have hn := red_num (n := i) (d := (N : Int)) hN'
  have hd := red_den (n := i) (d := (N : Int)) hN'
  rw [hg, Int.fdiv_one] at hn hd
  unfold fq
  rw [e1, ← hn, ← hd]
theorem pm_ge {i : Int} (h : i = 1 ∨ i = -1) {N : Nat} (hN : 0 < N) {y : Rat} (hy : 0 ≤ y) : 0 ≤ y + y * ((i : Rat) / ((N : Int) : Rat)) := by
  have n1 : (1 : Rat) ≤ ((N : Int) : Rat) := by
    have := cast_le.mpr (show (1 : Int) ≤ (N : Int) by omega); exact this
  have n0 : ((N : Int) : Rat) ≠ 0 := by grind
  have e1 : (i : Rat) / ((N : Int) : Rat) * ((N : Int) : Rat) = (i : Rat) := by rw [Rat.div_def, Rat.mul_assoc, Rat.inv_mul_cancel _ n0, Rat.mul_one]
  generalize (i : Rat) / ((N : Int) : Rat) = u at *
  have hu : -1 ≤ u := by
    refine Rat.not_lt.mp fun z => ?_
    have h2 : u * ((N : Int) : Rat) < -1 * ((N : Int) : Rat) := (Rat.mul_lt_mul_right (by grind)).mpr z
    rw [e1] at h2
    have h3 : ((-1 : Int) : Rat) ≤ (i : Rat) := cast_le.mpr (by omega)
    have h4 : ((-1 : Int) : Rat) = -1 := rfl
    grind
  have e3 : y + y * u = y * (1 + u) := by grind
  rw [e3]
  exact Rat.mul_nonneg hy (by grind)
def k20B (t : F4) : Bool :=
  fmB t && ((decide (40 ≤ t.2.1) || (decide (t.1 ^ t.2.1 < 2 ^ 120) && (decide (t.1 ^ t.2.2.2.toNat < 2 ^ 1226) && (decide (t.1 ^ (-t.2.2.1).toNat < 2 ^ 1346) && decide (t.1 ^ (6 * t.2.1 + 2) < 2 ^ 707))))) &&
    (decide (t.2.2.1 ≤ 0) || (decide (t.2.1 < 40) && decide (t.1 ^ (2 * t.2.2.1).toNat < 2 ^ 100))))
theorem small_k20 : smallF.all k20B = true := by decide +kernel
theorem world_k20 : worldF.all k20B = true := by decide +kernel
theorem far_k20 : farF.all k20B = true := by decide +kernel
theorem pickF_all (f : F4 → Bool) (ts : List F4) (B : Bag) (h : 0 < ts.length) (hok : ts.all f = true) : f (pickF ts B) = true := by
  have h0 := tkV_ge B (m := ts.length) (by omega)
  have h1 := tkV_lt B (m := ts.length) (by omega)
  have hlt : (tkV B ts.length).toNat < ts.length := by omega
  unfold pickF
  rw [List.getD_eq_getElem?_getD, List.getElem?_eq_getElem hlt]
  exact List.all_eq_true.mp hok _ (List.getElem_mem hlt)
theorem small_kV (B : Bag) : k20B (smallV B) = true := pickF_all k20B smallF B (by decide) small_k20
theorem af_kV (B : Bag) : k20B (afV B) = true := by
  unfold afV wideV
  split
  · exact small_kV _
  split
  · exact pickF_all k20B worldF _ (by decide) world_k20
  · exact pickF_all k20B farF _ (by decide) far_k20
structure K20 (b p : Nat) (low high : Int) (P H J : Nat) : Prop where
  F : Fm b p low high
  Z : Sz b p low high P H J
  pb : P ≤ 700
  hb : H ≤ 2340
  jb : J ≤ 3040
  few : p < 40 → J ≤ 1346 ∧ P ≤ 120
  six : p < 40 → b ^ (6 * p + 2) < 2 ^ 707
  low0 : 0 < low → p < 40 ∧ b ^ (2 * low).toNat < 2 ^ 100
theorem k20_of {t : F4} (h : k20B t = true) : ∃ P H J, K20 t.1 t.2.1 t.2.2.1 t.2.2.2 P H J := by
  obtain ⟨h1, h⟩ := Bool.and_eq_true_iff.mp h
  obtain ⟨h2, h3⟩ := Bool.and_eq_true_iff.mp h
  have F := fm_of h1
  have l0 : 0 < t.2.2.1 → t.2.1 < 40 ∧ t.1 ^ (2 * t.2.2.1).toNat < 2 ^ 100 := fun hl => by
    rcases Bool.or_eq_true_iff.mp h3 with z | z
    · have := of_decide_eq_true z; omega
    · obtain ⟨z1, z2⟩ := Bool.and_eq_true_iff.mp z
      exact ⟨of_decide_eq_true z1, of_decide_eq_true z2⟩
  rcases Bool.or_eq_true_iff.mp h2 with z | z
  · have z := of_decide_eq_true z
    exact ⟨700, 2340, 3040, F, ⟨F.bp, F.bh, Nat.lt_of_lt_of_le F.bl (Nat.pow_le_pow_right (by decide) (by decide)), by decide, by decide, by decide⟩, by decide, by decide, by decide, fun y => by omega, fun y => by omega, l0⟩
  · obtain ⟨z1, z⟩ := Bool.and_eq_true_iff.mp z
    obtain ⟨z2, z⟩ := Bool.and_eq_true_iff.mp z
    obtain ⟨z3, z4⟩ := Bool.and_eq_true_iff.mp z
    exact ⟨120, 1226, 1346, F, ⟨of_decide_eq_true z1, of_decide_eq_true z2, of_decide_eq_true z3, by decide, by decide, by decide⟩, by decide, by decide, by decide, fun _ => ⟨by decide, by decide⟩, fun _ => of_decide_eq_true z4, l0⟩
theorem sq_ok {b p : Nat} {low high : Int} {P H J : Nat} (K : K20 b p low high P H J) {x : Rat} {n d : Nat} (hx : Qz n d x) (hn : n ≤ 8800) (hd : d ≤ 8800) (hf : p < 40 → d ≤ 8700) : Qz 8800 8800 x ∧ x.den * b ^ (2 * low).toNat < 2 ^ 8800 := by
  refine ⟨hx.le hn hd, ?_⟩
  have h8 := hx.de
  unfold Bd at h8
  by_cases hl : low ≤ 0
  · have e0 : (2 * low).toNat = 0 := by omega
    rw [e0, Nat.pow_zero, Nat.mul_one]
    have h4 : 2 ^ d ≤ 2 ^ 8800 := Nat.pow_le_pow_right (by decide) hd
    omega
  · obtain ⟨k1, k2⟩ := K.low0 (by omega)
    have hd := hf k1
    have h4 : 2 ^ d ≤ 2 ^ 8700 := Nat.pow_le_pow_right (by decide) hd
    have h5 : x.den < 2 ^ 8700 := by omega
    have h6 : x.den * b ^ (2 * low).toNat < 2 ^ 8700 * 2 ^ 100 := Nat.mul_lt_mul'' h5 k2
    rwa [← Nat.pow_add] at h6
def Pre_sqf (Γ : List VD) (B : Bag) : Prop := ∃ t : F4, Γ = [.bag, .da t.d] ∧ k20B t = true ∧ Bok B
def Post_sqf (Γ : List VD) (_ : Bag) (r : PyData) (B' : Bag) : Prop := Bok B' ∧ ∀ t : F4, Γ = [.bag, .da t.d] → ∃ x : Rat, r = fq x ∧ 0 ≤ x ∧ Qz 8800 8800 x ∧ x.den * t.1 ^ (2 * t.2.2.1).toNat < 2 ^ 8800
end Lw
set_option exponentiation.threshold 20000
namespace K20
open PySem PySem.Spec PyProof.Rows L2 Gd Fr Lw
open scoped Rat

def topS (i : Nat) : Stmt := PySem.Challenge.pw_nearestheld_k20_whole_rounded_roots.main.body.getD i (.Pass ⟨0, 0, 0, 0⟩)
variable {P : Program} {w : World} {K : PySem.W.Frag} {mg : Str → Option Value} {base : Heap}

abbrev s_integer_power : Stmt := topS 2
theorem sc_integer_power : FnScope ["base", "e", "power"] ["base", "e"] (defScope s_integer_power) := ⟨rfl, rfl, rfl, by decide +kernel, rfl, by decide +kernel, by decide +kernel⟩

theorem c_of_integer_power (T : At K mg "integer_power" s_integer_power ["base", "e"]) : Cal P w K mg base "integer_power" 4 R_pow :=
  cal_at T sc_integer_power (by rintro _ _ _ _ ⟨⟩; rfl) fun f cd0 A out s H E G Γ B r B' hR => by
  obtain ⟨b, e, B, hb, he⟩ := hR
  refine sj_set 2 G.nd ej_int ?_
  refine sj_while G.nd (fun Γ' B' => ∃ k m j : Nat, Γ' = [.da (.int ((b ^ k : Nat) : Int)), .da (.int m), .da (.int ((b ^ j : Nat) : Int))] ∧ j + k * m = e ∧ B' = B) (fun Γ' _ => (intAt Γ' 1).toNat)
    ⟨1, e, 0, by rw [Nat.pow_one]; rfl, by omega, rfl⟩ ?_
  rintro Γ' B' ⟨k, m, j, rfl, hk, rfl⟩
  refine ⟨_, tj_gt (ej_dat 1) ej_int, fun h => ?_, fun h => ?_⟩
  · have hm : 0 < m := by have := of_decide_eq_true h; omega
    obtain ⟨k1, j1⟩ := k_le hk hm
    refine sj_ifM (fun Γ' B2 => ∃ j' : Nat, Γ' = [.da (.int ((b ^ k : Nat) : Int)), .da (.int m), .da (.int ((b ^ j' : Nat) : Int))] ∧ j' + (k + k) * (m / 2) = e ∧ B2 = B') (tj_eqI G.hu (ej_mod (ej_dat 1) ej_int (by decide)) ej_int) (fun h1 => ?_) (fun h1 => ?_) ?_
    · refine sj_set 2 G.nd (ej_mul (ej_dat 2) (ej_dat 0) (cm (bd_pow j hb) (bd_pow k hb) (by omega))) (sj_nil ?_)
      rw [pow_up]
      exact ⟨j + k, rfl, turn_odd hk (by have := of_decide_eq_true h1; omega), rfl⟩
    · exact sj_nil ⟨j, rfl, turn_even hk (by have := of_decide_eq_false h1; omega), rfl⟩
    · rintro Γ2 B2 ⟨j', rfl, hj', rfl⟩
      refine sj_set 0 G.nd (ej_mul (ej_dat 0) (ej_dat 0) (cm (bd_pow k hb) (bd_pow k hb) (by omega))) ?_
      refine sj_set 1 G.nd (ej_fdiv (ej_dat 1) ej_int (cdv (show Bd 2 2 from by unfold Bd; decide) (by decide))) (sj_nil ?_)
      rw [pow_sq, half]
      exact ⟨⟨k + k, m / 2, j', rfl, hj', rfl⟩, show ((m / 2 : Nat) : Int).toNat < (m : Int).toNat by omega⟩
  · have hm : ¬ 0 < m := by have := of_decide_eq_false h; omega
    have := j_end hk hm
    subst this
    exact sj_ret (ej_dat 2) ⟨rfl, rfl⟩

abbrev s_reduced : Stmt := topS 4
theorem sc_reduced : FnScope ["n", "d", "ahead", "behind", "twos", "common"] ["n", "d"] (defScope s_reduced) := ⟨rfl, rfl, rfl, by decide +kernel, rfl, by decide +kernel, by decide +kernel⟩

theorem c_of_reduced (m_gcd : mg "gcd" = some (.builtin "math.gcd")) (m_min : mg "min" = none) (c_u_twos_in : Cal P w K mg base "_twos_in" 1 R_twos) (T : At K mg "reduced" s_reduced ["n", "d"]) : Cal P w K mg base "reduced" 3 R_reduced :=
  cal_at T sc_reduced (by rintro _ _ _ _ ⟨⟩; rfl) fun f cd0 A out s H E G Γ B r B' hR => by
  obtain ⟨n, d, B, hd, hb⟩ := hR
  refine sj_when (tj_eqI G.hu (ej_dat 0) ej_int) (fun h => ?_) (fun h => ?_)
  · have h0 : n = 0 := of_decide_eq_true h
    subst h0
    exact sj_ret (ej_tupD (ad_cons ej_int (ad_cons ej_int ad_nil)) (Nat.le_of_ble_eq_true rfl)) ⟨by rw [Rat.zero_divInt]; rfl, rfl⟩
  · have hn : n ≠ 0 := of_decide_eq_false h
    obtain ⟨i, a, rfl⟩ := tw_ex hn
    obtain ⟨j, b, rfl⟩ := tw_ex hd
    refine sj_par 2 3 G.nd G.calm (aj_cons (ej_call c_u_twos_in (G.le (by decide)) (aj_cons (ej_dat 0) aj_nil) (R_twos.mk i a B)) (aj_cons (ej_call c_u_twos_in (G.le (by decide)) (aj_cons (ej_dat 1) aj_nil) (R_twos.mk j b B)) aj_nil)) ?_ (by decide) (by rfl)
    obtain ⟨t, hi, hj, ht, em⟩ : ∃ t : Nat, t ≤ i ∧ t ≤ j ∧ (t = i ∨ t = j) ∧ min (i : Int) (j : Int) = (t : Int) := ⟨min i j, by omega, by omega, by omega, by omega⟩
    refine sj_set 4 G.nd (ej_is (ej_min G.calm m_min (ej_dat 2) (ej_dat 3)) (congrArg PyData.int em)) ?_
    refine sj_par 0 1 G.nd G.calm (aj_cons (ej_is (ej_shr (ej_dat 0) (ej_dat 4)) (congrArg PyData.int (tw_shr hi a))) (aj_cons (ej_is (ej_shr (ej_dat 1) (ej_dat 4)) (congrArg PyData.int (tw_shr hj b))) aj_nil)) ?_ (by decide) (by rfl)
    have ek : (j : Int) - (t : Int) = ((j - t : Nat) : Int) := by omega
    have e0 : tw (j - t) b / 2 ^ (j - t) = tw 0 b := by rw [tw_shr (Nat.le_refl _), Nat.sub_self]
    refine sj_set 5 G.nd (ej_gcd m_gcd (ej_dat 0) (ej_is (ej_shr (ej_dat 1) (ej_is (ej_sub (ej_dat 3) (ej_dat 4)) (congrArg PyData.int ek))) (congrArg PyData.int e0))) ?_
    have hd' : tw (j - t) b ≠ 0 := tw_ne _ _
    have eg : Nat.gcd (tw (i - t) a).natAbs (tw 0 b).natAbs = Nat.gcd (tw (i - t) a).natAbs (tw (j - t) b).natAbs := by
      refine (gcd_odd _ b ?_).symm
      rcases ht with rfl | rfl
      · left; rw [Nat.sub_self]; exact tw_odd a
      · right; exact Nat.sub_self _
    rw [eg, divInt_tw hi hj a b]
    have hb' : Bd 8900 (tw (j - t) b) := bd_tw hb (Nat.sub_le _ _)
    have cx : ∀ m, CDivX m (com (tw (i - t) a) (tw (j - t) b)) := fun m => cdx (com_bd hd' hb') (com_ne hd')
    refine sj_if (tj_lt (ej_dat 1) ej_int) (fun h => ?_) (fun h => ?_)
    · refine sj_set 5 G.nd (ej_neg (ej_dat 5)) (sj_nil ?_)
      have e : -((Nat.gcd (tw (i - t) a).natAbs (tw (j - t) b).natAbs : Nat) : Int) = com (tw (i - t) a) (tw (j - t) b) := (if_pos (of_decide_eq_true h)).symm
      rw [e]
      exact sj_ret (ej_tupD (ad_cons (ej_fdivX (ej_dat 0) (ej_dat 5) (cx _)) (ad_cons (ej_fdivX (ej_dat 1) (ej_dat 5) (cx _)) ad_nil)) (Nat.le_of_ble_eq_true rfl)) ⟨by rw [red_num hd', red_den hd']; rfl, rfl⟩
    · refine sj_nil ?_
      have e : ((Nat.gcd (tw (i - t) a).natAbs (tw (j - t) b).natAbs : Nat) : Int) = com (tw (i - t) a) (tw (j - t) b) := (if_neg (of_decide_eq_false h)).symm
      rw [e]
      exact sj_ret (ej_tupD (ad_cons (ej_fdivX (ej_dat 0) (ej_dat 5) (cx _)) (ad_cons (ej_fdivX (ej_dat 1) (ej_dat 5) (cx _)) ad_nil)) (Nat.le_of_ble_eq_true rfl)) ⟨by rw [red_num hd', red_den hd']; rfl, rfl⟩

abbrev s_times : Stmt := topS 5
theorem sc_times : FnScope ["one", "other", "first", "right", "second", "left"] ["one", "other"] (defScope s_times) := ⟨rfl, rfl, rfl, by decide +kernel, rfl, by decide +kernel, by decide +kernel⟩

theorem c_of_times (c_reduced : Cal P w K mg base "reduced" 3 R_reduced) (T : At K mg "times" s_times ["one", "other"]) : Cal P w K mg base "times" 4 (R_two (· * ·)) :=
  cal_at T sc_times (by rintro _ _ _ _ ⟨⟩; rfl) fun f cd0 A out s H E G Γ B r B' hR => by
  obtain ⟨n, d, m, c, x, y, B, hx, hy, h1, h2, h3⟩ := hR
  obtain ⟨b1, b2⟩ := divInt_bd (den_ne y) hx.nu hy.de
  obtain ⟨b3, b4⟩ := divInt_bd (den_ne x) hy.nu hx.de
  refine sj_unpack [2, 3] (ds := [.int (x.num /. (y.den : Int)).num, .int ((x.num /. (y.den : Int)).den : Int)]) G.calm (ej_call c_reduced (G.le (by decide)) (aj_cons (ej_at (ej_dat (d := fq x) 0)) (aj_cons (ej_at (ej_dat (d := fq y) 1)) aj_nil)) (R_reduced.mk _ _ _ (den_ne y) (hy.de.le (by omega)))) (pgs_cons (pg_name (i := 2) G.nd rfl (Or.inl rfl)) (pgs_cons (pg_name (i := 3) G.nd rfl (Or.inl rfl)) pgs_nil)) rfl ?_
  refine sj_unpack [4, 5] (ds := [.int (y.num /. (x.den : Int)).num, .int ((y.num /. (x.den : Int)).den : Int)]) G.calm (ej_call c_reduced (G.le (by decide)) (aj_cons (ej_at (ej_dat (d := fq y) 1)) (aj_cons (ej_at (ej_dat (d := fq x) 0)) aj_nil)) (R_reduced.mk _ _ _ (den_ne x) (hx.de.le (by omega)))) (pgs_cons (pg_name (i := 4) G.nd rfl (Or.inl rfl)) (pgs_cons (pg_name (i := 5) G.nd rfl (Or.inl rfl)) pgs_nil)) rfl ?_
  exact sj_ret (ej_tupD (ad_cons (ej_mul (ej_dat 2) (ej_dat 4) (cmz b1 b3)) (ad_cons (ej_mul (ej_dat 5) (ej_dat 3) (cmz b4 b2)) ad_nil)) (Nat.le_of_ble_eq_true rfl)) ⟨mul_by x y, rfl⟩

abbrev s_power_of : Stmt := topS 6
theorem sc_power_of : FnScope ["base", "e"] ["base", "e"] (defScope s_power_of) := ⟨rfl, rfl, rfl, by decide +kernel, rfl, by decide +kernel, by decide +kernel⟩

theorem c_of_power_of (c_integer_power : Cal P w K mg base "integer_power" 4 R_pow) (T : At K mg "power_of" s_power_of ["base", "e"]) : Cal P w K mg base "power_of" 5 R_power_of :=
  cal_at T sc_power_of (by rintro _ _ _ _ ⟨⟩; rfl) fun f cd0 A out s H E G Γ B r B' hR => by
  obtain ⟨b, e, B, h0, hb, h1, h2⟩ := hR
  refine sj_when (tj_lt (ej_dat 1) ej_int) (fun h => ?_) (fun h => ?_)
  · have he : e < 0 := of_decide_eq_true h
    have hn : -e = ((-e).toNat : Int) := by omega
    refine sj_ret (ej_tupD (ad_cons ej_int (ad_cons (ej_call c_integer_power (G.le (by decide)) (aj_cons (ej_dat 0) (aj_cons (ej_is (ej_neg (ej_dat 1)) (congrArg PyData.int hn)) aj_nil)) (R_pow.mk b (-e).toNat B hb (by omega))) ad_nil)) (Nat.le_of_ble_eq_true rfl)) ⟨?_, rfl⟩
    unfold pw
    rw [if_pos he, fq_inv (Nat.pow_pos h0)]
  · have he : ¬ e < 0 := of_decide_eq_false h
    have hn : e = (e.toNat : Int) := by omega
    refine sj_ret (ej_tupD (ad_cons (ej_call c_integer_power (G.le (by decide)) (aj_cons (ej_dat 0) (aj_cons (ej_is (ej_dat 1) (congrArg PyData.int hn)) aj_nil)) (R_pow.mk b e.toNat B hb (by omega))) (ad_cons ej_int ad_nil)) (Nat.le_of_ble_eq_true rfl)) ⟨?_, rfl⟩
    unfold pw
    rw [if_neg he, fq_nat]


abbrev s_is_taken_outward : Stmt := topS 7
theorem sc_is_taken_outward : FnScope ["way", "s", "c", "part"] ["way", "s", "c", "part"] (defScope s_is_taken_outward) := ⟨rfl, rfl, rfl, by decide +kernel, rfl, by decide +kernel, by decide +kernel⟩

theorem c_of_is_taken_outward (T : At K mg "is_taken_outward" s_is_taken_outward ["way", "s", "c", "part"]) : Cal P w K mg base "is_taken_outward" 4 R_outw :=
  cal_at T sc_is_taken_outward (by rintro _ _ _ _ ⟨⟩; rfl) fun f cd0 A out s H E G Γ B r B' hR => by
  obtain ⟨way, s, c, part, B⟩ := hR
  refine sj_when (tj_w (wj_or (tj_eqI G.hu (ej_dat 3) ej_int) fun _ => (wj_or1 (tj_eqS (ej_dat 0) ej_str)))) (fun h => ?_) (fun h => ?_)
  · have h : part = 0 ∨ way = "zero" := by simpa using h
    exact sj_ret ej_bl ⟨by unfold outw; rw [if_pos h], rfl⟩
  · have h : ¬ (part = 0 ∨ way = "zero") := by simpa using h
    unfold outw
    rw [if_neg h]
    refine sj_when (tj_eqS (ej_dat 0) ej_str) (fun h => ?_) (fun h => ?_)
    · exact sj_ret (ej_eqI G.hu (ej_dat 1) ej_int) ⟨by rw [if_pos (of_decide_eq_true h)], rfl⟩
    · rw [if_neg (of_decide_eq_false h)]
      refine sj_when (tj_eqS (ej_dat 0) ej_str) (fun h => ?_) (fun h => ?_)
      · exact sj_ret (ej_eqI G.hu (ej_dat 1) ej_int) ⟨by rw [if_pos (of_decide_eq_true h)], rfl⟩
      · rw [if_neg (of_decide_eq_false h)]
        refine sj_when (tj_eqI G.hu (ej_dat 3) ej_int) (fun h => ?_) (fun h => ?_)
        · exact sj_ret (ej_or (ej_eqS (ej_dat 0) ej_str) fun _ => (ej_one (ej_eqI G.hu (ej_mod (ej_dat 2) ej_int (by decide)) ej_int))) ⟨by rw [if_pos (of_decide_eq_true h)], rfl⟩
        · exact sj_ret (ej_eqI G.hu (ej_dat 3) ej_int) ⟨by rw [if_neg (of_decide_eq_false h)], rfl⟩

abbrev s_power_below : Stmt := topS 8
theorem sc_power_below : FnScope ["base", "one", "n", "d"] ["base", "one"] (defScope s_power_below) := ⟨rfl, rfl, rfl, by decide +kernel, rfl, by decide +kernel, by decide +kernel⟩

theorem c_of_power_below (c_u_power_within : Cal P w K mg base "_power_within" 4 R_within) (T : At K mg "power_below" s_power_below ["base", "one"]) : Cal P w K mg base "power_below" 5 R_pbelow :=
  cal_at T sc_power_below (by rintro _ _ _ _ ⟨⟩; rfl) fun f cd0 A out s H E G Γ B r B' hR => by
  obtain ⟨b, q, k, n, d, B, h2, h0, hq, hn, hd, h1, h3⟩ := hR
  have hn0 : 0 < q.num := by
    have : 0 ≤ q.num := Rat.num_nonneg.mpr (Rat.le_of_lt h0)
    have : q.num ≠ 0 := fun z => absurd h0 (by rw [Rat.num_eq_zero.mp z]; decide)
    omega
  have hd0 := den_pos q
  have eN : q.num = (q.num.toNat : Int) := by omega
  refine sj_unpack [2, 3] G.calm (ej_dat (d := .tuple [.int q.num, .int (q.den : Int)]) 1) (pgs_cons (pg_name (i := 2) G.nd rfl (Or.inl rfl)) (pgs_cons (pg_name (i := 3) G.nd rfl (Or.inl rfl)) pgs_nil)) rfl ?_
  refine sj_when (tj_ge (ej_dat 2) (ej_dat 3)) (fun h => ?_) (fun h => ?_)
  · have hge : (q.den : Int) ≤ q.num := of_decide_eq_true h
    have hk : 0 ≤ k := by
      refine Decidable.byContradiction fun hk => ?_
      have h4 : pw b (k + 1) ≤ pw b 0 := pw_mono h2 (by omega)
      rw [show (0 : Int) = ((0 : Nat) : Int) - (0 : Nat) by omega] at h4
      have := (lt_pw_iff h2 q 0 0).mp (ltle h3 h4)
      rw [Nat.pow_zero] at this; omega
    have ek : k = (k.toNat : Int) := by omega
    have a1 := (pw_le_iff h2 q 0 k.toNat).mp (by rw [show ((k.toNat : Nat) : Int) - (0 : Nat) = k by omega]; exact h1)
    have a3 := (lt_pw_iff h2 q 0 (k.toNat + 1)).mp (by rw [show ((k.toNat + 1 : Nat) : Int) - (0 : Nat) = k + 1 by omega]; exact h3)
    rw [Nat.pow_zero, eN] at a1 a3
    have b1 : q.den * b ^ k.toNat ≤ q.num.toNat := by
      have : ((q.den * b ^ k.toNat : Nat) : Int) ≤ (q.num.toNat : Int) := by rw [Int.natCast_mul]; omega
      omega
    have b3 : q.num.toNat < q.den * b ^ (k.toNat + 1) := by
      have : (q.num.toNat : Int) < ((q.den * b ^ (k.toNat + 1) : Nat) : Int) := by rw [Int.natCast_mul]; omega
      omega
    have hq2 := hq.nu
    have hw : q.num.toNat / q.den < 2 ^ 8900 := by
      unfold Bd at hq2
      have : 2 ^ n ≤ 2 ^ 8900 := Nat.pow_le_pow_right (by decide) hn
      exact Nat.lt_of_le_of_lt (Nat.div_le_self _ _) (by omega)
    have ew : q.num / (q.den : Int) = ((q.num.toNat / q.den : Nat) : Int) := by rw [Int.natCast_ediv, ← eN]
    rw [ek]
    refine sj_ret (ej_call c_u_power_within (G.le (by decide)) (aj_cons (ej_dat 0) (aj_cons (ej_is (ej_fdiv (ej_dat 2) (ej_dat 3) (cdv hq.de hd0 (by omega))) (congrArg PyData.int ew)) aj_nil)) (R_within.mk b _ k.toNat B h2 hw ?_ ?_)) ⟨rfl, rfl⟩
    · exact (Nat.le_div_iff_mul_le q.den_pos).mpr (by rw [Nat.mul_comm]; exact b1)
    · exact (Nat.div_lt_iff_lt_mul q.den_pos).mpr (by rw [Nat.mul_comm]; exact b3)
  · have hlt : q.num < (q.den : Int) := by have := of_decide_eq_false h; omega
    have hk : k < 0 := by
      refine Decidable.byContradiction fun hk => ?_
      have h4 : pw b 0 ≤ pw b k := pw_mono h2 (by omega)
      rw [show (0 : Int) = ((0 : Nat) : Int) - (0 : Nat) by omega] at h4
      have := (pw_le_iff h2 q 0 0).mp (Rat.le_trans h4 h1)
      rw [Nat.pow_zero] at this; omega
    generalize hm : (-1 - k).toNat = m
    have ek : k = -1 - (m : Int) := by omega
    have a1 := (pw_le_iff h2 q (m + 1) 0).mp (by rw [show ((0 : Nat) : Int) - (m + 1 : Nat) = k by omega]; exact h1)
    have a3 := (lt_pw_iff h2 q m 0).mp (by rw [show ((0 : Nat) : Int) - (m : Nat) = k + 1 by omega]; exact h3)
    rw [Nat.pow_zero, eN] at a1 a3
    have b1 : q.den ≤ q.num.toNat * b ^ (m + 1) := by
      have : (q.den : Int) ≤ ((q.num.toNat * b ^ (m + 1) : Nat) : Int) := by rw [Int.natCast_mul]; omega
      omega
    have b3 : q.num.toNat * b ^ m < q.den := by
      have : ((q.num.toNat * b ^ m : Nat) : Int) < (q.den : Int) := by rw [Int.natCast_mul]; omega
      omega
    have hq2 := hq.de
    have hn1 : 0 < q.num.toNat := by omega
    have hw : (q.den - 1) / q.num.toNat < 2 ^ 8900 := by
      unfold Bd at hq2
      rw [Int.natAbs_natCast] at hq2
      have : 2 ^ d ≤ 2 ^ 8900 := Nat.pow_le_pow_right (by decide) hd
      exact Nat.lt_of_le_of_lt (Nat.div_le_self _ _) (by omega)
    have ew : ((q.den : Int) - 1) / q.num = (((q.den - 1) / q.num.toNat : Nat) : Int) := by
      rw [Int.natCast_ediv, ← eN]; congr 1; have := q.den_pos; omega
    rw [ek]
    refine sj_ret (ej_sub (ej_neg ej_int) (ej_call c_u_power_within (G.le (by decide)) (aj_cons (ej_dat 0) (aj_cons (ej_is (ej_fdiv (ej_sub (ej_dat 3) ej_int) (ej_dat 2) (cdv hq.nu hn0 (by omega))) (congrArg PyData.int ew)) aj_nil)) (R_within.mk b _ m B h2 hw ?_ ?_))) ⟨rfl, rfl⟩
    · exact (Nat.le_div_iff_mul_le hn1).mpr (by rw [Nat.mul_comm]; omega)
    · exact (Nat.div_lt_iff_lt_mul hn1).mpr (by rw [Nat.mul_comm]; omega)

abbrev s_u_power_within : Stmt := topS 9
theorem sc_u_power_within : FnScope ["base", "whole", "squares", "power", "k", "left", "square"] ["base", "whole"] (defScope s_u_power_within) := ⟨rfl, rfl, rfl, by decide +kernel, rfl, by decide +kernel, by decide +kernel⟩

theorem c_of_u_power_within (m_rev : mg "reversed" = none) (T : At K mg "_power_within" s_u_power_within ["base", "whole"]) : Cal P w K mg base "_power_within" 4 R_within :=
  cal_at T sc_u_power_within (by rintro _ _ _ _ ⟨⟩; rfl) fun f cd0 A out s H E G Γ B r B' hR => by
  obtain ⟨b, wh, k0, B, h2, hw, h1, h3⟩ := hR
  refine sj_own 2 G.nd (fj_lstD ad_nil (by decide)) (by exact Nat.le_of_ble_eq_true rfl) ?_
  refine ow_set 3 G.nd (by decide) (ej_dat 0) ?_
  refine ow_while (fun Γ' B' acc => ∃ j : Nat, Γ' = [.da (.int b), .da (.int wh), .no, .da (.int ((b ^ 2 ^ j : Nat) : Int)), .no, .no, .no] ∧ B' = B ∧ acc = sqs b j ∧ ∀ i, i < j → b ^ 2 ^ i ≤ wh) (fun Γ' _ _ => (wh + 1 : Nat) - (intAt Γ' 3).toNat)
    ⟨0, by rw [Nat.pow_zero, Nat.pow_one]; rfl, rfl, rfl, fun i hi => absurd hi (by omega)⟩ ?_
  rintro Γ' B' acc ⟨j, rfl, rfl, rfl, hj⟩
  have hj14 := few_sq h2 hw hj
  refine ⟨_, tj_le (ej_dat 3) (ej_dat 1), fun h => ?_, fun h => ?_⟩
  · have hle : b ^ 2 ^ j ≤ wh := by have := of_decide_eq_true h; omega
    have hbd : Bd 8900 ((b ^ 2 ^ j : Nat) : Int) := Bd.nat (Nat.lt_of_le_of_lt hle hw)
    refine ow_app G.nd (ej_dat 3) (by rw [sqs_len]; omega) ?_
    refine ow_set 3 G.nd (by decide) (ej_mul (ej_dat 3) (ej_dat 3) (cmz hbd hbd)) (ow_nil ⟨⟨j + 1, ?_, rfl, sqs_succ b j, fun i hi => ?_⟩, ?_⟩)
    · rw [sq_next]; rfl
    · by_cases e : i = j
      · subst e; exact hle
      · exact hj i (by omega)
    · show (wh + 1 : Nat) - (((b ^ 2 ^ j : Nat) : Int) * ((b ^ 2 ^ j : Nat) : Int)).toNat < (wh + 1 : Nat) - (((b ^ 2 ^ j : Nat) : Int)).toNat
      rw [sq_next, Int.toNat_natCast, Int.toNat_natCast]
      have : b ^ 2 ^ j < b ^ 2 ^ (j + 1) := Nat.pow_lt_pow_right (by omega) (Nat.pow_lt_pow_right (by decide) (by omega))
      omega
  · have hgt : wh < b ^ 2 ^ j := by have := of_decide_eq_false h; omega
    have w1 : 1 ≤ wh := Nat.le_trans (Nat.pow_pos (by omega)) h1
    refine ow_end ?_
    refine sj_par 4 5 G.nd G.calm (aj_cons ej_int (aj_cons (ej_dat 1) aj_nil)) ?_ (by decide) (by rfl)
    refine sj_forRev (ds := sqs b j) 6 G.nd G.calm m_rev (fun i Γ' B2 => ∃ (k l : Nat) (z : VD), Γ' = [.da (.int b), .da (.int wh), .da (.list (sqs b j)), .da (.int ((b ^ 2 ^ j : Nat) : Int)), .da (.int k), .da (.int l), z] ∧ B2 = B' ∧
      l = wh / b ^ (k * 2 ^ (j - i)) ∧ l < b ^ 2 ^ (j - i) ∧ 1 ≤ l) (ej_dat 2) ⟨0, wh, .no, rfl, rfl, by rw [Nat.zero_mul, Nat.pow_zero, Nat.div_one], hgt, w1⟩ (fun i y Γ' B2 hi hy hP => ?_) (fun Γ' B2 hP => ?_)
    · obtain ⟨k, l, z, rfl, rfl, e1, e2, e3⟩ := hP
      rw [sqs_len] at hi hy
      obtain rfl := sqs_at hy
      have em : j - i = (j - 1 - i) + 1 := by omega
      have em' : j - (i + 1) = j - 1 - i := by omega
      rw [em] at e1 e2
      have hbs : Bd 8900 ((b ^ 2 ^ (j - 1 - i) : Nat) : Int) := Bd.nat (Nat.lt_of_le_of_lt (hj _ (by omega)) hw)
      have hps : 0 < b ^ 2 ^ (j - 1 - i) := Nat.pow_pos (by omega)
      refine sj_set 4 G.nd (ej_mulC ej_int (ej_dat 4) (.inl (by decide))) ?_
      refine sj_ifM (fun Γ3 B3 => ∃ (k l : Nat) (z : VD), Γ3 = [.da (.int b), .da (.int wh), .da (.list (sqs b j)), .da (.int ((b ^ 2 ^ j : Nat) : Int)), .da (.int k), .da (.int l), z] ∧ B3 = B2 ∧
        l = wh / b ^ (k * 2 ^ (j - (i + 1))) ∧ l < b ^ 2 ^ (j - (i + 1)) ∧ 1 ≤ l) (tj_le (ej_dat 6) (ej_dat 5)) (fun h => ?_) (fun h => ?_) (fun Γ3 B3 q => sj_nil q)
      · have hs : b ^ 2 ^ (j - 1 - i) ≤ l := by have := of_decide_eq_true h; omega
        obtain ⟨q1, q2, q3⟩ := step_yes h2 e1 e2 e3 hs
        refine sj_set 4 G.nd (ej_add (ej_dat 4) ej_int) ?_
        refine sj_set 5 G.nd (ej_fdiv (ej_dat 5) (ej_dat 6) (cdv hbs (by omega))) (sj_nil ?_)
        rw [em']
        exact ⟨2 * k + 1, l / b ^ 2 ^ (j - 1 - i), _, by rw [← Int.natCast_ediv]; rfl, rfl, q1, q2, q3⟩
      · have hs : ¬ b ^ 2 ^ (j - 1 - i) ≤ l := by have := of_decide_eq_false h; omega
        obtain ⟨q1, q2⟩ := step_no (k := k) e1 hs
        refine sj_nil ?_
        rw [em']
        exact ⟨2 * k, l, _, rfl, rfl, q1, q2, e3⟩
    · obtain ⟨k, l, z, rfl, rfl, e1, e2, e3⟩ := hP
      rw [sqs_len, Nat.sub_self] at e1 e2
      obtain ⟨q1, q2⟩ := log_end h2 e1 e2 e3
      obtain rfl := pow_uniq h2 q1 q2 h1 h3
      exact sj_ret (ej_dat 4) ⟨rfl, rfl⟩

abbrev s_u_twos_in : Stmt := topS 10
theorem sc_u_twos_in : FnScope ["n"] ["n"] (defScope s_u_twos_in) := ⟨rfl, rfl, rfl, by decide +kernel, rfl, by decide +kernel, by decide +kernel⟩

theorem c_of_u_twos_in (T : At K mg "_twos_in" s_u_twos_in ["n"]) : Cal P w K mg base "_twos_in" 1 R_twos :=
  cal_at T sc_u_twos_in (by rintro _ _ _ _ ⟨⟩; rfl) fun f cd0 A out s H E G Γ B r B' hR => by
  obtain ⟨k, a, B⟩ := hR
  exact sj_ret (ej_sub (ej_bits (ej_band (ej_dat 0) (ej_neg (ej_dat 0)))) ej_int) ⟨by rw [tw_low, bits_two], rfl⟩

abbrev s_zero : Stmt := topS 12
theorem sc_zero : FnScope ["form", "s"] ["form", "s"] (defScope s_zero) := ⟨rfl, rfl, rfl, by decide +kernel, rfl, by decide +kernel, by decide +kernel⟩

theorem c_of_zero (T : At K mg "zero" s_zero ["form", "s"]) : Cal P w K mg base "zero" 4 R_zero :=
  cal_at T sc_zero (by rintro _ _ _ _ ⟨⟩; rfl) fun f cd0 A out s H E G Γ B r B' hR => by
  obtain ⟨b, p, low, high, s, B⟩ := hR
  exact sj_ret (ej_tupD (ad_cons ej_str (ad_cons (ej_dat 1) (ad_cons ej_int (ad_cons (ej_at (ej_dat (d := .tuple [.int b, .int p, .int low, .int high]) 0)) ad_nil)))) (Nat.le_of_ble_eq_true rfl)) ⟨rfl, rfl⟩

abbrev s_rounded_root : Stmt := topS 14
theorem sc_rounded_root : FnScope ["form", "way", "x"] ["form", "way", "x"] (defScope s_rounded_root) := ⟨rfl, rfl, rfl, by decide +kernel, rfl, by decide +kernel, by decide +kernel⟩

theorem c_of_rounded_root (c_zero : Cal P w K mg base "zero" 4 R_zero) (c_u_outcome : Cal P w K mg base "_outcome" 6 R_outcome) (c_u_root_spot : Cal P w K mg base "_root_spot" 6 R_rspot) (T : At K mg "rounded_root" s_rounded_root ["form", "way", "x"]) : Cal P w K mg base "rounded_root" 7 R_rroot :=
  cal_at T sc_rounded_root (by rintro _ _ _ _ (_ | _) <;> rfl) fun f cd0 A out s0 H E0 G Γ B r B' hR => by
  cases hR with
  | zero b p low high way B F hw =>
    unfold rtP
    rw [if_pos rfl]
    exact sj_when (x := true) (tj_is (tj_eqI G.hu (ej_at (ej_dat (d := .tuple [.int (0 : Rat).num, .int ((0 : Rat).den : Int)]) 2)) ej_int) rfl) (fun h => sj_ret (ej_tupD (ad_cons (ej_call c_zero (G.le (by decide)) (aj_cons (ej_dat 0) (aj_cons ej_int aj_nil)) (R_zero.mk b p low high 0 B)) (ad_cons (ej_tupD ad_nil (Nat.le_of_ble_eq_true rfl)) ad_nil)) (Nat.le_of_ble_eq_true rfl)) ⟨rfl, rfl⟩) (fun h => Bool.noConfusion h)
  | mk b p low high way q n d B F hw ok =>
    have hq : ¬ q = 0 := fun z => by have := ok.h0; rw [z] at this; exact absurd this (by decide)
    unfold rtP
    rw [if_neg hq]
    exact sj_when (x := false) (tj_is (tj_eqI G.hu (ej_at (ej_dat (d := .tuple [.int q.num, .int (q.den : Int)]) 2)) ej_int) (decide_eq_false fun z => hq (Rat.num_eq_zero.mp z))) (fun h => Bool.noConfusion h) (fun h => sj_ret (ej_call c_u_outcome (G.le (by decide)) (aj_cons (ej_dat 0) (aj_cons (ej_dat 1) (aj_cons ej_int (aj_cons (ej_call c_u_root_spot (G.le (by decide)) (aj_cons (ej_dat 0) (aj_cons (ej_dat 2) aj_nil)) (R_rspot.mk b p low high q n d B F ok)) aj_nil)))) (R_outcome.mk b p low high way 0 _ _ _ B F)) ⟨rfl, rfl⟩)

abbrev s_u_root_spot : Stmt := topS 15
theorem sc_u_root_spot : FnScope ["form", "x", "base", "digits", "low", "_", "e", "n", "d", "c"] ["form", "x"] (defScope s_u_root_spot) := ⟨rfl, rfl, rfl, by decide +kernel, rfl, by decide +kernel, by decide +kernel⟩

theorem c_of_u_root_spot (m_max : mg "max" = none) (m_isqrt : mg "isqrt" = some (.builtin "math.isqrt")) (c_power_below : Cal P w K mg base "power_below" 5 R_pbelow) (c_times : Cal P w K mg base "times" 4 (R_two (· * ·))) (c_power_of : Cal P w K mg base "power_of" 5 R_power_of) (c_u_root_part : Cal P w K mg base "_root_part" 4 R_rpart) (T : At K mg "_root_spot" s_u_root_spot ["form", "x"]) : Cal P w K mg base "_root_spot" 6 R_rspot :=
  cal_at T sc_u_root_spot (by rintro _ _ _ _ ⟨⟩; rfl) fun f cd0 A out s0 H E0 G Γ B r B' hR => by
  obtain ⟨b, p, low, high, q, n, d, B, F, ok⟩ := hR
  have b2 := F.b2; have p2 := F.p2; have p7 := F.p7; have flo := F.lo
  obtain ⟨k, k1, k3⟩ := log_ex b2 ok.h0
  have hE := eR_is (p := p) b2 low ok.h0
  have h0 := Rat.le_of_lt ok.h0
  have hD := DR_bd F ok hE
  have hhi := eR_hi F ok hE
  have hN := NR_bd F hE.1
  have hm := mR_bd F h0 hE
  have hm0 := c_ge b2 h0 (2 * eR b p low q)
  have hlo := hE.1
  refine sj_unpack [2, 3, 4, 5] G.calm (ej_dat (d := .tuple [.int b, .int p, .int low, .int high]) 0) (pgs_cons (pgN 2 G.nd) (pgs_cons (pgN 3 G.nd) (pgs_cons (pgN 4 G.nd) (pgs_cons (pgN 5 G.nd) pgs_nil)))) rfl ?_
  refine sj_set 6 G.nd (ej_is (y := .int (eR b p low q)) (ej_max G.calm m_max (ej_dat 4) (ej_add (ej_sub (ej_fdiv (ej_call c_power_below (G.le (by decide)) (aj_cons (ej_dat 2) (aj_cons (ej_dat 1) aj_nil)) (R_pbelow.mk b q k n d B b2 ok.h0 ok.hq (by have := ok.hn; omega) (by have := ok.hd; omega) k1 k3)) ej_int (cdv (n := 2) (by unfold Bd; decide) (by decide))) (ej_dat 3)) ej_int)) (congrArg PyData.int (eR_of b2 (isR_log b2 k1 k3)).symm)) ?_
  obtain ⟨d1, d2, a1, a2, a3, a4, a5⟩ := two_sizes q.den_pos (Nat.pow_pos (n := (2 * eR b p low q).toNat) (show 0 < b by omega)) hD
  have hc := floor_X b2 (2 * eR b p low q) q
  have hC : Bd 700 (cR b (eR b p low q) q) := by
    have cc := cR_can (p := p) b2 (by omega) h0 hE
    have := F.bp
    unfold Bd
    have := cc.1; have := cc.2.1
    omega
  unfold prR
  have hcR : cR b (eR b p low q) q = ((Float64.isqrt (cQ b (2 * eR b p low q) q).toNat : Nat) : Int) := rfl
  generalize eR b p low q = e at *
  have qx : Qz n d1 q := ⟨ok.hq.nu, Bd.nat a1⟩
  have qp : Qz 4680 d2 (pw b (-(2 * e))) := pw_bd b2 hN (by rw [Int.neg_neg]; exact a2) (by decide) a5
  have qX := qx.mul qp
  have hn := ok.hn
  have bE : Bd 14 e := by unfold Bd; omega
  refine sj_unpack [7, 8] G.calm (ej_call c_times (G.le (by decide)) (aj_cons (ej_dat 1) (aj_cons (ej_call c_power_of (G.le (by decide)) (aj_cons (ej_dat 2) (aj_cons (ej_is (ej_mul (ej_neg ej_int) (ej_dat 6) (cm (n := 2) (by unfold Bd; decide) bE)) (show PyData.int (-2 * e) = .int (-(2 * e)) by congr 1; omega)) aj_nil)) (R_power_of.mk b (-(2 * e)) B (by omega) F.b6 (by omega) (by omega))) aj_nil)) (R_two.mk _ _ _ _ _ _ B qx qp (by omega) (by omega) (by omega))) (pgs_cons (pgN 7 G.nd) (pgs_cons (pgN 8 G.nd) pgs_nil)) rfl ?_
  generalize q * pw b (-(2 * e)) = X at *
  have xd : Bd 8990 (X.den : Int) := qX.de.le (by omega)
  refine sj_set 9 G.nd (ej_is (y := .int (cR b e q)) (ej_isqrt m_isqrt (ej_is (ej_fdiv (ej_dat 7) (ej_dat 8) (cdv xd (den_pos X))) (congrArg PyData.int hc)) hm0 (Nat.lt_of_lt_of_le hm (Nat.pow_le_pow_right (by decide) (by decide)))) (congrArg PyData.int hcR.symm)) ?_
  exact sj_ret (ej_tupD (ad_cons (ej_dat 6) (ad_cons (ej_dat 9) (ad_cons (ej_call c_u_root_part (G.le (by decide)) (aj_cons (ej_dat 9) (aj_cons (ej_dat 7) (aj_cons (ej_dat 8) aj_nil))) (R_rpart.mk _ _ _ B (hC.le (by decide)) (qX.nu.le (by omega)) (xd.le (by decide)))) ad_nil))) (Nat.le_of_ble_eq_true rfl)) ⟨rfl, rfl⟩

abbrev s_u_root_part : Stmt := topS 16
theorem sc_u_root_part : FnScope ["c", "n", "d", "half_way"] ["c", "n", "d"] (defScope s_u_root_part) := ⟨rfl, rfl, rfl, by decide +kernel, rfl, by decide +kernel, by decide +kernel⟩

theorem c_of_u_root_part (T : At K mg "_root_part" s_u_root_part ["c", "n", "d"]) : Cal P w K mg base "_root_part" 4 R_rpart :=
  cal_at T sc_u_root_part (by rintro _ _ _ _ ⟨⟩; rfl) fun f cd0 A out s0 H E0 G Γ B r B' hR => by
  obtain ⟨c, n, d, B, hc, hn, hd⟩ := hR
  have b2 : Bd 2 (2 : Int) := by unfold Bd; decide
  have b4 : Bd 3 (4 : Int) := by unfold Bd; decide
  have h2c : Bd 1404 (2 * c + 1) := ((b2.mul hc).add (show Bd 1 (1 : Int) by unfold Bd; decide)).le (by decide)
  unfold rpN
  refine sj_when (tj_eqI G.hu (ej_mul (ej_mul (ej_dat 0) (ej_dat 0) (cmz hc hc)) (ej_dat 2) (cmz (hc.mul hc) hd)) (ej_dat 1)) (fun h => ?_) (fun h => ?_)
  · rw [if_pos (of_decide_eq_true h)]; exact sj_ret ej_int ⟨rfl, rfl⟩
  rw [if_neg (of_decide_eq_false h)]
  refine sj_set 3 G.nd (ej_mul (ej_mul (ej_add (ej_mul ej_int (ej_dat 0) (cmz b2 hc)) ej_int) (ej_add (ej_mul ej_int (ej_dat 0) (cmz b2 hc)) ej_int) (cmz h2c h2c)) (ej_dat 2) (cmz (h2c.mul h2c) hd)) ?_
  refine sj_when (tj_lt (ej_mul ej_int (ej_dat 1) (cmz b4 hn)) (ej_dat 3)) (fun h => ?_) (fun h => ?_)
  · rw [if_pos (of_decide_eq_true h)]; exact sj_ret ej_int ⟨rfl, rfl⟩
  rw [if_neg (of_decide_eq_false h)]
  refine sj_ret (ej_is (ej_ifV (tj_eqI G.hu (ej_mul ej_int (ej_dat 1) (cmz b4 hn)) (ej_dat 3)) (fun _ => ej_int) fun _ => ej_int) ?_) ⟨rfl, rfl⟩
  by_cases h : 4 * n = (2 * c + 1) * (2 * c + 1) * d
  · rw [if_pos h, decide_eq_true h]; rfl
  · rw [if_neg h, decide_eq_false h]; rfl

abbrev s_u_nearest : Stmt := topS 17
theorem sc_u_nearest : FnScope ["form", "way", "s", "spot", "base", "digits", "_", "e", "c", "part"] ["form", "way", "s", "spot"] (defScope s_u_nearest) := ⟨rfl, rfl, rfl, by decide +kernel, rfl, by decide +kernel, by decide +kernel⟩

theorem c_of_u_nearest (c_is_taken_outward : Cal P w K mg base "is_taken_outward" 4 R_outw) (c_integer_power : Cal P w K mg base "integer_power" 4 R_pow) (T : At K mg "_nearest" s_u_nearest ["form", "way", "s", "spot"]) : Cal P w K mg base "_nearest" 5 R_nearest :=
  cal_at T sc_u_nearest (by rintro _ _ _ _ ⟨⟩; rfl) fun f cd0 A out s H E G Γ B r B' hR => by
  obtain ⟨b, p, low, high, way, s, e, c, part, B, F⟩ := hR
  have b2 := F.b2; have p2 := F.p2; have p7 := F.p7
  refine sj_unpack [4, 5, 6, 6] G.calm (ej_dat (d := .tuple [.int b, .int p, .int low, .int high]) 0) (pgs_cons (pg_name (i := 4) G.nd rfl (Or.inl rfl)) (pgs_cons (pg_name (i := 5) G.nd rfl (Or.inl rfl)) (pgs_cons (pg_name (i := 6) G.nd rfl (Or.inl rfl)) (pgs_cons (pg_name (i := 6) G.nd rfl (Or.inl rfl)) pgs_nil)))) rfl ?_
  refine sj_unpack [7, 8, 9] G.calm (ej_dat (d := .tuple [.int e, .int c, .int part]) 3) (pgs_cons (pg_name (i := 7) G.nd rfl (Or.inl rfl)) (pgs_cons (pg_name (i := 8) G.nd rfl (Or.inl rfl)) (pgs_cons (pg_name (i := 9) G.nd rfl (Or.inl rfl)) pgs_nil))) rfl ?_
  refine sj_when (tj_not (tj_val (ej_call c_is_taken_outward (G.le (by decide)) (aj_cons (ej_dat 1) (aj_cons (ej_dat 2) (aj_cons (ej_dat 8) (aj_cons (ej_dat 9) aj_nil)))) (R_outw.mk way s c part B)))) (fun h => ?_) (fun h => ?_)
  · have ho : outw way s c part = false := by simpa using h
    rw [ho]
    exact sj_ret (ej_tupD (ad_cons ej_str (ad_cons (ej_dat 2) (ad_cons (ej_dat 8) (ad_cons (ej_dat 7) ad_nil)))) (Nat.le_of_ble_eq_true rfl)) ⟨rfl, rfl⟩
  · have ho : outw way s c part = true := by simpa using h
    rw [ho]
    unfold nb upN
    rw [if_pos rfl]
    refine sj_when (tj_eqI G.hu (ej_add (ej_dat 8) ej_int) (ej_call c_integer_power (G.le (by decide)) (aj_cons (ej_dat 4) (aj_cons (ej_dat 5) aj_nil)) (R_pow.mk b p B F.b6 (by omega)))) (fun h => ?_) (fun h => ?_)
    · rw [if_pos (of_decide_eq_true h)]
      have e1 : (p : Int) - 1 = ((p - 1 : Nat) : Int) := by omega
      exact sj_ret (ej_tupD (ad_cons ej_str (ad_cons (ej_dat 2) (ad_cons (ej_call c_integer_power (G.le (by decide)) (aj_cons (ej_dat 4) (aj_cons (ej_is (ej_sub (ej_dat 5) ej_int) (congrArg PyData.int e1)) aj_nil)) (R_pow.mk b (p - 1) B F.b6 (by omega))) (ad_cons (ej_add (ej_dat 7) ej_int) ad_nil)))) (Nat.le_of_ble_eq_true rfl)) ⟨rfl, rfl⟩
    · rw [if_neg (of_decide_eq_false h)]
      exact sj_ret (ej_tupD (ad_cons ej_str (ad_cons (ej_dat 2) (ad_cons (ej_add (ej_dat 8) ej_int) (ad_cons (ej_dat 7) ad_nil)))) (Nat.le_of_ble_eq_true rfl)) ⟨rfl, rfl⟩

abbrev s_u_outcome : Stmt := topS 18
theorem sc_u_outcome : FnScope ["form", "way", "s", "spot", "base", "digits", "_", "high", "number", "c", "part"] ["form", "way", "s", "spot"] (defScope s_u_outcome) := ⟨rfl, rfl, rfl, by decide +kernel, rfl, by decide +kernel, by decide +kernel⟩

theorem c_of_u_outcome (c_u_nearest : Cal P w K mg base "_nearest" 5 R_nearest) (c_u_too_great : Cal P w K mg base "_too_great" 5 R_toog) (c_integer_power : Cal P w K mg base "integer_power" 4 R_pow) (T : At K mg "_outcome" s_u_outcome ["form", "way", "s", "spot"]) : Cal P w K mg base "_outcome" 6 R_outcome :=
  cal_at T sc_u_outcome (by rintro _ _ _ _ ⟨⟩; rfl) fun f cd0 A out s H E G Γ B r B' hR => by
  obtain ⟨b, p, low, high, way, s, e, c, part, B, F⟩ := hR
  have b2 := F.b2; have p2 := F.p2; have p7 := F.p7
  refine sj_unpack [4, 5, 6, 7] G.calm (ej_dat (d := .tuple [.int b, .int p, .int low, .int high]) 0) (pgs_cons (pg_name (i := 4) G.nd rfl (Or.inl rfl)) (pgs_cons (pg_name (i := 5) G.nd rfl (Or.inl rfl)) (pgs_cons (pg_name (i := 6) G.nd rfl (Or.inl rfl)) (pgs_cons (pg_name (i := 7) G.nd rfl (Or.inl rfl)) pgs_nil)))) rfl ?_
  refine sj_set 8 G.nd (ej_call c_u_nearest (G.le (by decide)) (aj_cons (ej_dat 0) (aj_cons (ej_dat 1) (aj_cons (ej_dat 2) (aj_cons (ej_dat 3) aj_nil)))) (R_nearest.mk b p low high way s e c part B F)) ?_
  unfold outP
  generalize (nb b p (outw way s c part) c e).1 = c'
  generalize (nb b p (outw way s c part) c e).2 = e'
  refine sj_when (tj_gt (ej_at (ej_dat (d := .tuple [.str "num", .int s, .int c', .int e']) 8)) (ej_dat 7)) (fun h => ?_) (fun h => ?_)
  · rw [if_pos (of_decide_eq_true h)]
    exact sj_ret (ej_tupD (ad_cons (ej_call c_u_too_great (G.le (by decide)) (aj_cons (ej_dat 0) (aj_cons (ej_dat 1) (aj_cons (ej_dat 2) aj_nil))) (R_toog.mk b p low high way s B F)) (ad_cons (ej_tupD (ad_cons ej_str (ad_cons ej_str ad_nil)) (Nat.le_of_ble_eq_true rfl)) ad_nil)) (Nat.le_of_ble_eq_true rfl)) ⟨rfl, rfl⟩
  · rw [if_neg (of_decide_eq_false h)]
    refine sj_unpack [6, 9, 10] G.calm (ej_dat (d := .tuple [.int e, .int c, .int part]) 3) (pgs_cons (pg_name (i := 6) G.nd rfl (Or.inl rfl)) (pgs_cons (pg_name (i := 9) G.nd rfl (Or.inl rfl)) (pgs_cons (pg_name (i := 10) G.nd rfl (Or.inl rfl)) pgs_nil))) rfl ?_
    refine sj_when (tj_eqI G.hu (ej_dat 10) ej_int) (fun h => ?_) (fun h => ?_)
    · rw [if_pos (of_decide_eq_true h)]
      exact sj_ret (ej_tupD (ad_cons (ej_dat 8) (ad_cons (ej_tupD ad_nil (Nat.le_of_ble_eq_true rfl)) ad_nil)) (Nat.le_of_ble_eq_true rfl)) ⟨rfl, rfl⟩
    · rw [if_neg (of_decide_eq_false h)]
      have e1 : (p : Int) - 1 = ((p - 1 : Nat) : Int) := by omega
      refine sj_when (tj_lt (ej_dat 9) (ej_call c_integer_power (G.le (by decide)) (aj_cons (ej_dat 4) (aj_cons (ej_is (ej_sub (ej_dat 5) ej_int) (congrArg PyData.int e1)) aj_nil)) (R_pow.mk b (p - 1) B F.b6 (by omega)))) (fun h => ?_) (fun h => ?_)
      · rw [if_pos (of_decide_eq_true h)]
        exact sj_ret (ej_tupD (ad_cons (ej_dat 8) (ad_cons (ej_tupD (ad_cons ej_str (ad_cons ej_str ad_nil)) (Nat.le_of_ble_eq_true rfl)) ad_nil)) (Nat.le_of_ble_eq_true rfl)) ⟨rfl, rfl⟩
      · rw [if_neg (of_decide_eq_false h)]
        exact sj_ret (ej_tupD (ad_cons (ej_dat 8) (ad_cons (ej_tupD (ad_cons ej_str ad_nil) (Nat.le_of_ble_eq_true rfl)) ad_nil)) (Nat.le_of_ble_eq_true rfl)) ⟨rfl, rfl⟩

abbrev s_u_too_great : Stmt := topS 19
theorem sc_u_too_great : FnScope ["form", "way", "s", "base", "digits", "_", "high"] ["form", "way", "s"] (defScope s_u_too_great) := ⟨rfl, rfl, rfl, by decide +kernel, rfl, by decide +kernel, by decide +kernel⟩

theorem c_of_u_too_great (c_integer_power : Cal P w K mg base "integer_power" 4 R_pow) (T : At K mg "_too_great" s_u_too_great ["form", "way", "s"]) : Cal P w K mg base "_too_great" 5 R_toog :=
  cal_at T sc_u_too_great (by rintro _ _ _ _ ⟨⟩; rfl) fun f cd0 A out s H E G Γ B r B' hR => by
  obtain ⟨b, p, low, high, way, s, B, F⟩ := hR
  have b2 := F.b2; have p2 := F.p2; have p7 := F.p7
  refine sj_unpack [3, 4, 5, 6] G.calm (ej_dat (d := .tuple [.int b, .int p, .int low, .int high]) 0) (pgs_cons (pg_name (i := 3) G.nd rfl (Or.inl rfl)) (pgs_cons (pg_name (i := 4) G.nd rfl (Or.inl rfl)) (pgs_cons (pg_name (i := 5) G.nd rfl (Or.inl rfl)) (pgs_cons (pg_name (i := 6) G.nd rfl (Or.inl rfl)) pgs_nil)))) rfl ?_
  refine sj_when (x := isInf way s) (tj_is (tj_w (wj_or (tj_inT (ss := ["even", "away"]) (ej_dat 1) (ej_tupD (ad_cons ej_str (ad_cons ej_str ad_nil)) (Nat.le_of_ble_eq_true rfl))) fun _ => wj_or (tj_w (wj_and (tj_eqS (ej_dat 1) ej_str) fun _ => wj_and1 (tj_eqI G.hu (ej_dat 2) ej_int))) fun _ => wj_or1 (tj_w (wj_and (tj_eqS (ej_dat 1) ej_str) fun _ => wj_and1 (tj_eqI G.hu (ej_dat 2) ej_int))))) (isInf_or way s)) (fun h => ?_) (fun h => ?_)
  · exact sj_ret (ej_tupD (ad_cons ej_str (ad_cons (ej_dat 2) ad_nil)) (Nat.le_of_ble_eq_true rfl)) ⟨by unfold tooG; rw [if_pos h], rfl⟩
  · exact sj_ret (ej_tupD (ad_cons ej_str (ad_cons (ej_dat 2) (ad_cons (ej_sub (ej_call c_integer_power (G.le (by decide)) (aj_cons (ej_dat 3) (aj_cons (ej_dat 4) aj_nil)) (R_pow.mk b p B F.b6 (by omega))) ej_int) (ad_cons (ej_dat 6) ad_nil)))) (Nat.le_of_ble_eq_true rfl)) ⟨by unfold tooG; rw [if_neg (by rw [h]; decide)]; rfl, rfl⟩

abbrev s_l_bag : Stmt := topS 21
theorem sc_l_bag : FnScope ["_law_script", "_law_cell"] ["_law_script"] (defScope s_l_bag) := ⟨rfl, rfl, rfl, by decide +kernel, rfl, by decide +kernel, by decide +kernel⟩

theorem c_of_l_bag (m_abs : mg "abs" = none) (T : At K mg "_law_bag" s_l_bag ["_law_script"]) : Cal P w K mg base "_law_bag" 4 R_bag :=
  cal_at T sc_l_bag (by rintro _ _ _ _ ⟨⟩; rfl) fun f cd0 A out s H E G Γ B r B' hR => by
  obtain ⟨ns, B, hl⟩ := hR
  refine sj_ret (ej_lstD (ad_cons ej_int (ad_cons ej_int (ad_cons ej_int (ad_cons (ej_lc (j := 1) (x := "_law_cell") G.nd G.calm (blkOk_by (N := ["_law_script", "_law_cell"]) (sc := defScope s_l_bag) (by decide +kernel)) (fun _ _ _ _ _ => pg_name (i := 1) G.nd rfl (Or.inl rfl))
    (rj_lc (ds := (ns.take 63).map .int) (ys := ((ns.take 63).map absI).map .int) (fun _ => B) (ej_is (ej_sliceScr (ej_var 0 (d := .scr ns) rfl (fun z => nomatch z)) oj_none (oj_some ej_int)) (congrArg PyData.list (cut_head ns 63)))
      (by simp) (by rw [List.length_map, List.length_take]; omega) ?_)) ad_nil)))) (Nat.le_of_ble_eq_true rfl)) ⟨rfl, rfl⟩
  intro i y z hy hz s H C cl fp
  rw [List.getElem?_map] at hy hz
  rw [List.getElem?_map] at hz
  obtain ⟨n, hn, rfl⟩ := Option.map_eq_some_iff.mp hy
  rw [hn] at hz
  cases hz
  exact ej_abs m_abs (ej_dat 1)

abbrev s_l_take : Stmt := topS 22
theorem sc_l_take : FnScope ["_law_bag_here", "_law_many", "_law_cell", "_law_stirred", "_law_value", "_law_begin", "_law_second"] ["_law_bag_here", "_law_many"] (defScope s_l_take) := ⟨rfl, rfl, rfl, by decide +kernel, rfl, by decide +kernel, by decide +kernel⟩

theorem c_of_l_take (m_int : mg "int" = none) (T : At K mg "_law_take" s_l_take ["_law_bag_here", "_law_many"]) : Cal P w K mg base "_law_take" 4 R_take :=
  cal_at T sc_l_take (by rintro _ _ _ _ ⟨⟩; rfl) fun f cd0 A out s H E G Γ B r B' hR => by
  obtain ⟨B, m, hm, hb, hc⟩ := hR
  refine sj_ifM (fun Γ' B2 => B2 = stir B ∧ Γ'[0]? = some .bag ∧ Γ'[1]? = some (.da (.int m)) ∧ Γ'.length = 7) (tj_eqI G.hu (ej_bagAt (k := 0) (ej_bag 0) ej_int rfl (.inl ⟨rfl, rfl⟩) fun _ _ => rfl) ej_int) (fun h => ?_) (fun h => ?_) ?_
  · have hx : B.x = 0 := of_decide_eq_true h
    refine sj_set 2 G.nd (ej_ixL (ej_catL (ej_sliceL (ej_bagAt (k := 3) (ej_bag 0) ej_int rfl (.inr (.inr (.inr ⟨rfl, rfl⟩))) fun _ _ => rfl) (oj_some (ej_bagAt (k := 2) (ej_bag 0) ej_int rfl (.inr (.inr (.inl ⟨rfl, rfl⟩))) fun _ _ => rfl)) oj_none) (ej_lstD (ad_cons ej_int ad_nil) (Nat.le_of_ble_eq_true rfl)) ?_) ej_int (drop_cell B) fun _ _ => rfl) ?_
    · have h63 : B.cs.length ≤ 63 := hc
      show (cutP (B.cs.map PyData.int) (some B.z) none).length + 1 ≤ 1000
      unfold cutP
      rw [List.length_take, List.length_drop, List.length_map]; omega
    refine sj_bagAug (ej_bag 0) ej_int ej_int rfl ?_
    refine sj_ifM (fun Γ' B2 => Γ' = [.bag, .da (.int m), .da (.int (cell B)), .no, .no, .no, .no] ∧ B2 = ⟨if 10 ^ 18 ≤ cell B then cell B else B.x, B.y, B.z + 1, B.cs⟩)
      (tj_ge (ej_dat 2) (ej_pow ej_int ej_int ⟨by decide, by decide, by decide⟩)) (fun h => ?_) (fun h => ?_) ?_
    · refine sj_bagSet (ej_dat 2) (ej_bag 0) ej_int (k := 0) rfl (.inl ⟨rfl, rfl⟩) (sj_nil ⟨rfl, ?_⟩)
      have h' : (10 : Int) ^ 18 ≤ cell B := of_decide_eq_true h
      rw [if_pos h']
    · refine sj_nil ⟨rfl, ?_⟩
      have h' : ¬ (10 : Int) ^ 18 ≤ cell B := of_decide_eq_false h
      rw [if_neg h']
    · rintro Γ2 B2 ⟨rfl, rfl⟩
      refine sj_set 3 G.nd (ej_add (ej_add (ej_mulC (ej_bagAt (k := 1) (ej_bag 0) ej_int rfl (.inr (.inl ⟨rfl, rfl⟩)) fun _ _ => rfl) ej_int (.inr (by decide))) (ej_mod (ej_int1 m_int (ej_dat 2)) ej_int (by decide)))
        (ej_mulC ej_int (ej_bagAt (k := 2) (ej_bag 0) ej_int rfl (.inr (.inr (.inl ⟨rfl, rfl⟩))) fun _ _ => rfl) (.inl (by decide)))) ?_
      refine sj_bagSet (ej_mod (ej_int1 m_int (ej_dat 3)) ej_int (by decide)) (ej_bag 0) ej_int (k := 1) rfl (.inr (.inl ⟨rfl, rfl⟩)) (sj_nil ⟨?_, rfl, rfl, rfl⟩)
      unfold stir
      rw [if_pos hx]
  · refine sj_nil ⟨?_, rfl, rfl, rfl⟩
    unfold stir
    rw [if_neg (of_decide_eq_false h)]
  · rintro Γ2 B2 ⟨rfl, g0, g1, gl⟩
    refine sj_when (tj_gt (ej_bagAt (k := 0) (ej_bag 0 g0) ej_int rfl (.inl ⟨rfl, rfl⟩) fun _ _ => rfl) ej_int) (fun h => ?_) (fun h => ?_)
    · have h' : 0 < (stir B).x := of_decide_eq_true h
      refine sj_set 4 G.nd (ej_mod (ej_int1 m_int (ej_bagAt (k := 0) (ej_bag 0 g0) ej_int rfl (.inl ⟨rfl, rfl⟩) fun _ _ => rfl)) (ej_dat 1 g1) hm) ?_
      have g0' : (Γ2.set 4 (.da (.int ((stir B).x % m))))[0]? = some .bag := by rw [List.getElem?_set_ne (by decide)]; exact g0
      have g1' : (Γ2.set 4 (.da (.int ((stir B).x % m))))[1]? = some (.da (.int m)) := by rw [List.getElem?_set_ne (by decide)]; exact g1
      have g4 : (Γ2.set 4 (.da (.int ((stir B).x % m))))[4]? = some (.da (.int ((stir B).x % m))) := List.getElem?_set_self (by omega)
      refine sj_bagSet (ej_fdiv (ej_int1 m_int (ej_bagAt (k := 0) (ej_bag 0 g0') ej_int rfl (.inl ⟨rfl, rfl⟩) fun _ _ => rfl)) (ej_dat 1 g1') (cdv hb hm)) (ej_bag 0 g0') ej_int (k := 0) rfl (.inl ⟨rfl, rfl⟩) ?_
      refine sj_ret (ej_dat 4 g4) ⟨?_, ?_⟩
      · unfold tkV; rw [if_pos h']
      · unfold tkB; rw [if_pos h']
    · have h' : ¬ 0 < (stir B).x := of_decide_eq_false h
      refine sj_set 5 G.nd (ej_mod (ej_int1 m_int (ej_mulC (ej_add (ej_bagAt (k := 1) (ej_bag 0 g0) ej_int rfl (.inr (.inl ⟨rfl, rfl⟩)) fun _ _ => rfl) ej_int) ej_int (.inr (by decide)))) ej_int (by decide)) ?_
      generalize hbg : (((stir B).y + 1) * 39373) % 1000000007 = bg
      have hb5 : 0 ≤ bg ∧ bg < 1000000007 := by rw [← hbg]; exact ⟨Int.emod_nonneg _ (by decide), Int.emod_lt_of_pos _ (by decide)⟩
      have g5 : (Γ2.set 5 (.da (.int bg)))[5]? = some (.da (.int bg)) := List.getElem?_set_self (by omega)
      refine sj_set 6 G.nd (ej_mod (ej_int1 m_int (ej_mulC (ej_mod (ej_int1 m_int (ej_mulC (ej_dat 5 g5) (ej_dat 5 g5) (.inl (by omega)))) ej_int (by decide)) ej_int (.inr (by decide)))) ej_int (by decide)) ?_
      have g6 : ((Γ2.set 5 (.da (.int bg))).set 6 (.da (.int ((bg * bg) % 998244353 * 30011 % 998244353))))[6]? = some (.da (.int ((bg * bg) % 998244353 * 30011 % 998244353))) := List.getElem?_set_self (by rw [List.length_set]; omega)
      have g1' : ((Γ2.set 5 (.da (.int bg))).set 6 (.da (.int ((bg * bg) % 998244353 * 30011 % 998244353))))[1]? = some (.da (.int m)) := by
        rw [List.getElem?_set_ne (by decide), List.getElem?_set_ne (by decide)]; exact g1
      refine sj_ret (ej_mod (ej_int1 m_int (ej_fdiv (ej_dat 6 g6) ej_int (cdv (show Bd 3 7 from by unfold Bd; decide) (by decide)))) (ej_dat 1 g1') hm) ⟨?_, ?_⟩
      · unfold tkV low; rw [if_neg h', hbg]
      · unfold tkB; rw [if_neg h']

abbrev s_l_some : Stmt := topS 23
theorem sc_l_some : FnScope ["_law_bag_here", "_law_things"] ["_law_bag_here", "_law_things"] (defScope s_l_some) := ⟨rfl, rfl, rfl, by decide +kernel, rfl, by decide +kernel, by decide +kernel⟩

theorem c_of_l_some (m_len : mg "len" = none) (c_l_take : Cal P w K mg base "_law_take" 4 R_take) (T : At K mg "_law_some" s_l_some ["_law_bag_here", "_law_things"]) : Cal P w K mg base "_law_some" 5 R_some :=
  cal_at T sc_l_some (by rintro _ _ _ _ ⟨⟩; rfl) fun f cd0 A out s H E G Γ B r B' hR => by
  obtain ⟨B, ds, h, hl, hc⟩ := hR
  have hb : Bd 8000 (ds.length : Int) := by
    have h10 : ds.length < 2 ^ 10 := by omega
    exact (Bd.nat h10).le (by decide)
  exact sj_ret (ej_ixL (ej_dat 1) (ej_call c_l_take (G.le (by decide)) (aj_cons (ej_bag 0) (aj_cons (ej_lenL m_len (ej_dat 1)) aj_nil)) (R_take.mk B _ (by omega) hb hc)) (pick_at ds B h) fun _ _ => rfl) ⟨rfl, rfl⟩


abbrev s_l_alike : Stmt := topS 24
theorem sc_l_alike : FnScope ["_law_found", "_law_due"] ["_law_found", "_law_due"] (defScope s_l_alike) := ⟨rfl, rfl, rfl, by decide +kernel, rfl, by decide +kernel, by decide +kernel⟩

theorem c_of_l_alike (m_repr : mg "repr" = none) (T : At K mg "_law_alike" s_l_alike ["_law_found", "_law_due"]) : Cal P w K mg base "_law_alike" 4 R_alike :=
  cal_at T sc_l_alike (by rintro _ _ _ _ ⟨⟩; rfl) fun f cd0 A out s H E G Γ B r B' hR => by
  obtain ⟨d, B, h, hb⟩ := hR
  refine sj_ret (ej_and (ej_eq G.hu (ej_dat 0) (ej_dat 1) h.shaped h.shaped) fun _ => (ej_one (ej_eqS (ej_repr G m_repr (ej_dat 0) hb h.shows) (ej_repr G m_repr (ej_dat 1) hb h.shows)))) ⟨?_, rfl⟩
  rw [eqv_refl_of h.shaped, decide_eq_true rfl]; rfl

abbrev s_l_common : Stmt := topS 25
theorem sc_l_common : FnScope ["_law_one", "_law_other"] ["_law_one", "_law_other"] (defScope s_l_common) := ⟨rfl, rfl, rfl, by decide +kernel, rfl, by decide +kernel, by decide +kernel⟩

theorem c_of_l_common (m_abs : mg "abs" = none) (m_int : mg "int" = none) (T : At K mg "_law_common" s_l_common ["_law_one", "_law_other"]) : Cal P w K mg base "_law_common" 4 R_common :=
  cal_at T sc_l_common (by rintro _ _ _ _ ⟨⟩; rfl) fun f cd0 A out s H E G Γ B r B' hR => by
  obtain ⟨n, d, B⟩ := hR
  refine sj_par 0 1 G.nd G.calm (aj_cons (ej_abs m_abs (ej_dat 0)) (aj_cons (ej_abs m_abs (ej_dat 1)) aj_nil)) ?_ (by decide) (by rfl)
  refine sj_while G.nd (fun Γ' B' => ∃ a c : Nat, Γ' = [.da (.int a), .da (.int c)] ∧ Nat.gcd a c = Nat.gcd n.natAbs d.natAbs ∧ B' = B) (fun Γ' _ => (intAt Γ' 1).toNat)
    ⟨n.natAbs, d.natAbs, by rw [absI_nat, absI_nat]; rfl, rfl, rfl⟩ ?_
  rintro Γ' B' ⟨a, c, rfl, hg, rfl⟩
  refine ⟨_, tj_gt (ej_dat 1) ej_int, fun h => ?_, fun h => ?_⟩
  · have hc : 0 < c := by have := of_decide_eq_true h; omega
    refine sj_par 0 1 G.nd G.calm (aj_cons (ej_dat 1) (aj_cons (ej_mod (ej_int1 m_int (ej_dat 0)) (ej_dat 1) (by omega)) aj_nil)) (sj_nil ?_) (by decide) (by rfl)
    rw [← Int.natCast_emod]
    refine ⟨⟨c, a % c, rfl, ?_, rfl⟩, show ((a % c : Nat) : Int).toNat < (c : Int).toNat from ?_⟩
    · rw [← hg, Nat.gcd_comm a c, Nat.gcd_rec c a, Nat.gcd_comm]
    · have := Nat.mod_lt a hc; omega
  · have hc : c = 0 := by have := of_decide_eq_false h; omega
    subst hc
    rw [Nat.gcd_zero_right] at hg
    exact sj_ret (ej_dat 0) ⟨by rw [hg], rfl⟩

abbrev s_l_to : Stmt := topS 26
theorem sc_l_to : FnScope ["_law_base", "_law_n", "_law_found", "_law_factor"] ["_law_base", "_law_n"] (defScope s_l_to) := ⟨rfl, rfl, rfl, by decide +kernel, rfl, by decide +kernel, by decide +kernel⟩

theorem c_of_l_to (m_int : mg "int" = none) (T : At K mg "_law_to" s_l_to ["_law_base", "_law_n"]) : Cal P w K mg base "_law_to" 4 R_pow :=
  cal_at T sc_l_to (by rintro _ _ _ _ ⟨⟩; rfl) fun f cd0 A out s H E G Γ B r B' hR => by
  obtain ⟨b, e, B, hb, he⟩ := hR
  refine sj_par 2 3 G.nd G.calm (aj_cons ej_int (aj_cons (ej_dat 0) aj_nil)) ?_ (by decide) (by rfl)
  refine sj_while G.nd (fun Γ' B' => ∃ k m j : Nat, Γ' = [.da (.int b), .da (.int m), .da (.int ((b ^ j : Nat) : Int)), .da (.int ((b ^ k : Nat) : Int))] ∧ j + k * m = e ∧ B' = B) (fun Γ' _ => (intAt Γ' 1).toNat)
    ⟨1, e, 0, by rw [Nat.pow_one]; rfl, by omega, rfl⟩ ?_
  rintro Γ' B' ⟨k, m, j, rfl, hk, rfl⟩
  refine ⟨_, tj_gt (ej_dat 1) ej_int, fun h => ?_, fun h => ?_⟩
  · have hm : 0 < m := by have := of_decide_eq_true h; omega
    obtain ⟨k1, j1⟩ := k_le hk hm
    refine sj_ifM (fun Γ' B2 => ∃ j' : Nat, Γ' = [.da (.int b), .da (.int m), .da (.int ((b ^ j' : Nat) : Int)), .da (.int ((b ^ k : Nat) : Int))] ∧ j' + (k + k) * (m / 2) = e ∧ B2 = B') (tj_eqI G.hu (ej_mod (ej_int1 m_int (ej_dat 1)) ej_int (by decide)) ej_int) (fun h1 => ?_) (fun h1 => ?_) ?_
    · refine sj_set 2 G.nd (ej_mul (ej_dat 2) (ej_dat 3) (cm (bd_pow j hb) (bd_pow k hb) (by omega))) (sj_nil ?_)
      rw [pow_up]
      exact ⟨j + k, rfl, turn_odd hk (by have := of_decide_eq_true h1; omega), rfl⟩
    · exact sj_nil ⟨j, rfl, turn_even hk (by have := of_decide_eq_false h1; omega), rfl⟩
    · rintro Γ2 B2 ⟨j', rfl, hj', rfl⟩
      refine sj_par 3 1 G.nd G.calm (aj_cons (ej_mul (ej_dat 3) (ej_dat 3) (cm (bd_pow k hb) (bd_pow k hb) (by omega))) (aj_cons (ej_fdiv (ej_int1 m_int (ej_dat 1)) ej_int (cdv (show Bd 2 2 from by unfold Bd; decide) (by decide))) aj_nil)) (sj_nil ?_) (by decide) (by rfl)
      rw [pow_sq, half]
      exact ⟨⟨k + k, m / 2, j', rfl, hj', rfl⟩, show ((m / 2 : Nat) : Int).toNat < (m : Int).toNat by omega⟩
  · have hm : ¬ 0 < m := by have := of_decide_eq_false h; omega
    have := j_end hk hm
    subst this
    exact sj_ret (ej_dat 2) ⟨rfl, rfl⟩

abbrev s_l_over : Stmt := topS 27
theorem sc_l_over : FnScope ["_law_n", "_law_d", "_law_shared"] ["_law_n", "_law_d"] (defScope s_l_over) := ⟨rfl, rfl, rfl, by decide +kernel, rfl, by decide +kernel, by decide +kernel⟩

theorem c_of_l_over (m_int : mg "int" = none) (c_l_common : Cal P w K mg base "_law_common" 4 R_common) (T : At K mg "_law_over" s_l_over ["_law_n", "_law_d"]) : Cal P w K mg base "_law_over" 5 R_reduced :=
  cal_at T sc_l_over (by rintro _ _ _ _ ⟨⟩; rfl) fun f cd0 A out s H E G Γ B r B' hR => by
  obtain ⟨n, d, B, hd, hb⟩ := hR
  have cx : ∀ m, CDivX m (com n d) := fun m => cdx (com_bd hd hb) (com_ne hd)
  refine sj_set 2 G.nd (ej_call c_l_common (G.le (by decide)) (aj_cons (ej_dat 0) (aj_cons (ej_dat 1) aj_nil)) (R_common.mk n d B)) ?_
  refine sj_set 2 G.nd (ej_is (ej_ifI (tj_gt (ej_dat 1) ej_int) (fun _ => (ej_dat 2)) fun _ => (ej_neg (ej_dat 2))) (congrArg PyData.int (com_if (n := n) hd))) ?_
  exact sj_ret (ej_tupD (ad_cons (ej_fdivX (ej_int1 m_int (ej_dat 0)) (ej_dat 2) (cx _)) (ad_cons (ej_fdivX (ej_int1 m_int (ej_dat 1)) (ej_dat 2) (cx _)) ad_nil)) (Nat.le_of_ble_eq_true rfl)) ⟨by rw [red_num hd, red_den hd]; rfl, rfl⟩

abbrev s_l_added : Stmt := topS 28
theorem sc_l_added : FnScope ["_law_x", "_law_y"] ["_law_x", "_law_y"] (defScope s_l_added) := ⟨rfl, rfl, rfl, by decide +kernel, rfl, by decide +kernel, by decide +kernel⟩

theorem c_of_l_added (c_l_over : Cal P w K mg base "_law_over" 5 R_reduced) (T : At K mg "_law_added" s_l_added ["_law_x", "_law_y"]) : Cal P w K mg base "_law_added" 6 (R_two (· + ·)) :=
  cal_at T sc_l_added (by rintro _ _ _ _ ⟨⟩; rfl) fun f cd0 A out s H E G Γ B r B' hR => by
  obtain ⟨n, d, m, c, x, y, B, hx, hy, h1, h2, h3⟩ := hR
  have hne : (x.den : Int) * (y.den : Int) ≠ 0 := Int.mul_ne_zero (den_ne x) (den_ne y)
  exact sj_ret (ej_call c_l_over (G.le (by decide)) (aj_cons (ej_add (ej_mul (ej_at (ej_dat 0)) (ej_at (ej_dat 1)) (cmz hx.nu hy.de)) (ej_mul (ej_at (ej_dat 1)) (ej_at (ej_dat 0)) (cmz hy.nu hx.de)))
    (aj_cons (ej_mul (ej_at (ej_dat 0)) (ej_at (ej_dat 1)) (cmz hx.de hy.de)) aj_nil)) (R_reduced.mk _ _ _ hne ((hx.de.mul hy.de).le (by omega)))) ⟨by rw [add_div], rfl⟩

abbrev s_l_multiplied : Stmt := topS 29
theorem sc_l_multiplied : FnScope ["_law_x", "_law_y"] ["_law_x", "_law_y"] (defScope s_l_multiplied) := ⟨rfl, rfl, rfl, by decide +kernel, rfl, by decide +kernel, by decide +kernel⟩

theorem c_of_l_multiplied (c_l_over : Cal P w K mg base "_law_over" 5 R_reduced) (T : At K mg "_law_multiplied" s_l_multiplied ["_law_x", "_law_y"]) : Cal P w K mg base "_law_multiplied" 6 (R_two (· * ·)) :=
  cal_at T sc_l_multiplied (by rintro _ _ _ _ ⟨⟩; rfl) fun f cd0 A out s H E G Γ B r B' hR => by
  obtain ⟨n, d, m, c, x, y, B, hx, hy, h1, h2, h3⟩ := hR
  have hne : (x.den : Int) * (y.den : Int) ≠ 0 := Int.mul_ne_zero (den_ne x) (den_ne y)
  exact sj_ret (ej_call c_l_over (G.le (by decide)) (aj_cons (ej_mul (ej_at (ej_dat 0)) (ej_at (ej_dat 1)) (cmz hx.nu hy.nu))
    (aj_cons (ej_mul (ej_at (ej_dat 0)) (ej_at (ej_dat 1)) (cmz hx.de hy.de)) aj_nil)) (R_reduced.mk _ _ _ hne ((hx.de.mul hy.de).le (by omega)))) ⟨by rw [mul_div], rfl⟩

abbrev s_l_is_below : Stmt := topS 30
theorem sc_l_is_below : FnScope ["_law_x", "_law_y"] ["_law_x", "_law_y"] (defScope s_l_is_below) := ⟨rfl, rfl, rfl, by decide +kernel, rfl, by decide +kernel, by decide +kernel⟩

theorem c_of_l_is_below (T : At K mg "_law_is_below" s_l_is_below ["_law_x", "_law_y"]) : Cal P w K mg base "_law_is_below" 4 R_below :=
  cal_at T sc_l_is_below (by rintro _ _ _ _ ⟨⟩; rfl) fun f cd0 A out s H E G Γ B r B' hR => by
  obtain ⟨n, d, m, c, x, y, B, hx, hy, h1, h2⟩ := hR
  refine sj_ret (ej_lt (ej_mul (ej_at (ej_dat 0)) (ej_at (ej_dat 1)) (cmz hx.nu hy.de)) (ej_mul (ej_at (ej_dat 1)) (ej_at (ej_dat 0)) (cmz hy.nu hx.de))) ⟨?_, rfl⟩
  congr 1
  by_cases h : x < y
  · rw [decide_eq_true h, decide_eq_true ((Rat.lt_iff x y).mp h)]
  · rw [decide_eq_false h, decide_eq_false fun z => h ((Rat.lt_iff x y).mpr z)]

abbrev s_l_sized : Stmt := topS 31
theorem sc_l_sized : FnScope ["_law_x"] ["_law_x"] (defScope s_l_sized) := ⟨rfl, rfl, rfl, by decide +kernel, rfl, by decide +kernel, by decide +kernel⟩

theorem c_of_l_sized (m_abs : mg "abs" = none) (T : At K mg "_law_sized" s_l_sized ["_law_x"]) : Cal P w K mg base "_law_sized" 4 (R_one fun x => fq (absQ x)) :=
  cal_at T sc_l_sized (by rintro _ _ _ _ ⟨⟩; rfl) fun f cd0 A out s H E G Γ B r B' hR => by
  obtain ⟨x, B⟩ := hR
  refine sj_ret (ej_tupD (ad_cons (ej_abs m_abs (ej_at (ej_dat 0))) (ad_cons (ej_at (ej_dat 0)) ad_nil)) (Nat.le_of_ble_eq_true rfl)) ⟨?_, rfl⟩
  unfold fq
  rw [(absQ_num x).1, (absQ_num x).2]

abbrev s_l_power : Stmt := topS 32
theorem sc_l_power : FnScope ["_law_base", "_law_e"] ["_law_base", "_law_e"] (defScope s_l_power) := ⟨rfl, rfl, rfl, by decide +kernel, rfl, by decide +kernel, by decide +kernel⟩

theorem c_of_l_power (c_l_to : Cal P w K mg base "_law_to" 4 R_pow) (T : At K mg "_law_power" s_l_power ["_law_base", "_law_e"]) : Cal P w K mg base "_law_power" 5 R_power_of :=
  cal_at T sc_l_power (by rintro _ _ _ _ ⟨⟩; rfl) fun f cd0 A out s H E G Γ B r B' hR => by
  obtain ⟨b, e, B, h0, hb, h1, h2⟩ := hR
  refine sj_ret (ej_if (d := .da (fq (pw b e))) (tj_ge (ej_dat 1) ej_int) (fun h => ?_) (fun h => ?_)) ⟨rfl, rfl⟩
  · have he : ¬ e < 0 := by have := of_decide_eq_true h; omega
    have hn : e = (e.toNat : Int) := by omega
    unfold pw
    rw [if_neg he, fq_nat]
    exact ej_tupD (ad_cons (ej_call c_l_to (G.le (by decide)) (aj_cons (ej_dat 0) (aj_cons (ej_is (ej_dat 1) (congrArg PyData.int hn)) aj_nil)) (R_pow.mk b e.toNat B hb (by omega))) (ad_cons ej_int ad_nil)) (Nat.le_of_ble_eq_true rfl)
  · have he : e < 0 := by have := of_decide_eq_false h; omega
    have hn : -e = ((-e).toNat : Int) := by omega
    unfold pw
    rw [if_pos he, fq_inv (Nat.pow_pos h0)]
    exact ej_tupD (ad_cons ej_int (ad_cons (ej_call c_l_to (G.le (by decide)) (aj_cons (ej_dat 0) (aj_cons (ej_is (ej_neg (ej_dat 1)) (congrArg PyData.int hn)) aj_nil)) (R_pow.mk b (-e).toNat B hb (by omega))) ad_nil)) (Nat.le_of_ble_eq_true rfl)

abbrev s_l_worth : Stmt := topS 33
theorem sc_l_worth : FnScope ["_law_form", "_law_number_here", "_law_size"] ["_law_form", "_law_number_here"] (defScope s_l_worth) := ⟨rfl, rfl, rfl, by decide +kernel, rfl, by decide +kernel, by decide +kernel⟩

theorem c_of_l_worth (c_l_multiplied : Cal P w K mg base "_law_multiplied" 6 (R_two (· * ·))) (c_l_power : Cal P w K mg base "_law_power" 5 R_power_of) (T : At K mg "_law_worth" s_l_worth ["_law_form", "_law_number_here"]) : Cal P w K mg base "_law_worth" 7 R_worth :=
  cal_at T sc_l_worth (by rintro _ _ _ _ ⟨⟩; rfl) fun f cd0 A out s H E G Γ B r B' hR => by
  obtain ⟨b, p, low, high, s, c, e, B, F, hv⟩ := hR
  obtain ⟨h1, h3, h4, h5, h6⟩ := hv
  have b2 := F.b2; have bp := F.bp; have lo := F.lo; have hi := F.hi
  have hc : Qz 700 1 (c : Rat) := ⟨by rw [Rat.num_intCast]; unfold Bd; omega, by rw [Rat.den_intCast]; unfold Bd; decide⟩
  refine sj_set 2 G.nd (ej_call c_l_multiplied (G.le (by decide)) (aj_cons (ej_is (y := fq (c : Rat)) (ej_tupD (ad_cons (ej_at (ej_dat (d := .tuple [.str "num", .int s, .int c, .int e]) 1)) (ad_cons ej_int ad_nil)) (Nat.le_of_ble_eq_true rfl)) (fq_int c).symm)
    (aj_cons (ej_call c_l_power (G.le (by decide)) (aj_cons (ej_at (ej_dat (d := .tuple [.int b, .int p, .int low, .int high]) 0)) (aj_cons (ej_at (ej_dat (d := .tuple [.str "num", .int s, .int c, .int e]) 1)) aj_nil)) (R_power_of.mk b e B (by omega) F.b6 (by omega) (by omega))) aj_nil))
    (R_two.mk _ _ _ _ _ _ B hc (F.qz h5 h6) (by decide) (by decide) (by decide))) ?_
  generalize hq : (c : Rat) * pw b e = q
  refine sj_ret (ej_if (d := .da (fq (Va.wQ b (.num s c e)))) (tj_eqI G.hu (ej_at (ej_dat (d := .tuple [.str "num", .int s, .int c, .int e]) 1)) ej_int) (fun h => ?_) (fun h => ?_)) ⟨rfl, rfl⟩
  · have e1 : Va.wQ b (.num s c e) = -q := by
      show ((if s = 1 then -c else c : Int) : Rat) * pw b e = -q
      rw [if_pos (of_decide_eq_true h), Rat.intCast_neg, ← hq]; grind
    have e2 : fq (-q) = .tuple [.int (-q.num), .int (q.den : Int)] := by unfold fq; rw [Rat.neg_num, Rat.neg_den]
    rw [e1, e2]
    exact ej_tupD (ad_cons (ej_neg (ej_at (ej_dat (d := .tuple [.int q.num, .int (q.den : Int)]) 2))) (ad_cons (ej_at (ej_dat (d := .tuple [.int q.num, .int (q.den : Int)]) 2)) ad_nil)) (Nat.le_of_ble_eq_true rfl)
  · have e1 : Va.wQ b (.num s c e) = q := by
      show ((if s = 1 then -c else c : Int) : Rat) * pw b e = q
      rw [if_neg (of_decide_eq_false h), ← hq]
    rw [e1]; exact ej_dat 2

abbrev s_l_formats : Stmt := topS 34
theorem sc_l_formats : FnScope ["_law_bag_here", "_law_small"] ["_law_bag_here"] (defScope s_l_formats) := ⟨rfl, rfl, rfl, by decide +kernel, rfl, by decide +kernel, by decide +kernel⟩

theorem c_of_l_formats (c_l_some : Cal P w K mg base "_law_some" 5 R_some) (T : At K mg "_law_formats" s_l_formats ["_law_bag_here"]) : Cal P w K mg base "_law_formats" 6 (R_fmt smallV smallB) :=
  cal_at T sc_l_formats (by rintro _ _ _ _ ⟨⟩; rfl) fun f cd0 A out s H E G Γ B r B' hR => by
  obtain ⟨B, hc⟩ := hR
  refine sj_set 1 G.nd (ej_is (y := .list (([(2, 2, 0, 0), (2, 2, -3, 2), (2, 3, -4, 3), (4, 2, -2, 1), (10, 2, -2, 1), (6, 2, -1, 2), (2, 4, -2, 2)] : List F4).map F4.d)) (ej_lstD (ad_cons (ej_tupD (ad_cons ej_int (ad_cons ej_int (ad_cons ej_int (ad_cons ej_int ad_nil)))) (Nat.le_of_ble_eq_true rfl)) (ad_cons (ej_tupD (ad_cons ej_int (ad_cons ej_int (ad_cons (ej_neg ej_int) (ad_cons ej_int ad_nil)))) (Nat.le_of_ble_eq_true rfl)) (ad_cons (ej_tupD (ad_cons ej_int (ad_cons ej_int (ad_cons (ej_neg ej_int) (ad_cons ej_int ad_nil)))) (Nat.le_of_ble_eq_true rfl)) (ad_cons (ej_tupD (ad_cons ej_int (ad_cons ej_int (ad_cons (ej_neg ej_int) (ad_cons ej_int ad_nil)))) (Nat.le_of_ble_eq_true rfl)) (ad_cons (ej_tupD (ad_cons ej_int (ad_cons ej_int (ad_cons (ej_neg ej_int) (ad_cons ej_int ad_nil)))) (Nat.le_of_ble_eq_true rfl)) (ad_cons (ej_tupD (ad_cons ej_int (ad_cons ej_int (ad_cons (ej_neg ej_int) (ad_cons ej_int ad_nil)))) (Nat.le_of_ble_eq_true rfl)) (ad_cons (ej_tupD (ad_cons ej_int (ad_cons ej_int (ad_cons (ej_neg ej_int) (ad_cons ej_int ad_nil)))) (Nat.le_of_ble_eq_true rfl)) ad_nil))))))) (Nat.le_of_ble_eq_true rfl)) rfl) ?_
  have r := R_some.mk B (smallF.map F4.d) (by decide) (by decide) hc
  rw [pick_fm smallF B (by decide)] at r
  exact sj_ret (ej_call c_l_some (G.le (by decide)) (aj_cons (ej_bag 0) (aj_cons (ej_is (y := .list (smallF.map F4.d)) (ej_catL (ej_dat 1) (ej_lstD (ad_cons (ej_tupD (ad_cons ej_int (ad_cons ej_int (ad_cons ej_int (ad_cons ej_int ad_nil)))) (Nat.le_of_ble_eq_true rfl)) (ad_cons (ej_tupD (ad_cons ej_int (ad_cons ej_int (ad_cons ej_int (ad_cons ej_int ad_nil)))) (Nat.le_of_ble_eq_true rfl)) (ad_cons (ej_tupD (ad_cons ej_int (ad_cons ej_int (ad_cons (ej_neg ej_int) (ad_cons (ej_neg ej_int) ad_nil)))) (Nat.le_of_ble_eq_true rfl)) ad_nil))) (Nat.le_of_ble_eq_true rfl)) (Nat.le_of_ble_eq_true rfl)) rfl) aj_nil)) r) ⟨rfl, rfl⟩

abbrev s_l_wide_format : Stmt := topS 35
theorem sc_l_wide_format : FnScope ["_law_bag_here", "_law_some_here", "_law_far"] ["_law_bag_here"] (defScope s_l_wide_format) := ⟨rfl, rfl, rfl, by decide +kernel, rfl, by decide +kernel, by decide +kernel⟩

theorem c_of_l_wide_format (c_l_some : Cal P w K mg base "_law_some" 5 R_some) (c_l_take : Cal P w K mg base "_law_take" 4 R_take) (T : At K mg "_law_wide_format" s_l_wide_format ["_law_bag_here"]) : Cal P w K mg base "_law_wide_format" 6 (R_fmt wideV wideB) :=
  cal_at T sc_l_wide_format (by rintro _ _ _ _ ⟨⟩; rfl) fun f cd0 A out s H E G Γ B r B' hR => by
  obtain ⟨B, hc⟩ := hR
  refine sj_set 1 G.nd (ej_is (y := .list (([(2, 24, -149, 104), (2, 11, -24, 5), (10, 7, -101, 90), (36, 3, -5, 4), (16, 6, -70, 57), (10, 34, -60, 40)] : List F4).map F4.d)) (ej_lstD (ad_cons (ej_tupD (ad_cons ej_int (ad_cons ej_int (ad_cons (ej_neg ej_int) (ad_cons ej_int ad_nil)))) (Nat.le_of_ble_eq_true rfl)) (ad_cons (ej_tupD (ad_cons ej_int (ad_cons ej_int (ad_cons (ej_neg ej_int) (ad_cons ej_int ad_nil)))) (Nat.le_of_ble_eq_true rfl)) (ad_cons (ej_tupD (ad_cons ej_int (ad_cons ej_int (ad_cons (ej_neg ej_int) (ad_cons ej_int ad_nil)))) (Nat.le_of_ble_eq_true rfl)) (ad_cons (ej_tupD (ad_cons ej_int (ad_cons ej_int (ad_cons (ej_neg ej_int) (ad_cons ej_int ad_nil)))) (Nat.le_of_ble_eq_true rfl)) (ad_cons (ej_tupD (ad_cons ej_int (ad_cons ej_int (ad_cons (ej_neg ej_int) (ad_cons ej_int ad_nil)))) (Nat.le_of_ble_eq_true rfl)) (ad_cons (ej_tupD (ad_cons ej_int (ad_cons ej_int (ad_cons (ej_neg ej_int) (ad_cons ej_int ad_nil)))) (Nat.le_of_ble_eq_true rfl)) ad_nil)))))) (Nat.le_of_ble_eq_true rfl)) rfl) ?_
  refine sj_set 1 G.nd (ej_is (y := .list ((([(2, 24, -149, 104), (2, 11, -24, 5), (10, 7, -101, 90), (36, 3, -5, 4), (16, 6, -70, 57), (10, 34, -60, 40)] : List F4) ++ ([(2, 8, -133, 120), (20, 2, 0, 3), (10, 16, -98, 69), (2, 53, -120, 60), (10, 20, 5, 60)] : List F4)).map F4.d)) (ej_catL (ej_dat 1) (ej_lstD (ad_cons (ej_tupD (ad_cons ej_int (ad_cons ej_int (ad_cons (ej_neg ej_int) (ad_cons ej_int ad_nil)))) (Nat.le_of_ble_eq_true rfl)) (ad_cons (ej_tupD (ad_cons ej_int (ad_cons ej_int (ad_cons ej_int (ad_cons ej_int ad_nil)))) (Nat.le_of_ble_eq_true rfl)) (ad_cons (ej_tupD (ad_cons ej_int (ad_cons ej_int (ad_cons (ej_neg ej_int) (ad_cons ej_int ad_nil)))) (Nat.le_of_ble_eq_true rfl)) (ad_cons (ej_tupD (ad_cons ej_int (ad_cons ej_int (ad_cons (ej_neg ej_int) (ad_cons ej_int ad_nil)))) (Nat.le_of_ble_eq_true rfl)) (ad_cons (ej_tupD (ad_cons ej_int (ad_cons ej_int (ad_cons ej_int (ad_cons ej_int ad_nil)))) (Nat.le_of_ble_eq_true rfl)) ad_nil))))) (Nat.le_of_ble_eq_true rfl)) (Nat.le_of_ble_eq_true rfl)) rfl) ?_
  refine sj_set 1 G.nd (ej_is (y := .list (worldF.map F4.d)) (ej_catL (ej_dat 1) (ej_lstD (ad_cons (ej_tupD (ad_cons ej_int (ad_cons ej_int (ad_cons (ej_neg ej_int) (ad_cons (ej_neg ej_int) ad_nil)))) (Nat.le_of_ble_eq_true rfl)) (ad_cons (ej_tupD (ad_cons ej_int (ad_cons ej_int (ad_cons (ej_neg ej_int) (ad_cons ej_int ad_nil)))) (Nat.le_of_ble_eq_true rfl)) (ad_cons (ej_tupD (ad_cons ej_int (ad_cons ej_int (ad_cons ej_int (ad_cons ej_int ad_nil)))) (Nat.le_of_ble_eq_true rfl)) ad_nil))) (Nat.le_of_ble_eq_true rfl)) (Nat.le_of_ble_eq_true rfl)) rfl) ?_
  refine sj_set 2 G.nd (ej_is (y := .list (([(2, 53, -1074, 971), (10, 16, -398, 369), (36, 120, -200, 200), (2, 120, -1200, 1080), (10, 100, -700, 700)] : List F4).map F4.d)) (ej_lstD (ad_cons (ej_tupD (ad_cons ej_int (ad_cons ej_int (ad_cons (ej_neg ej_int) (ad_cons ej_int ad_nil)))) (Nat.le_of_ble_eq_true rfl)) (ad_cons (ej_tupD (ad_cons ej_int (ad_cons ej_int (ad_cons (ej_neg ej_int) (ad_cons ej_int ad_nil)))) (Nat.le_of_ble_eq_true rfl)) (ad_cons (ej_tupD (ad_cons ej_int (ad_cons ej_int (ad_cons (ej_neg ej_int) (ad_cons ej_int ad_nil)))) (Nat.le_of_ble_eq_true rfl)) (ad_cons (ej_tupD (ad_cons ej_int (ad_cons ej_int (ad_cons (ej_neg ej_int) (ad_cons ej_int ad_nil)))) (Nat.le_of_ble_eq_true rfl)) (ad_cons (ej_tupD (ad_cons ej_int (ad_cons ej_int (ad_cons (ej_neg ej_int) (ad_cons ej_int ad_nil)))) (Nat.le_of_ble_eq_true rfl)) ad_nil))))) (Nat.le_of_ble_eq_true rfl)) rfl) ?_
  refine sj_set 2 G.nd (ej_is (y := .list (farF.map F4.d)) (ej_catL (ej_dat 2) (ej_lstD (ad_cons (ej_tupD (ad_cons ej_int (ad_cons ej_int (ad_cons (ej_neg ej_int) (ad_cons ej_int ad_nil)))) (Nat.le_of_ble_eq_true rfl)) (ad_cons (ej_tupD (ad_cons ej_int (ad_cons ej_int (ad_cons (ej_neg ej_int) (ad_cons ej_int ad_nil)))) (Nat.le_of_ble_eq_true rfl)) (ad_cons (ej_tupD (ad_cons ej_int (ad_cons ej_int (ad_cons (ej_neg ej_int) (ad_cons ej_int ad_nil)))) (Nat.le_of_ble_eq_true rfl)) ad_nil))) (Nat.le_of_ble_eq_true rfl)) (Nat.le_of_ble_eq_true rfl)) rfl) ?_
  unfold wideV wideB
  have hc4 := tkB_ok hc 4
  by_cases h : 0 < tkV B 4
  · rw [if_pos h, if_pos h]
    have r := R_some.mk (tkB B 4) (worldF.map F4.d) (by decide) (by decide) hc4
    rw [pick_fm worldF (tkB B 4) (by decide)] at r
    exact sj_ret (ej_call c_l_some (G.le (by decide)) (aj_cons (ej_bag 0) (aj_cons (ej_if (x := true) (d := .da (.list (worldF.map F4.d))) (tj_is (tj_gt (ej_call c_l_take (G.le (by decide)) (aj_cons (ej_bag 0) (aj_cons ej_int aj_nil)) (R_take.mk B 4 (by decide) (by unfold Bd; decide +kernel) hc)) ej_int) (decide_eq_true h)) (fun _ => ej_dat 1) (fun h => Bool.noConfusion h)) aj_nil)) r) ⟨rfl, rfl⟩
  · rw [if_neg h, if_neg h]
    have r := R_some.mk (tkB B 4) (farF.map F4.d) (by decide) (by decide) hc4
    rw [pick_fm farF (tkB B 4) (by decide)] at r
    exact sj_ret (ej_call c_l_some (G.le (by decide)) (aj_cons (ej_bag 0) (aj_cons (ej_if (x := false) (d := .da (.list (farF.map F4.d))) (tj_is (tj_gt (ej_call c_l_take (G.le (by decide)) (aj_cons (ej_bag 0) (aj_cons ej_int aj_nil)) (R_take.mk B 4 (by decide) (by unfold Bd; decide +kernel) hc)) ej_int) (decide_eq_false h)) (fun h => Bool.noConfusion h) (fun _ => ej_dat 2)) aj_nil)) r) ⟨rfl, rfl⟩

abbrev s_l_any_format : Stmt := topS 36
theorem sc_l_any_format : FnScope ["_law_bag_here"] ["_law_bag_here"] (defScope s_l_any_format) := ⟨rfl, rfl, rfl, by decide +kernel, rfl, by decide +kernel, by decide +kernel⟩

theorem c_of_l_any_format (c_l_take : Cal P w K mg base "_law_take" 4 R_take) (c_l_formats : Cal P w K mg base "_law_formats" 6 (R_fmt smallV smallB)) (c_l_wide_format : Cal P w K mg base "_law_wide_format" 6 (R_fmt wideV wideB))
    (T : At K mg "_law_any_format" s_l_any_format ["_law_bag_here"]) : Cal P w K mg base "_law_any_format" 7 (R_fmt afV afB) :=
  cal_at T sc_l_any_format (by rintro _ _ _ _ ⟨⟩; rfl) fun f cd0 A out s H E G Γ B r B' hR => by
  obtain ⟨B, hc⟩ := hR
  have hc3 := tkB_ok hc 3
  unfold afV afB
  by_cases h : 0 < tkV B 3
  · rw [if_pos h, if_pos h]
    exact sj_ret (ej_if (x := true) (tj_is (tj_gt (ej_call c_l_take (G.le (by decide)) (aj_cons (ej_bag 0) (aj_cons ej_int aj_nil)) (R_take.mk B 3 (by decide) (by unfold Bd; decide +kernel) hc)) ej_int) (decide_eq_true h)) (fun _ => ej_call c_l_formats (G.le (by decide)) (aj_cons (ej_bag 0) aj_nil) (R_fmt.mk _ hc3)) (fun h => Bool.noConfusion h)) ⟨rfl, rfl⟩
  · rw [if_neg h, if_neg h]
    exact sj_ret (ej_if (x := false) (tj_is (tj_gt (ej_call c_l_take (G.le (by decide)) (aj_cons (ej_bag 0) (aj_cons ej_int aj_nil)) (R_take.mk B 3 (by decide) (by unfold Bd; decide +kernel) hc)) ej_int) (decide_eq_false h)) (fun h => Bool.noConfusion h) (fun _ => ej_call c_l_wide_format (G.le (by decide)) (aj_cons (ej_bag 0) aj_nil) (R_fmt.mk _ hc3))) ⟨rfl, rfl⟩

abbrev s_l_edges : Stmt := topS 37
theorem sc_l_edges : FnScope ["_law_form", "_law_base", "_law_digits", "_law_low", "_law_high", "_law_lead", "_law_most", "_law_found"] ["_law_form"] (defScope s_l_edges) := ⟨rfl, rfl, rfl, by decide +kernel, rfl, by decide +kernel, by decide +kernel⟩

theorem c_of_l_edges (c_l_to : Cal P w K mg base "_law_to" 4 R_pow) (T : At K mg "_law_edges" s_l_edges ["_law_form"]) : Cal P w K mg base "_law_edges" 5 R_edges :=
  cal_at T sc_l_edges (by rintro _ _ _ _ ⟨⟩; rfl) fun f cd0 A out s H E G Γ B r B' hR => by
  obtain ⟨b, p, low, high, B, F⟩ := hR
  have p2 := F.p2; have p7 := F.p7
  have e1 : (p : Int) - 1 = ((p - 1 : Nat) : Int) := by omega
  refine sj_unpack [1, 2, 3, 4] G.calm (ej_dat (d := .tuple [.int b, .int p, .int low, .int high]) 0) (pgs_cons (pg_name (i := 1) G.nd rfl (Or.inl rfl)) (pgs_cons (pg_name (i := 2) G.nd rfl (Or.inl rfl)) (pgs_cons (pg_name (i := 3) G.nd rfl (Or.inl rfl)) (pgs_cons (pg_name (i := 4) G.nd rfl (Or.inl rfl)) pgs_nil)))) rfl ?_
  refine sj_par 5 6 G.nd G.calm (aj_cons (ej_call c_l_to (G.le (by decide)) (aj_cons (ej_dat 1) (aj_cons (ej_is (ej_sub (ej_dat 2) ej_int) (congrArg PyData.int e1)) aj_nil)) (R_pow.mk b (p - 1) B F.b6 (by omega))) (aj_cons (ej_sub (ej_call c_l_to (G.le (by decide)) (aj_cons (ej_dat 1) (aj_cons (ej_dat 2) aj_nil)) (R_pow.mk b p B F.b6 (by omega))) ej_int) aj_nil)) ?_ (by decide) (by rfl)
  refine sj_set 7 G.nd (ej_lstD (ad_cons (ej_tupD (ad_cons ej_str (ad_cons ej_int (ad_cons ej_int (ad_cons (ej_dat 3) ad_nil)))) (Nat.le_of_ble_eq_true rfl)) (ad_cons (ej_tupD (ad_cons ej_str (ad_cons ej_int (ad_cons ej_int (ad_cons (ej_dat 3) ad_nil)))) (Nat.le_of_ble_eq_true rfl)) (ad_cons (ej_tupD (ad_cons ej_str (ad_cons ej_int (ad_cons (ej_sub (ej_dat 5) ej_int) (ad_cons (ej_dat 3) ad_nil)))) (Nat.le_of_ble_eq_true rfl)) (ad_cons (ej_tupD (ad_cons ej_str (ad_cons ej_int (ad_cons (ej_dat 5) (ad_cons (ej_dat 3) ad_nil)))) (Nat.le_of_ble_eq_true rfl)) ad_nil)))) (Nat.le_of_ble_eq_true rfl)) ?_
  refine sj_set 7 G.nd (ej_catL (ej_dat 7) (ej_lstD (ad_cons (ej_tupD (ad_cons ej_str (ad_cons ej_int (ad_cons (ej_add (ej_dat 5) ej_int) (ad_cons (ej_dat 3) ad_nil)))) (Nat.le_of_ble_eq_true rfl)) (ad_cons (ej_tupD (ad_cons ej_str (ad_cons ej_int (ad_cons (ej_dat 6) (ad_cons (ej_dat 3) ad_nil)))) (Nat.le_of_ble_eq_true rfl)) (ad_cons (ej_tupD (ad_cons ej_str (ad_cons ej_int (ad_cons (ej_dat 5) (ad_cons (ej_dat 4) ad_nil)))) (Nat.le_of_ble_eq_true rfl)) (ad_cons (ej_tupD (ad_cons ej_str (ad_cons ej_int (ad_cons (ej_dat 6) (ad_cons (ej_dat 4) ad_nil)))) (Nat.le_of_ble_eq_true rfl)) ad_nil)))) (Nat.le_of_ble_eq_true rfl)) (Nat.le_of_ble_eq_true rfl)) ?_
  exact sj_ret (ej_catL (ej_dat 7) (ej_lstD (ad_cons (ej_tupD (ad_cons ej_str (ad_cons ej_int (ad_cons (ej_sub (ej_dat 6) ej_int) (ad_cons (ej_dat 4) ad_nil)))) (Nat.le_of_ble_eq_true rfl)) (ad_cons (ej_tupD (ad_cons ej_str (ad_cons ej_int (ad_cons (ej_add (ej_dat 5) (ej_fdiv (ej_dat 5) ej_int (cdv (show Bd 2 2 from by unfold Bd; decide) (by decide)))) (ad_cons (ej_dat 4) ad_nil)))) (Nat.le_of_ble_eq_true rfl)) ad_nil)) (Nat.le_of_ble_eq_true rfl)) (Nat.le_of_ble_eq_true rfl)) ⟨rfl, rfl⟩

abbrev s_l_number : Stmt := topS 38
theorem sc_l_number : FnScope ["_law_bag_here", "_law_form", "_law_base", "_law_digits", "_law_low", "_law_high", "_law_way", "_law_s", "_law_number_here", "_law_e", "_law_lead", "_law_c"] ["_law_bag_here", "_law_form"] (defScope s_l_number) := ⟨rfl, rfl, rfl, by decide +kernel, rfl, by decide +kernel, by decide +kernel⟩

theorem c_of_l_number (m_min : mg "min" = none) (m_max : mg "max" = none) (c_l_take : Cal P w K mg base "_law_take" 4 R_take) (c_l_some : Cal P w K mg base "_law_some" 5 R_some) (c_l_edges : Cal P w K mg base "_law_edges" 5 R_edges) (c_l_to : Cal P w K mg base "_law_to" 4 R_pow)
    (T : At K mg "_law_number" s_l_number ["_law_bag_here", "_law_form"]) : Cal P w K mg base "_law_number" 6 (R_draw numV numB) :=
  cal_at T sc_l_number (by rintro _ _ _ _ ⟨⟩; rfl) fun f cd0 A out s H E G Γ B r B' hR => by
  obtain ⟨b, p, low, high, B, F, hc⟩ := hR
  have p2 := F.p2; have p7 := F.p7; have lh := F.lh; have lo := F.lo; have hi := F.hi; have bp := F.bp
  have e1 : (p : Int) - 1 = ((p - 1 : Nat) : Int) := by omega
  obtain ⟨l2, ge, ee⟩ := lf F
  have hfl : Bd 8000 (full b p - lead b p) := by
    have : full b p = ((b ^ p : Nat) : Int) := rfl
    exact Bd.le (n := 700) (by unfold Bd; omega) (by decide)
  have hld : Bd 8000 (lead b p) := by
    have : full b p = ((b ^ p : Nat) : Int) := rfl
    exact Bd.le (n := 700) (by unfold Bd; omega) (by decide)
  have hhl : Bd 8000 (high - low + 1) := Bd.le (n := 12) (by unfold Bd; omega) (by decide)
  have mkT : ∀ (B : Bag) (m : Int), 0 < m → Bd 8000 m → Bok B → R_take [.bag, .da (.int m)] B (.int (tkV B m)) (tkB B m) := fun B m h1 h2 h3 => R_take.mk B m h1 h2 h3
  have t6 := mkT B 6 (by decide) (by unfold Bd; decide +kernel) hc
  have hc6 := tkB_ok hc 6
  have t2 := mkT (tkB B 6) 2 (by decide) (by unfold Bd; decide +kernel) hc6
  have hc2 : Bok (numB2 B) := numB2_ok hc
  refine sj_unpack [2, 3, 4, 5] G.calm (ej_dat (d := .tuple [.int b, .int p, .int low, .int high]) 1) (pgs_cons (pg_name (i := 2) G.nd rfl (Or.inl rfl)) (pgs_cons (pg_name (i := 3) G.nd rfl (Or.inl rfl)) (pgs_cons (pg_name (i := 4) G.nd rfl (Or.inl rfl)) (pgs_cons (pg_name (i := 5) G.nd rfl (Or.inl rfl)) pgs_nil)))) rfl ?_
  refine sj_par 6 7 G.nd G.calm (aj_cons (ej_call c_l_take (G.le (by decide)) (aj_cons (ej_bag 0) (aj_cons ej_int aj_nil)) t6) (aj_cons (ej_call c_l_take (G.le (by decide)) (aj_cons (ej_bag 0) (aj_cons ej_int aj_nil)) t2) aj_nil)) ?_ (by decide) (by rfl)
  unfold numV numB
  show SJ _ _ (numB2 B) _ _
  refine sj_ifM (fun Γ' B2 => ∃ c e : Int, Γ'.length = 12 ∧ Γ'[7]? = some (.da (.int (tkV (tkB B 6) 2))) ∧ Γ'[8]? = some (.da (Va.d (.num 0 c e))) ∧
      (if tkV B 6 < 2 then Va.num (tkV (tkB B 6) 2) (pickV (edgesV b p low high) (numB2 B)).c (pickV (edgesV b p low high) (numB2 B)).e
        else Va.num (tkV (tkB B 6) 2) (numC2 b p low (tkV B 6) (numE p low high (numB2 B)) (numC b p (tkV B 6) (numEB low high (numB2 B))) (numCB b p (tkV B 6) (numEB low high (numB2 B)))) (numE p low high (numB2 B))) = Va.num (tkV (tkB B 6) 2) c e ∧
      B2 = (if tkV B 6 < 2 then tkB (numB2 B) 10 else numC2B b p low (tkV B 6) (numE p low high (numB2 B)) (numCB b p (tkV B 6) (numEB low high (numB2 B)))))
    (tj_lt (ej_dat 6) ej_int) (fun h => ?_) (fun h => ?_) ?_
  · have h' : tkV B 6 < 2 := of_decide_eq_true h
    rw [if_pos h', if_pos h']
    have r := R_some.mk (numB2 B) ((edgesV b p low high).map Va.d) (Nat.le_of_ble_eq_true rfl) (Nat.le_of_ble_eq_true rfl) hc2
    rw [pick_va (edgesV b p low high) (numB2 B) (Nat.le_of_ble_eq_true rfl)] at r
    obtain ⟨c, e, h1, h3⟩ := edges_ok F _ (pickV_mem (edgesV b p low high) (numB2 B) (Nat.le_of_ble_eq_true rfl))
    rw [h1] at r ⊢
    exact sj_set 8 G.nd (ej_call c_l_some (G.le (by decide)) (aj_cons (ej_bag 0) (aj_cons (ej_call c_l_edges (G.le (by decide)) (aj_cons (ej_dat 1) aj_nil) (R_edges.mk b p low high _ F)) aj_nil)) r) (sj_nil ⟨c, e, rfl, rfl, rfl, rfl, rfl⟩)
  · have h' : ¬ tkV B 6 < 2 := of_decide_eq_false h
    rw [if_neg h', if_neg h']
    generalize tkV B 6 = wy at *
    generalize numB2 B = B2 at *
    have th := mkT B2 (high - low + 1) (by omega) hhl hc2
    have hch := tkB_ok hc2 (high - low + 1)
    refine sj_set 9 G.nd (some_int [low, high, low + tkV B2 (high - low + 1), min high (max low (-((p : Int) / 2)))] G (by decide) c_l_some (aj_cons (ej_bag 0) (aj_cons (ej_lstD (ad_cons (ej_dat 4) (ad_cons (ej_dat 5) (ad_cons (ej_add (ej_dat 4) (ej_call c_l_take (G.le (by decide)) (aj_cons (ej_bag 0) (aj_cons (ej_add (ej_sub (ej_dat 5) (ej_dat 4)) ej_int) aj_nil)) th))
      (ad_cons (ej_min G.calm m_min (ej_dat 5) (ej_max G.calm m_max (ej_dat 4) (ej_neg (ej_fdiv (ej_dat 3) ej_int (cdv (show Bd 2 2 from by unfold Bd; decide) (by decide)))))) ad_nil)))) (Nat.le_of_ble_eq_true rfl)) aj_nil)) (Nat.le_of_ble_eq_true rfl) (Nat.le_of_ble_eq_true rfl) hch) ?_
    show SJ _ _ (numEB low high B2) _ _
    have hce : Bok (numEB low high B2) := numEB_ok hc2
    refine sj_set 10 G.nd (ej_call c_l_to (G.le (by decide)) (aj_cons (ej_dat 2) (aj_cons (ej_is (ej_sub (ej_dat 3) ej_int) (congrArg PyData.int e1)) aj_nil)) (R_pow.mk b (p - 1) _ F.b6 (by omega))) ?_
    show SJ _ ((((([.bag, .da (fmP b p low high), .da (.int b), .da (.int p), .da (.int low), .da (.int high), .da (.int wy), .da (.int (tkV (tkB B 6) 2)), .no, .da (.int (numE p low high B2)), .da (.int (lead b p)), .no] : List VD)))) ) _ _ _
    generalize numE p low high B2 = ev at *
    generalize numEB low high B2 = B3 at *
    have tf := mkT B3 (full b p - lead b p) (by omega) hfl hce
    have hcf := tkB_ok hce (full b p - lead b p)
    refine sj_set 11 G.nd (ej_add (ej_dat 10) (ej_call c_l_take (G.le (by decide)) (aj_cons (ej_bag 0) (aj_cons (ej_is (y := .int (full b p - lead b p)) (ej_sub (ej_call c_l_to (G.le (by decide)) (aj_cons (ej_dat 2) (aj_cons (ej_dat 3) aj_nil)) (R_pow.mk b p _ F.b6 (by omega))) (ej_dat 10)) rfl) aj_nil)) tf)) ?_
    refine sj_ifM (fun Γ' B4 => Γ' = [.bag, .da (fmP b p low high), .da (.int b), .da (.int p), .da (.int low), .da (.int high), .da (.int wy), .da (.int (tkV (tkB B 6) 2)), .no, .da (.int ev), .da (.int (lead b p)), .da (.int (numC b p wy B3))] ∧ B4 = numCB b p wy B3)
      (tj_eqI G.hu (ej_dat 6) ej_int) (fun h => ?_) (fun h => ?_) ?_
    · have h2 : wy = 2 := of_decide_eq_true h
      refine sj_set 11 G.nd (some_int [lead b p, lead b p * (b - 1), lead b p + 1, full b p - 1] G (by decide) c_l_some (aj_cons (ej_bag 0) (aj_cons (ej_lstD (ad_cons (ej_dat 10) (ad_cons (ej_mul (ej_dat 10) (ej_sub (ej_dat 2) ej_int) (cmz hld (show Bd 8000 ((b : Int) - 1) from Bd.le (n := 7) (by have := F.b6; unfold Bd; omega) (by decide))))
        (ad_cons (ej_add (ej_dat 10) ej_int) (ad_cons (ej_is (y := .int (full b p - 1)) (ej_sub (ej_call c_l_to (G.le (by decide)) (aj_cons (ej_dat 2) (aj_cons (ej_dat 3) aj_nil)) (R_pow.mk b p _ F.b6 (by omega))) ej_int) rfl) ad_nil)))) (Nat.le_of_ble_eq_true rfl)) aj_nil)) (Nat.le_of_ble_eq_true rfl) (Nat.le_of_ble_eq_true rfl) hcf) (sj_nil ?_)
      unfold numC numCB; rw [if_pos h2, if_pos h2]; exact ⟨rfl, rfl⟩
    · have h2 : ¬ wy = 2 := of_decide_eq_false h
      refine sj_nil ?_
      unfold numC numCB; rw [if_neg h2, if_neg h2]; exact ⟨rfl, rfl⟩
    · rintro Γ4 B4 ⟨rfl, rfl⟩
      have hc4 : Bok (numCB b p wy B3) := numCB_ok hce
      generalize numC b p wy B3 = cv at *
      generalize numCB b p wy B3 = B4 at *
      refine sj_ifM (fun Γ' B5 => Γ' = [.bag, .da (fmP b p low high), .da (.int b), .da (.int p), .da (.int low), .da (.int high), .da (.int wy), .da (.int (tkV (tkB B 6) 2)), .no, .da (.int ev), .da (.int (lead b p)), .da (.int (numC2 b p low wy ev cv B4))] ∧ B5 = numC2B b p low wy ev B4)
        (tj_w (wj_and (tj_eqI G.hu (ej_dat 9) (ej_dat 4)) fun _ => wj_and1 (tj_eqI G.hu (ej_dat 6) ej_int))) (fun h => ?_) (fun h => ?_) ?_
      · have h2 : ev = low ∧ wy = 3 := by simpa using h
        refine sj_set 11 G.nd (ej_call c_l_take (G.le (by decide)) (aj_cons (ej_bag 0) (aj_cons (ej_dat 10) aj_nil)) (mkT B4 (lead b p) (by omega) hld hc4)) (sj_nil ?_)
        unfold numC2 numC2B; rw [if_pos h2, if_pos h2]; exact ⟨rfl, rfl⟩
      · have h2 : ¬ (ev = low ∧ wy = 3) := by simpa using h
        refine sj_nil ?_
        unfold numC2 numC2B; rw [if_neg h2, if_neg h2]; exact ⟨rfl, rfl⟩
      · rintro Γ5 B5 ⟨rfl, rfl⟩
        exact sj_set 8 G.nd (ej_tupD (ad_cons ej_str (ad_cons ej_int (ad_cons (ej_dat 11) (ad_cons (ej_dat 9) ad_nil)))) (Nat.le_of_ble_eq_true rfl)) (sj_nil ⟨_, _, rfl, rfl, rfl, rfl, rfl⟩)
  · rintro Γ2 B2 ⟨c, e, hlen, g7, g8, hv, rfl⟩
    rw [hv]
    refine sj_ret (ej_catT (ej_tupD (ad_cons ej_str (ad_cons (ej_dat 7 g7) ad_nil)) (Nat.le_of_ble_eq_true rfl)) (ej_is (ej_sliceT (ej_dat (d := .tuple (Va.l (.num 0 c e))) 8 g8) (oj_some ej_int) oj_none) (congrArg PyData.tuple (cut2 (Va.l (.num 0 c e)) 2))) (Nat.le_of_ble_eq_true rfl)) ⟨rfl, rfl⟩

abbrev s_l_ways : Stmt := topS 39
theorem sc_l_ways : FnScope [] [] (defScope s_l_ways) := ⟨rfl, rfl, rfl, by decide +kernel, rfl, by decide +kernel, by decide +kernel⟩

theorem c_of_l_ways (T : At K mg "_law_ways" s_l_ways []) : Cal P w K mg base "_law_ways" 4 R_ways :=
  cal_at T sc_l_ways (by rintro _ _ _ _ ⟨⟩; rfl) fun f cd0 A out s H E G Γ B r B' hR => by
  obtain ⟨B⟩ := hR
  exact sj_ret (ej_lstD (ad_cons ej_str (ad_cons ej_str (ad_cons ej_str (ad_cons ej_str (ad_cons ej_str ad_nil))))) (by decide)) ⟨rfl, rfl⟩

abbrev s_l_grid : Stmt := topS 40
theorem sc_l_grid : FnScope ["_law_form", "_law_x", "_law_base", "_law_digits", "_law_low", "_law_high", "_law_size", "_law_bound", "_law_e", "_law_many", "_law_step"] ["_law_form", "_law_x"] (defScope s_l_grid) := ⟨rfl, rfl, rfl, by decide +kernel, rfl, by decide +kernel, by decide +kernel⟩

theorem c_of_l_grid (m_int : mg "int" = none) (m_max : mg "max" = none) (c_l_to : Cal P w K mg base "_law_to" 4 R_pow) (T : At K mg "_law_grid" s_l_grid ["_law_form", "_law_x"]) : Cal P w K mg base "_law_grid" 5 R_grid :=
  cal_at T sc_l_grid (by rintro _ _ _ _ ⟨⟩; rfl) fun f cd0 A out s H E G Γ B r B' hR => by
  obtain ⟨b, p, low, high, q, n, d, B, F, h0, hq, hn, hd⟩ := hR
  have b2 := F.b2; have p2 := F.p2; have p7 := F.p7; have lo := F.lo; have lh := F.lh; have hi := F.hi; have b6 := F.b6
  refine sj_unpack [2, 3, 4, 5] G.calm (ej_dat (d := .tuple [.int b, .int p, .int low, .int high]) 0) (pgs_cons (pg_name (i := 2) G.nd rfl (Or.inl rfl)) (pgs_cons (pg_name (i := 3) G.nd rfl (Or.inl rfl)) (pgs_cons (pg_name (i := 4) G.nd rfl (Or.inl rfl)) (pgs_cons (pg_name (i := 5) G.nd rfl (Or.inl rfl)) pgs_nil)))) rfl ?_
  have ei : max 0 (-low) = ((-low).toNat : Int) := by omega
  have ej : (p : Int) + max 0 low = ((p + low.toNat : Nat) : Int) := by omega
  have hbl := F.bl
  have hb0 : Bd 2340 ((b ^ (-low).toNat : Nat) : Int) := Bd.nat hbl
  have hbj : b ^ (p + low.toNat) < 2 ^ 3040 := by
    have h1 := F.pow_hi lh; have h3 := F.bp
    rw [Nat.pow_add]
    have h5 : b ^ p * b ^ low.toNat < 2 ^ 700 * 2 ^ 2340 := Nat.mul_lt_mul'' h3 h1
    have h7 : 2 ^ 700 * 2 ^ 2340 = 2 ^ 3040 := by rw [← Nat.pow_add]
    rw [h7] at h5; exact h5
  have hsz : Bd 11240 (q.num * ((b ^ (-low).toNat : Nat) : Int)) := (hq.nu.mul hb0).le (by omega)
  have hb00 : Bd 9540 ((q.den : Int) * ((b ^ (p + low.toNat) : Nat) : Int)) := (hq.de.mul (Bd.nat hbj)).le (by omega)
  refine sj_par3 6 7 8 G.nd G.calm (aj_cons (ej_mul (ej_at (ej_dat (d := .tuple [.int q.num, .int (q.den : Int)]) 1)) (ej_call c_l_to (G.le (by decide)) (aj_cons (ej_dat 2) (aj_cons (ej_is (ej_max G.calm m_max ej_int (ej_neg (ej_dat 4))) (congrArg PyData.int ei)) aj_nil)) (R_pow.mk b _ B b6 (by omega))) (cmz hq.nu hb0))
    (aj_cons (ej_mul (ej_at (ej_dat (d := .tuple [.int q.num, .int (q.den : Int)]) 1)) (ej_call c_l_to (G.le (by decide)) (aj_cons (ej_dat 2) (aj_cons (ej_is (ej_add (ej_dat 3) (ej_max G.calm m_max ej_int (ej_dat 4))) (congrArg PyData.int ej)) aj_nil)) (R_pow.mk b _ B b6 (by omega))) (cmz hq.de (Bd.nat hbj)))
    (aj_cons (ej_dat 4) aj_nil))) ?_ (by decide) (by decide) (by decide) (by rfl)
  generalize hS : q.num * ((b ^ (-low).toNat : Nat) : Int) = S at *
  have hS0 : 0 ≤ S := by rw [← hS]; exact Int.mul_nonneg (Rat.num_nonneg.mpr h0) (Int.natCast_nonneg _)
  have hbd : ∀ t : Nat, (t = 0 ∨ (q.den : Int) * ((b ^ (p + low.toNat + t) : Nat) : Int) ≤ S) → Bd 11240 ((q.den : Int) * ((b ^ (p + low.toNat + t) : Nat) : Int)) := by
    rintro t (rfl | h)
    · exact hb00.le (by decide)
    · have : 0 ≤ (q.den : Int) * ((b ^ (p + low.toNat + t) : Nat) : Int) := Int.mul_nonneg (Int.le_of_lt (den_pos q)) (Int.natCast_nonneg _)
      unfold Bd at *; omega
  have hst : ∀ (t m : Nat), (q.den : Int) * ((b ^ (p + low.toNat + t) : Nat) : Int) * ((b ^ m : Nat) : Int) = (q.den : Int) * ((b ^ (p + low.toNat + (t + m)) : Nat) : Int) := by
    intro t m; rw [Int.mul_assoc, ← Int.natCast_mul, ← Nat.pow_add, Nat.add_assoc]
  have hpos : ∀ t : Nat, 0 < (q.den : Int) * ((b ^ (p + low.toNat + t) : Nat) : Int) := fun t => Int.mul_pos (den_pos q) (Int.natCast_pos.mpr (Nat.pow_pos (by omega)))
  refine sj_forT (ds := [.int 512, .int 64, .int 8, .int 1]) 9 G.nd G.calm (fun i Γ' B2 => ∃ (t : Nat) (z1 z2 : VD), Γ' = [.da (fmP b p low high), .da (fq q), .da (.int b), .da (.int p), .da (.int low), .da (.int high), .da (.int S), .da (.int ((q.den : Int) * ((b ^ (p + low.toNat + t) : Nat) : Int))), .da (.int (low + t)), z1, z2] ∧ B2 = B ∧
      (t = 0 ∨ (q.den : Int) * ((b ^ (p + low.toNat + t) : Nat) : Int) ≤ S) ∧ (i = 4 → S < (q.den : Int) * ((b ^ (p + low.toNat + (t + 1)) : Nat) : Int)))
    (ej_tupD (ad_cons ej_int (ad_cons ej_int (ad_cons ej_int (ad_cons ej_int ad_nil)))) (Nat.le_of_ble_eq_true rfl)) ⟨0, .no, .no, by rw [show low + ((0 : Nat) : Int) = low by omega]; rfl, rfl, .inl rfl, fun z => absurd z (by decide)⟩ (fun i y Γ' B2 hy hP => ?_) (fun Γ' B2 hP => ?_)
  · obtain ⟨t, z1, z2, rfl, rfl, ht, _⟩ := hP
    obtain ⟨m, rfl, hm1, hm512, hm4⟩ : ∃ m : Nat, y = .int (m : Int) ∧ 1 ≤ m ∧ m ≤ 512 ∧ (i = 3 → m = 1) := by
      match i, hy with
      | 0, hy => cases hy; exact ⟨512, rfl, by decide, by decide, fun z => absurd z (by decide)⟩
      | 1, hy => cases hy; exact ⟨64, rfl, by decide, by decide, fun z => absurd z (by decide)⟩
      | 2, hy => cases hy; exact ⟨8, rfl, by decide, by decide, fun z => absurd z (by decide)⟩
      | 3, hy => cases hy; exact ⟨1, rfl, by decide, by decide, fun _ => rfl⟩
      | i + 4, hy => cases hy
    have hbm : Bd 3073 ((b ^ m : Nat) : Int) := (bd_pow m b6).le (by omega)
    refine sj_set 10 G.nd (ej_call c_l_to (G.le (by decide)) (aj_cons (ej_dat 2) (aj_cons (ej_dat 9) aj_nil)) (R_pow.mk b m B2 b6 (by omega))) ?_
    refine sj_while G.nd (fun Γ' B3 => ∃ t : Nat, Γ' = [.da (fmP b p low high), .da (fq q), .da (.int b), .da (.int p), .da (.int low), .da (.int high), .da (.int S), .da (.int ((q.den : Int) * ((b ^ (p + low.toNat + t) : Nat) : Int))), .da (.int (low + t)), .da (.int (m : Int)), .da (.int ((b ^ m : Nat) : Int))] ∧ B3 = B2 ∧
      (t = 0 ∨ (q.den : Int) * ((b ^ (p + low.toNat + t) : Nat) : Int) ≤ S)) (fun Γ' _ => (S + 1 - intAt Γ' 7).toNat) ⟨t, rfl, rfl, ht⟩ ?_
    rintro Γ3 B3 ⟨t, rfl, rfl, ht⟩
    have hbt := hbd t ht
    refine ⟨_, tj_ge (ej_dat 6) (ej_mul (ej_dat 7) (ej_dat 10) (cmz hbt hbm)), fun h => ?_, fun h => ?_⟩
    · have hge : (q.den : Int) * ((b ^ (p + low.toNat + (t + m)) : Nat) : Int) ≤ S := by rw [← hst]; exact of_decide_eq_true h
      refine sj_par 7 8 G.nd G.calm (aj_cons (ej_mul (ej_dat 7) (ej_dat 10) (cmz hbt hbm)) (aj_cons (ej_add (ej_dat 8) (ej_dat 9)) aj_nil)) (sj_nil ?_) (by decide) (by rfl)
      rw [hst]
      refine ⟨⟨t + m, by rw [show low + (t : Int) + (m : Int) = low + ((t + m : Nat) : Int) by omega]; rfl, rfl, .inr hge⟩, ?_⟩
      show (S + 1 - (q.den : Int) * ((b ^ (p + low.toNat + (t + m)) : Nat) : Int)).toNat < (S + 1 - (q.den : Int) * ((b ^ (p + low.toNat + t) : Nat) : Int)).toNat
      have hlt : (q.den : Int) * ((b ^ (p + low.toNat + t) : Nat) : Int) < (q.den : Int) * ((b ^ (p + low.toNat + (t + m)) : Nat) : Int) :=
        Int.mul_lt_mul_of_pos_left (Int.ofNat_lt.mpr (Nat.pow_lt_pow_right (by omega) (by omega))) (den_pos q)
      omega
    · have hlt : S < (q.den : Int) * ((b ^ (p + low.toNat + (t + m)) : Nat) : Int) := by rw [← hst]; have := of_decide_eq_false h; omega
      exact sj_nil ⟨t, _, _, rfl, rfl, ht, fun h4 => by rw [hm4 (by omega)] at hlt; exact hlt⟩
  · obtain ⟨t, z1, z2, rfl, rfl, ht, h4⟩ := hP
    have h4 := h4 rfl
    have hbt := hbd t ht
    have es : ∀ t : Nat, ((p + low.toNat + t : Nat) : Int) - ((-low).toNat : Nat) = p + (low + t) := fun t => by omega
    have k1 := lt_pw_iff b2 q (-low).toNat (p + low.toNat + (t + 1))
    rw [es, hS] at k1
    have k0 := lt_pw_iff b2 q (-low).toNat (p + low.toNat + t)
    rw [es, hS] at k0
    have hE : IsE b p low q (low + t + (if decide ((q.den : Int) * ((b ^ (p + low.toNat + t) : Nat) : Int) ≤ S) = true then 1 else 0)) := by
      by_cases h : (q.den : Int) * ((b ^ (p + low.toNat + t) : Nat) : Int) ≤ S
      · rw [decide_eq_true h, if_pos rfl]
        refine ⟨by omega, ?_, .inr ?_⟩
        · have := k1.mpr h4
          rw [show (p : Int) + (low + t + 1) = p + (low + (t + 1 : Nat)) by omega]; exact this
        · have := Rat.not_lt.mp (fun z => absurd (k0.mp z) (by omega))
          rw [show (p : Int) + (low + t + 1) - 1 = p + (low + t) by omega]; exact this
      · rw [decide_eq_false h, if_neg (by decide)]
        rcases ht with rfl | ht
        · refine ⟨by omega, ?_, .inl (by omega)⟩
          have := k0.mpr (by omega)
          rw [show (p : Int) + (low + ((0 : Nat) : Int) + 0) = p + (low + ((0 : Nat) : Int)) by omega]; exact this
        · exact absurd ht h
    have eE := (eQ_of b2 hE).symm
    refine sj_set 8 G.nd (ej_is (y := .int (eQ b p low q)) (ej_add (ej_dat 8) (ej_intB m_int (ej_ge (ej_dat 6) (ej_dat 7)))) (congrArg PyData.int eE)) ?_
    clear hE eE
    have hE := eQ_is (p := p) b2 low q
    have he := F.e_hi hq h0 hE hn
    have hlo := hE.1
    generalize eQ b p low q = e at *
    have hD := F.D_bd hq h0 hE hn hd
    have hDp := Dq_pos b2 e q
    have e1 : max 0 (-e) = ((-e).toNat : Int) := by omega
    have e3 : max 0 e = (e.toNat : Int) := by omega
    have hup : Bd 2340 ((b ^ (-e).toNat : Nat) : Int) := Bd.nat (F.pow_lo hlo)
    have hdn : Bd 9400 ((b ^ e.toNat : Nat) : Int) := by
      rcases F.e_bd hq h0 hE with ⟨z, _, _⟩ | z
      · have hd1 : 1 ≤ q.den := q.den_pos
        exact (Bd.nat (Nat.lt_of_le_of_lt (Nat.le_mul_of_pos_left _ hd1) z)).le (by omega)
      · have h1 : b ^ e.toNat < 2 ^ 2340 := by
          rcases z with z | z
          · have : e.toNat = 0 := by omega
            rw [this, Nat.pow_zero]; exact Nat.one_lt_two_pow (by decide)
          · rw [z]; exact F.pow_hi F.lh
        exact (Bd.nat h1).le (by decide)
    exact sj_ret (ej_tupD (ad_cons (ej_is (y := .int (cQ b e q)) (ej_fdiv (ej_int1 m_int (ej_mul (ej_at (ej_dat (d := .tuple [.int q.num, .int (q.den : Int)]) 1)) (ej_call c_l_to (G.le (by decide)) (aj_cons (ej_dat 2) (aj_cons (ej_is (ej_max G.calm m_max ej_int (ej_neg (ej_dat 8))) (congrArg PyData.int e1)) aj_nil)) (R_pow.mk b _ _ b6 (by omega))) (cmz hq.nu hup)))
      (ej_is (y := .int (Dq b e q)) (ej_mul (ej_at (ej_dat (d := .tuple [.int q.num, .int (q.den : Int)]) 1)) (ej_call c_l_to (G.le (by decide)) (aj_cons (ej_dat 2) (aj_cons (ej_is (ej_max G.calm m_max ej_int (ej_dat 8)) (congrArg PyData.int e3)) aj_nil)) (R_pow.mk b _ _ b6 (by omega))) (cmz hq.de hdn)) rfl) (cdv hD hDp)) rfl) (ad_cons (ej_dat 8) ad_nil)) (Nat.le_of_ble_eq_true rfl)) ⟨rfl, rfl⟩

abbrev s_l_greatest : Stmt := topS 41
theorem sc_l_greatest : FnScope ["_law_form", "_law_base", "_law_digits", "_law_low", "_law_high"] ["_law_form"] (defScope s_l_greatest) := ⟨rfl, rfl, rfl, by decide +kernel, rfl, by decide +kernel, by decide +kernel⟩

theorem c_of_l_greatest (c_l_to : Cal P w K mg base "_law_to" 4 R_pow) (c_l_power : Cal P w K mg base "_law_power" 5 R_power_of) (c_l_multiplied : Cal P w K mg base "_law_multiplied" 6 (R_two (· * ·))) (T : At K mg "_law_greatest" s_l_greatest ["_law_form"]) : Cal P w K mg base "_law_greatest" 7 R_great :=
  cal_at T sc_l_greatest (by rintro _ _ _ _ ⟨⟩; rfl) fun f cd0 A out s H E G Γ B r B' hR => by
  obtain ⟨b, p, low, high, B, F⟩ := hR
  have b2 := F.b2; have p7 := F.p7; have lo := F.lo; have lh := F.lh; have hi := F.hi; have bp := F.bp
  refine sj_unpack [1, 2, 3, 4] G.calm (ej_dat (d := .tuple [.int b, .int p, .int low, .int high]) 0) (pgs_cons (pg_name (i := 1) G.nd rfl (Or.inl rfl)) (pgs_cons (pg_name (i := 2) G.nd rfl (Or.inl rfl)) (pgs_cons (pg_name (i := 3) G.nd rfl (Or.inl rfl)) (pgs_cons (pg_name (i := 4) G.nd rfl (Or.inl rfl)) pgs_nil)))) rfl ?_
  have hc : Qz 700 1 ((((b ^ p : Nat) : Int) - 1 : Int) : Rat) := ⟨by rw [Rat.num_intCast]; unfold Bd; omega, by rw [Rat.den_intCast]; unfold Bd; decide⟩
  exact sj_ret (ej_call c_l_multiplied (G.le (by decide)) (aj_cons (ej_is (y := fq ((((b ^ p : Nat) : Int) - 1 : Int) : Rat)) (ej_tupD (ad_cons (ej_sub (ej_call c_l_to (G.le (by decide)) (aj_cons (ej_dat 1) (aj_cons (ej_dat 2) aj_nil)) (R_pow.mk b p B F.b6 (by omega))) ej_int) (ad_cons ej_int ad_nil)) (Nat.le_of_ble_eq_true rfl)) (fq_int _).symm)
    (aj_cons (ej_call c_l_power (G.le (by decide)) (aj_cons (ej_dat 1) (aj_cons (ej_dat 4) aj_nil)) (R_power_of.mk b high B (by omega) F.b6 (by omega) (by omega))) aj_nil)) (R_two.mk _ _ _ _ _ _ B hc (F.qz lh (Int.le_refl _)) (by decide) (by decide) (by decide))) ⟨rfl, rfl⟩

abbrev s_l_normal : Stmt := topS 42
theorem sc_l_normal : FnScope ["_law_form"] ["_law_form"] (defScope s_l_normal) := ⟨rfl, rfl, rfl, by decide +kernel, rfl, by decide +kernel, by decide +kernel⟩

theorem c_of_l_normal (c_l_power : Cal P w K mg base "_law_power" 5 R_power_of) (T : At K mg "_law_normal" s_l_normal ["_law_form"]) : Cal P w K mg base "_law_normal" 6 R_normal :=
  cal_at T sc_l_normal (by rintro _ _ _ _ ⟨⟩; rfl) fun f cd0 A out s H E G Γ B r B' hR => by
  obtain ⟨b, p, low, high, B, F⟩ := hR
  have b2 := F.b2; have p7 := F.p7; have lo := F.lo; have lh := F.lh; have hi := F.hi
  exact sj_ret (ej_call c_l_power (G.le (by decide)) (aj_cons (ej_at (ej_dat (d := .tuple [.int b, .int p, .int low, .int high]) 0)) (aj_cons (ej_sub (ej_add (ej_at (ej_dat (d := .tuple [.int b, .int p, .int low, .int high]) 0)) (ej_at (ej_dat (d := .tuple [.int b, .int p, .int low, .int high]) 0))) ej_int) aj_nil)) (R_power_of.mk b (low + p - 1) B (by omega) F.b6 (by omega) (by omega))) ⟨rfl, rfl⟩

abbrev s_l_form_of : Stmt := topS 43
theorem sc_l_form_of : FnScope ["_law_form", "_law_s", "_law_worth_here", "_law_c", "_law_e"] ["_law_form", "_law_s", "_law_worth_here"] (defScope s_l_form_of) := ⟨rfl, rfl, rfl, by decide +kernel, rfl, by decide +kernel, by decide +kernel⟩

theorem c_of_l_form_of (c_l_grid : Cal P w K mg base "_law_grid" 5 R_grid) (T : At K mg "_law_form_of" s_l_form_of ["_law_form", "_law_s", "_law_worth_here"]) : Cal P w K mg base "_law_form_of" 6 R_formof :=
  cal_at T sc_l_form_of (by rintro _ _ _ _ ⟨⟩; rfl) fun f cd0 A out s H E G Γ B r B' hR => by
  obtain ⟨b, p, low, high, sn, C, Ee, q, n, d, B, F, hC, rfl, hE⟩ := hR
  have z := can_qz F hC hE
  have ce := can_e F.b2 (by have := F.p2; omega) hC
  have R := R_grid.mk b p low high _ 3040 2341 B F z.2 z.1 (by decide) (by decide)
  rw [ce.1, ce.2] at R
  refine sj_unpack [3, 4] G.calm (ej_call c_l_grid (G.le (by decide)) (aj_cons (ej_dat 0) (aj_cons (ej_dat 2) aj_nil)) R) (pgs_cons (pg_name (i := 3) G.nd rfl (Or.inl rfl)) (pgs_cons (pg_name (i := 4) G.nd rfl (Or.inl rfl)) pgs_nil)) rfl ?_
  exact sj_ret (ej_tupD (ad_cons ej_str (ad_cons (ej_dat 1) (ad_cons (ej_dat 3) (ad_cons (ej_dat 4) ad_nil)))) (Nat.le_of_ble_eq_true rfl)) ⟨rfl, rfl⟩

abbrev s_l_near_fraction : Stmt := topS 44
theorem sc_l_near_fraction : FnScope ["_law_bag_here", "_law_form", "_law_number_here", "_law_c", "_law_e", "_law_way", "_law_unit", "_law_part", "_law_found", "_law_factor"] ["_law_bag_here", "_law_form"] (defScope s_l_near_fraction) := ⟨rfl, rfl, rfl, by decide +kernel, rfl, by decide +kernel, by decide +kernel⟩

theorem c_of_l_near_fraction (c_l_number : Cal P w K mg base "_law_number" 6 (R_draw numV numB)) (c_l_take : Cal P w K mg base "_law_take" 4 R_take) (c_l_power : Cal P w K mg base "_law_power" 5 R_power_of) (c_l_some : Cal P w K mg base "_law_some" 5 R_some) (c_l_added : Cal P w K mg base "_law_added" 6 (R_two (· + ·)))
    (c_l_multiplied : Cal P w K mg base "_law_multiplied" 6 (R_two (· * ·))) (c_l_over : Cal P w K mg base "_law_over" 5 R_reduced) (c_l_greatest : Cal P w K mg base "_law_greatest" 7 R_great) (c_l_normal : Cal P w K mg base "_law_normal" 6 R_normal)
    (T : At K mg "_law_near_fraction" s_l_near_fraction ["_law_bag_here", "_law_form"]) : Cal P w K mg base "_law_near_fraction" 8 R_nearF :=
  cal_at T sc_l_near_fraction (by rintro _ _ _ _ ⟨⟩; rfl) fun f cd0 A out s H E0 G Γ B r B' hR => by
  obtain ⟨b, p, low, high, B, F, hc⟩ := hR
  have b2 := F.b2; have lo := F.lo; have hi := F.hi
  have okn : Bok (numB b p low high B) := numB_ok hc
  have ok2 : Bok (nfB2 b p low high B) := tkB_ok okn 8
  obtain ⟨sn, cn, en, hv, okv⟩ := num_parts F B
  have tk8 : R_take [.bag, .da (.int 8)] (numB b p low high B) (.int (nfW b p low high B)) (nfB2 b p low high B) := R_take.mk _ 8 (by decide) (by unfold Bd; decide +kernel) okn
  have ef : nfF b p low high B = ((cn : Int) + nfP (nfB2 b p low high B)) * pw b en := by unfold nfF; rw [hv]; rfl
  have qf := nfF_qz F B
  refine sj_set 2 (d := .da (Va.num sn cn en).d) G.nd (ej_is (ej_call c_l_number (G.le (by decide)) (aj_cons (ej_bag 0) (aj_cons (ej_dat 1) aj_nil)) (R_draw.mk b p low high B F hc)) (congrArg Va.d hv)) ?_
  unfold nfQ nfB
  rw [ef] at qf ⊢
  clear ef hv
  generalize nfW b p low high B = w8 at *
  generalize nfB2 b p low high B = B2 at *
  generalize numB b p low high B = B1 at *
  refine sj_par3 3 4 5 G.nd G.calm (aj_cons (ej_at (ej_dat (d := .tuple [.str "num", .int sn, .int cn, .int en]) 2)) (aj_cons (ej_at (ej_dat (d := .tuple [.str "num", .int sn, .int cn, .int en]) 2)) (aj_cons (ej_call c_l_take (G.le (by decide)) (aj_cons (ej_bag 0) (aj_cons ej_int aj_nil)) tk8) aj_nil))) ?_ (by decide) (by decide) (by decide) (by rfl)
  have h5 := okv.2.2.2.1; have h6 := okv.2.2.2.2
  refine sj_set 6 G.nd (ej_call c_l_power (G.le (by decide)) (aj_cons (ej_at (ej_dat (d := .tuple [.int b, .int p, .int low, .int high]) 1)) (aj_cons (ej_dat 4) aj_nil)) (R_power_of.mk b en B2 (by omega) F.b6 (by omega) (by omega))) ?_
  have rp := R_some.mk B2 (nfParts.map fq) (Nat.le_of_ble_eq_true rfl) (Nat.le_of_ble_eq_true rfl) ok2
  rw [pick_fq _ _ (Nat.le_of_ble_eq_true rfl)] at rp
  refine sj_set 7 G.nd (ej_call c_l_some (G.le (by decide)) (aj_cons (ej_bag 0) (aj_cons (ej_is (y := .list (nfParts.map fq)) (ej_lstD (ad_cons (ej_tupD (ad_cons ej_int (ad_cons ej_int ad_nil)) (Nat.le_of_ble_eq_true rfl)) (ad_cons (ej_tupD (ad_cons ej_int (ad_cons ej_int ad_nil)) (Nat.le_of_ble_eq_true rfl)) (ad_cons (ej_tupD (ad_cons ej_int (ad_cons ej_int ad_nil)) (Nat.le_of_ble_eq_true rfl)) (ad_cons (ej_tupD (ad_cons ej_int (ad_cons ej_int ad_nil)) (Nat.le_of_ble_eq_true rfl)) (ad_cons (ej_tupD (ad_cons ej_int (ad_cons ej_int ad_nil)) (Nat.le_of_ble_eq_true rfl))
    (ad_cons (ej_tupD (ad_cons ej_int (ad_cons (ej_pow ej_int ej_int ⟨by decide, by decide, by decide⟩) ad_nil)) (Nat.le_of_ble_eq_true rfl)) (ad_cons (ej_tupD (ad_cons (ej_neg ej_int) (ad_cons (ej_pow ej_int ej_int ⟨by decide, by decide, by decide⟩) ad_nil)) (Nat.le_of_ble_eq_true rfl)) (ad_cons (ej_tupD (ad_cons ej_int (ad_cons ej_int ad_nil)) (Nat.le_of_ble_eq_true rfl)) ad_nil)))))))) (Nat.le_of_ble_eq_true rfl)) parts_is) aj_nil)) rp) ?_
  have ok3 : Bok (tkB B2 8) := tkB_ok ok2 8
  have tk12 := R_take.mk (tkB B2 8) 12 (by decide) (by unfold Bd; decide +kernel) ok3
  have ok4 : Bok (tkB (tkB B2 8) 12) := tkB_ok ok3 12
  refine sj_ifM (fun Γ' B' => Γ' = [.bag, .da (fmP b p low high), .da (Va.num sn cn en).d, .da (.int cn), .da (.int en), .da (.int w8), .da (fq (pw b en)), .da (fq (nfP B2)), .no, .no] ∧ B' = nfPB B2) (tj_eqI G.hu (ej_call c_l_take (G.le (by decide)) (aj_cons (ej_bag 0) (aj_cons ej_int aj_nil)) tk12) ej_int) (fun h => ?_) (fun h => ?_) ?_
  · have h' := of_decide_eq_true h
    have ru := R_some.mk (tkB (tkB B2 8) 12) (([1, -1] : List Int).map .int) (by decide) (by decide) ok4
    refine sj_set 7 (d := .da (fq (nfP B2))) (B1 := nfPB B2) G.nd ?_ (sj_nil ⟨rfl, rfl⟩)
    have hm := pm_mem (tkB (tkB B2 8) 12)
    unfold nfP nfPB
    rw [if_pos h', if_pos h']
    exact ej_call c_l_added (G.le (by decide)) (aj_cons (ej_is (y := fq (1 / 2 : Rat)) (ej_tupD (ad_cons ej_int (ad_cons ej_int ad_nil)) (Nat.le_of_ble_eq_true rfl)) fq_half.symm) (aj_cons (ej_is (y := fq (unitQ (pickI [1, -1] (tkB (tkB B2 8) 12)) 120)) (ej_tupD (ad_cons (some_int [1, -1] G (by decide) c_l_some (aj_cons (ej_bag 0) (aj_cons (ej_lstD (ad_cons ej_int (ad_cons (ej_neg ej_int) ad_nil)) (Nat.le_of_ble_eq_true rfl)) aj_nil)) (by decide) (by decide) ok4)
      (ad_cons (ej_mul (ej_pow ej_int ej_int ⟨by decide, by decide, by decide⟩) (ej_pow ej_int ej_int ⟨by decide, by decide, by decide⟩) (cm (n := 200) (m := 200) (by unfold Bd; decide +kernel) (by unfold Bd; decide +kernel))) ad_nil)) (Nat.le_of_ble_eq_true rfl)) (unit_fq120 hm)) aj_nil)) (R_two.mk _ _ _ _ _ _ _ half_qz (unit_qz120 hm) (by decide) (by decide) (by decide))
  · have h' := of_decide_eq_false h
    refine sj_nil ⟨?_, ?_⟩
    · unfold nfP; rw [if_neg h']; rfl
    · unfold nfPB; rw [if_neg h']
  rintro Γ' B' ⟨rfl, rfl⟩
  have ok5 : Bok (nfPB B2) := nfPB_ok ok2
  have qP := nfP_qz B2
  generalize nfP B2 = pq at *
  generalize nfPB B2 = B5 at *
  obtain ⟨_, c0, c1, _⟩ := okv
  have bp := F.bp
  have qc : Qz 700 1 (cn : Rat) := ⟨by rw [Rat.num_intCast]; unfold Bd; omega, by rw [Rat.den_intCast]; unfold Bd; decide⟩
  have qcp := qc.add qP 1102 (by decide) (by decide)
  refine sj_set 8 G.nd (ej_call c_l_multiplied (G.le (by decide)) (aj_cons (ej_call c_l_added (G.le (by decide)) (aj_cons (ej_is (y := fq (cn : Rat)) (ej_tupD (ad_cons (ej_dat 3) (ad_cons ej_int ad_nil)) (Nat.le_of_ble_eq_true rfl)) (fq_int cn).symm) (aj_cons (ej_dat 7) aj_nil)) (R_two.mk _ _ _ _ _ _ B5 qc qP (by decide) (by decide) (by decide))) (aj_cons (ej_dat 6) aj_nil)) (R_two.mk _ _ _ _ _ _ B5 qcp (F.qz h5 h6) (by decide) (by decide) (by decide))) ?_
  generalize ((cn : Rat) + pq) * pw b en = f0 at *
  clear qc qcp
  unfold nfT nfS
  refine sj_ifM (fun Γ' B' => Γ' = [.bag, .da (fmP b p low high), .da (Va.num sn cn en).d, .da (.int cn), .da (.int en), .da (.int w8), .da (fq (pw b en)), .da (fq pq), .da (fq (nf0 w8 f0 B5)), .no] ∧ B' = nf0B w8 B5) (tj_eqI G.hu (ej_dat 5) ej_int) (fun h => ?_) (fun h => ?_) ?_
  · have h' := of_decide_eq_true h
    refine sj_set 8 (d := .da (fq (nf0 w8 f0 B5))) (B1 := nf0B w8 B5) G.nd ?_ (sj_nil ⟨rfl, rfl⟩)
    have hm := pm_mem B5
    unfold nf0 nf0B
    rw [if_pos h', if_pos h']
    exact ej_call c_l_added (G.le (by decide)) (aj_cons (ej_dat 8) (aj_cons (ej_is (y := fq (unitQ (pickI [1, -1] B5) 40)) (ej_tupD (ad_cons (some_int [1, -1] G (by decide) c_l_some (aj_cons (ej_bag 0) (aj_cons (ej_lstD (ad_cons ej_int (ad_cons (ej_neg ej_int) ad_nil)) (Nat.le_of_ble_eq_true rfl)) aj_nil)) (by decide) (by decide) ok5)
      (ad_cons (ej_pow ej_int ej_int ⟨by decide, by decide, by decide⟩) ad_nil)) (Nat.le_of_ble_eq_true rfl)) (unit_fq40 hm)) aj_nil)) (R_two.mk _ _ _ _ _ _ _ qf (unit_qz40 hm) (by decide) (by decide) (by decide))
  · have h' := of_decide_eq_false h
    refine sj_nil ⟨?_, ?_⟩
    · unfold nf0; (rw [if_neg h'] <;> try rfl)
    · unfold nf0B; (rw [if_neg h'] <;> try rfl)
  rintro Γ' B' ⟨rfl, rfl⟩
  have ok6 : Bok (nf0B w8 B5) := nf0B_ok ok5
  have q0 := nf0_qz (w := w8) B5 qf
  generalize nf0 w8 f0 B5 = f1 at *
  generalize nf0B w8 B5 = B6 at *
  have okt6 := tkB_ok ok6 (10 ^ 6)
  have t6 := R_take.mk B6 (10 ^ 6) (by decide) (by unfold Bd; decide +kernel) ok6
  have t4 := R_take.mk (tkB B6 (10 ^ 6)) (10 ^ 4) (by decide) (by unfold Bd; decide +kernel) okt6
  refine sj_ifM (fun Γ' B' => Γ' = [.bag, .da (fmP b p low high), .da (Va.num sn cn en).d, .da (.int cn), .da (.int en), .da (.int w8), .da (fq (pw b en)), .da (fq pq), .da (fq (nf1 w8 f1 B6)), .no] ∧ B' = nf1B w8 B6) (tj_eqI G.hu (ej_dat 5) ej_int) (fun h => ?_) (fun h => ?_) ?_
  · have h' := of_decide_eq_true h
    refine sj_set 8 (d := .da (fq (nf1 w8 f1 B6))) (B1 := nf1B w8 B6) G.nd ?_ (sj_nil ⟨rfl, rfl⟩)
    have hd := nf1_den B6
    have hb := nf1_bd B6
    unfold nf1 nf1B
    rw [if_pos h', if_pos h']
    exact ej_call c_l_over (G.le (by decide)) (aj_cons (ej_is (y := .int (tkV B6 (10 ^ 6) - 500000)) (ej_sub (ej_call c_l_take (G.le (by decide)) (aj_cons (ej_bag 0) (aj_cons (ej_pow ej_int ej_int ⟨by decide, by decide, by decide⟩) aj_nil)) t6) (ej_mul ej_int (ej_pow ej_int ej_int ⟨by decide, by decide, by decide⟩) (cm (n := 20) (m := 20) (by unfold Bd; decide +kernel) (by unfold Bd; decide +kernel)))) rfl)
      (aj_cons (ej_add ej_int (ej_call c_l_take (G.le (by decide)) (aj_cons (ej_bag 0) (aj_cons (ej_pow ej_int ej_int ⟨by decide, by decide, by decide⟩) aj_nil)) t4)) aj_nil)) (R_reduced.mk _ _ _ hd (hb.2.le (by decide)))
  · have h' := of_decide_eq_false h
    refine sj_nil ⟨?_, ?_⟩
    · unfold nf1; (rw [if_neg h'] <;> try rfl)
    · unfold nf1B; (rw [if_neg h'] <;> try rfl)
  rintro Γ' B' ⟨rfl, rfl⟩
  have ok7 : Bok (nf1B w8 B6) := nf1B_ok ok6
  have q1 := nf1_qz (w := w8) B6 q0
  generalize nf1 w8 f1 B6 = f2 at *
  generalize nf1B w8 B6 = B7 at *
  refine sj_ifM (fun Γ' B' => (∃ g9, Γ' = [.bag, .da (fmP b p low high), .da (Va.num sn cn en).d, .da (.int cn), .da (.int en), .da (.int w8), .da (fq (pw b en)), .da (fq pq), .da (fq (nf2 b p high w8 f2 B7)), g9]) ∧ B' = nf2B w8 B7) (tj_eqI G.hu (ej_dat 5) ej_int) (fun h => ?_) (fun h => ?_) ?_
  · have h' := of_decide_eq_true h
    have rg := R_some.mk B7 (nfG.map fq) (Nat.le_of_ble_eq_true rfl) (Nat.le_of_ble_eq_true rfl) ok7
    rw [pick_fq _ _ (Nat.le_of_ble_eq_true rfl)] at rg
    have qg := g_qz _ (pickQ_mem nfG B7 (by decide))
    unfold nf2 nf2B
    rw [if_pos h', if_pos h']
    refine sj_set 9 G.nd (ej_call c_l_some (G.le (by decide)) (aj_cons (ej_bag 0) (aj_cons (ej_is (y := .list (nfG.map fq)) (ej_lstD (ad_cons (ej_tupD (ad_cons ej_int (ad_cons ej_int ad_nil)) (Nat.le_of_ble_eq_true rfl)) (ad_cons (ej_tupD (ad_cons ej_int (ad_cons ej_int ad_nil)) (Nat.le_of_ble_eq_true rfl)) (ad_cons (ej_tupD (ad_cons ej_int (ad_cons ej_int ad_nil)) (Nat.le_of_ble_eq_true rfl)) (ad_cons (ej_tupD (ad_cons ej_int (ad_cons ej_int ad_nil)) (Nat.le_of_ble_eq_true rfl)) (ad_cons (ej_tupD (ad_cons (ej_pow ej_int ej_int ⟨by decide, by decide, by decide⟩) (ad_cons ej_int ad_nil)) (Nat.le_of_ble_eq_true rfl)) ad_nil))))) (Nat.le_of_ble_eq_true rfl)) great_is) aj_nil)) rg) ?_
    refine sj_set 8 G.nd (ej_call c_l_multiplied (G.le (by decide)) (aj_cons (ej_call c_l_greatest (G.le (by decide)) (aj_cons (ej_dat 1) aj_nil) (R_great.mk b p low high _ F)) (aj_cons (ej_dat 9) aj_nil)) (R_two.mk _ _ _ _ _ _ _ (gr_qz F) qg (by decide) (by decide) (by decide))) (sj_nil ⟨⟨_, rfl⟩, rfl⟩)
  · have h' := of_decide_eq_false h
    refine sj_nil ⟨⟨.no, ?_⟩, ?_⟩
    · unfold nf2; (rw [if_neg h'] <;> try rfl)
    · unfold nf2B; (rw [if_neg h'] <;> try rfl)
  rintro Γ' B' ⟨⟨g9, rfl⟩, rfl⟩
  have ok8 : Bok (nf2B w8 B7) := nf2B_ok ok7
  generalize nf2 b p high w8 f2 B7 = f3 at *
  generalize nf2B w8 B7 = B8 at *
  refine sj_ifM (fun Γ' B' => (∃ g9, Γ' = [.bag, .da (fmP b p low high), .da (Va.num sn cn en).d, .da (.int cn), .da (.int en), .da (.int w8), .da (fq (pw b en)), .da (fq pq), .da (fq (nf3 b p low w8 f3 B8)), g9]) ∧ B' = nf3B w8 B8) (tj_eqI G.hu (ej_dat 5) ej_int) (fun h => ?_) (fun h => ?_) ?_
  · have h' := of_decide_eq_true h
    have rg := R_some.mk B8 (nfN.map fq) (Nat.le_of_ble_eq_true rfl) (Nat.le_of_ble_eq_true rfl) ok8
    rw [pick_fq _ _ (Nat.le_of_ble_eq_true rfl)] at rg
    have qg := n_qz _ (pickQ_mem nfN B8 (by decide))
    unfold nf3 nf3B
    rw [if_pos h', if_pos h']
    refine sj_set 9 G.nd (ej_call c_l_some (G.le (by decide)) (aj_cons (ej_bag 0) (aj_cons (ej_is (y := .list (nfN.map fq)) (ej_lstD (ad_cons (ej_tupD (ad_cons ej_int (ad_cons ej_int ad_nil)) (Nat.le_of_ble_eq_true rfl)) (ad_cons (ej_tupD (ad_cons ej_int (ad_cons ej_int ad_nil)) (Nat.le_of_ble_eq_true rfl)) (ad_cons (ej_tupD (ad_cons ej_int (ad_cons ej_int ad_nil)) (Nat.le_of_ble_eq_true rfl)) (ad_cons (ej_tupD (ad_cons ej_int (ad_cons (ej_pow ej_int ej_int ⟨by decide, by decide, by decide⟩) ad_nil)) (Nat.le_of_ble_eq_true rfl)) (ad_cons (ej_tupD (ad_cons ej_int (ad_cons ej_int ad_nil)) (Nat.le_of_ble_eq_true rfl)) ad_nil))))) (Nat.le_of_ble_eq_true rfl)) norm_is) aj_nil)) rg) ?_
    refine sj_set 8 G.nd (ej_call c_l_multiplied (G.le (by decide)) (aj_cons (ej_call c_l_normal (G.le (by decide)) (aj_cons (ej_dat 1) aj_nil) (R_normal.mk b p low high _ F)) (aj_cons (ej_dat 9) aj_nil)) (R_two.mk _ _ _ _ _ _ _ F.nz qg (by decide) (by decide) (by decide))) (sj_nil ⟨⟨_, rfl⟩, rfl⟩)
  · have h' := of_decide_eq_false h
    refine sj_nil ⟨⟨g9, ?_⟩, ?_⟩
    · unfold nf3; (rw [if_neg h'] <;> try rfl)
    · unfold nf3B; (rw [if_neg h'] <;> try rfl)
  rintro Γ' B' ⟨⟨g9', rfl⟩, rfl⟩
  have ok9 : Bok (nf3B w8 B8) := nf3B_ok ok8
  generalize nf3 b p low w8 f3 B8 = f4 at *
  generalize nf3B w8 B8 = B9 at *
  have tk2 := R_take.mk B9 2 (by decide) (by unfold Bd; decide +kernel) ok9
  refine sj_ret (ej_if (d := .da (fq (if tkV B9 2 = 0 then -f4 else f4))) (x := decide (tkV B9 2 = 0)) (B2 := tkB B9 2) (tj_eqI G.hu (ej_call c_l_take (G.le (by decide)) (aj_cons (ej_bag 0) (aj_cons ej_int aj_nil)) tk2) ej_int) (fun h => ?_) (fun h => ?_)) ⟨rfl, rfl⟩
  · rw [if_pos (of_decide_eq_true h), fq_neg]
    exact ej_tupD (ad_cons (ej_neg (ej_at (ej_dat (d := .tuple [.int f4.num, .int (f4.den : Int)]) 8))) (ad_cons (ej_at (ej_dat (d := .tuple [.int f4.num, .int (f4.den : Int)]) 8)) ad_nil)) (Nat.le_of_ble_eq_true rfl)
  · rw [if_neg (of_decide_eq_false h)]
    exact ej_dat 8

abbrev s_l_floor_root : Stmt := topS 45
theorem sc_l_floor_root : FnScope ["_law_n", "_law_found", "_law_lower"] ["_law_n"] (defScope s_l_floor_root) := ⟨rfl, rfl, rfl, by decide +kernel, rfl, by decide +kernel, by decide +kernel⟩

theorem c_of_l_floor_root (m_int : mg "int" = none) (T : At K mg "_law_floor_root" s_l_floor_root ["_law_n"]) : Cal P w K mg base "_law_floor_root" 4 R_froot :=
  cal_at T sc_l_floor_root (by rintro _ _ _ _ ⟨⟩; rfl) fun f cd0 A out s0 H E0 G Γ B r B' hR => by
  obtain ⟨n, B, h0, hb⟩ := hR
  obtain ⟨m, rfl⟩ := Int.eq_ofNat_of_zero_le h0
  have hb : m < 2 ^ 1400 := hb
  have hs := Float64.isqrt_spec m
  refine sj_when (tj_eqI G.hu (ej_dat 0) ej_int) (fun h => ?_) (fun h => ?_)
  · have hm : m = 0 := by have := of_decide_eq_true h; omega
    subst hm
    refine sj_ret (da' := .int 0) ej_int ⟨?_, rfl⟩
    have hz : Float64.isqrt 0 = 0 := root_uniq hs (by decide)
    show PyData.int 0 = .int ((Float64.isqrt 0 : Nat) : Int)
    rw [hz]; rfl
  have hm : 0 < m := by have := of_decide_eq_false h; omega
  clear h
  have sq : ∀ f : Nat, f * f ≤ m → f < 2 ^ 700 := fun f hf => by
    rcases Nat.lt_or_ge f (2 ^ 700) with z | z
    · exact z
    · exfalso
      have h1 : 2 ^ 700 * 2 ^ 700 ≤ f * f := Nat.mul_le_mul z z
      have h7 : 2 ^ 700 * 2 ^ 700 = 2 ^ 1400 := by rw [← Nat.pow_add]
      omega
  have b1024 : Bd 11 (1024 : Int) := by unfold Bd; decide
  refine sj_set 1 G.nd ej_int ?_
  refine sj_while G.nd (fun Γ' B3 => ∃ f : Nat, Γ' = [.da (.int (m : Int)), .da (.int (f : Int)), .no] ∧ B3 = B ∧ 0 < f ∧ f < 2 ^ 711) (fun Γ' _ => (m + 1 - (intAt Γ' 1).toNat)) ⟨1, rfl, rfl, by decide, Nat.one_lt_two_pow (by decide)⟩ ?_
  rintro Γ3 B3 ⟨f, rfl, rfl, f0, f1⟩
  have bf : Bd 711 (f : Int) := Bd.nat f1
  refine ⟨_, tj_le (ej_mul (ej_dat 1) (ej_dat 1) (cmz bf bf)) (ej_dat 0), fun h => ?_, fun h => ?_⟩
  · have h := of_decide_eq_true h
    rw [← Int.natCast_mul, Int.ofNat_le] at h
    have h7 := sq f h
    have h8 : f ≤ m := Nat.le_trans (Nat.le_mul_of_pos_left f f0) h
    refine sj_set 1 G.nd (ej_mul (ej_dat 1) ej_int (cmz bf b1024)) (sj_nil ⟨⟨f * 1024, by rw [Int.natCast_mul]; rfl, rfl, by omega, ?_⟩, ?_⟩)
    · have : 2 ^ 711 = 2 ^ 700 * 2048 := by rw [show 711 = 700 + 11 from rfl, Nat.pow_add]
      omega
    · show m + 1 - ((f : Int) * 1024).toNat < m + 1 - ((f : Nat) : Int).toNat
      omega
  have h := of_decide_eq_false h
  rw [← Int.natCast_mul, Int.ofNat_le] at h
  have sf : Float64.isqrt m ≤ f := by
    rcases Nat.lt_or_ge f (Float64.isqrt m) with z | z
    · exfalso
      have : f * f ≤ Float64.isqrt m * Float64.isqrt m := Nat.mul_le_mul (Nat.le_of_lt z) (Nat.le_of_lt z)
      omega
    · exact z
  clear h sq
  have s0 : 0 < Float64.isqrt m := by
    rcases Nat.eq_zero_or_pos (Float64.isqrt m) with z | z
    · rw [z] at hs; omega
    · exact z
  have low : ∀ {f : Nat}, 0 < f → PyData.int (((f : Int) + (m : Int) / (f : Int)) / 2) = .int (((f + m / f) / 2 : Nat) : Int) := fun _ => by
    rw [Int.natCast_ediv, Int.natCast_add, Int.natCast_ediv]; rfl
  have b2 : Bd 2 (2 : Int) := by unfold Bd; decide
  refine sj_set 2 G.nd (ej_is (ej_fdiv (ej_int1 m_int (ej_add (ej_dat 1) (ej_fdiv (ej_dat 0) (ej_dat 1) (cdv bf (by omega))))) ej_int (cdv b2 (by decide))) (low f0)) ?_
  refine sj_while G.nd (fun Γ' B5 => ∃ f : Nat, Γ' = [.da (.int (m : Int)), .da (.int (f : Int)), .da (.int (((f + m / f) / 2 : Nat) : Int))] ∧ B5 = B3 ∧ 0 < f ∧ f < 2 ^ 711 ∧ Float64.isqrt m ≤ f) (fun Γ' _ => (intAt Γ' 1).toNat) ⟨f, rfl, rfl, f0, f1, sf⟩ ?_
  clear f0 f1 sf bf
  rintro Γ3 B3 ⟨f, rfl, rfl, f0, f1, sf⟩
  refine ⟨_, tj_lt (ej_dat 2) (ej_dat 1), fun h => ?_, fun h => ?_⟩
  · have h := of_decide_eq_true h
    have g0 := newton f0 hs.1
    generalize (f + m / f) / 2 = g at *
    have g1 : 0 < g := by omega
    have g2 : g < 2 ^ 711 := by omega
    refine sj_set 1 G.nd (ej_dat 2) ?_
    refine sj_set 2 G.nd (ej_is (ej_fdiv (ej_int1 m_int (ej_add (ej_dat 1) (ej_fdiv (ej_dat 0) (ej_dat 1) (cdv (Bd.nat g2) (by omega))))) ej_int (cdv b2 (by decide))) (low g1)) (sj_nil ⟨⟨g, rfl, rfl, g1, g2, g0⟩, ?_⟩)
    show ((g : Nat) : Int).toNat < ((f : Nat) : Int).toNat
    omega
  · have h := of_decide_eq_false h
    have ef := newton_end f0 hs sf (by omega)
    exact sj_ret (ej_dat 1) ⟨by rw [ef]; rfl, rfl⟩

abbrev s_l_root_grid : Stmt := topS 46
theorem sc_l_root_grid : FnScope ["_law_form", "_law_x", "_law_base", "_law_digits", "_law_low", "_law_high", "_law_left", "_law_right", "_law_e", "_law_many", "_law_step"] ["_law_form", "_law_x"] (defScope s_l_root_grid) := ⟨rfl, rfl, rfl, by decide +kernel, rfl, by decide +kernel, by decide +kernel⟩

theorem c_of_l_root_grid (m_int : mg "int" = none) (m_max : mg "max" = none) (c_l_to : Cal P w K mg base "_law_to" 4 R_pow) (c_l_floor_root : Cal P w K mg base "_law_floor_root" 4 R_froot) (T : At K mg "_law_root_grid" s_l_root_grid ["_law_form", "_law_x"]) : Cal P w K mg base "_law_root_grid" 5 R_rgrid :=
  cal_at T sc_l_root_grid (by rintro _ _ _ _ ⟨⟩; rfl) fun f cd0 A out s H E G Γ B r B' hR => by
  obtain ⟨b, p, low, high, q, n, d, B, F, ok⟩ := hR
  have b2 := F.b2; have p2 := F.p2; have p7 := F.p7; have lo := F.lo; have lh := F.lh; have hi := F.hi; have b6 := F.b6
  have hq := ok.hq; have hn := ok.hn; have hd := ok.hd
  have h0 := Rat.le_of_lt ok.h0
  refine sj_unpack [2, 3, 4, 5] G.calm (ej_dat (d := .tuple [.int b, .int p, .int low, .int high]) 0) (pgs_cons (pgN 2 G.nd) (pgs_cons (pgN 3 G.nd) (pgs_cons (pgN 4 G.nd) (pgs_cons (pgN 5 G.nd) pgs_nil)))) rfl ?_
  obtain ⟨i0, hi0⟩ : ∃ i : Nat, max 0 (-2 * ((p : Int) + low)) = (i : Int) := ⟨(max 0 (-2 * ((p : Int) + low))).toNat, by omega⟩
  obtain ⟨j0, hj0⟩ : ∃ j : Nat, max 0 (2 * ((p : Int) + low)) = (j : Int) := ⟨(max 0 (2 * ((p : Int) + low))).toNat, by omega⟩
  have eij : (j0 : Int) - i0 = 2 * ((p : Int) + low) := by omega
  have i0b : i0 ≤ 2400 := by omega
  have j0b : j0 ≤ 2640 := by omega
  have hb0 : Bd 14401 ((b ^ i0 : Nat) : Int) := (bd_pow i0 b6).le (by omega)
  have hbj : Bd 15841 ((b ^ j0 : Nat) : Int) := (bd_pow j0 b6).le (by omega)
  have hsz : Bd 25000 (q.num * ((b ^ i0 : Nat) : Int)) := (hq.nu.mul hb0).le (by omega)
  have hb00 : Bd 25000 ((q.den : Int) * ((b ^ j0 : Nat) : Int)) := (hq.de.mul hbj).le (by omega)
  have b12 : Bd 12 ((p : Int) + low) := by unfold Bd; omega
  have two : Bd 2 (2 : Int) := by unfold Bd; decide
  have mtwo : Bd 2 (-2 : Int) := by unfold Bd; decide
  refine sj_par 6 7 G.nd G.calm (aj_cons (ej_mul (ej_at (ej_dat (d := .tuple [.int q.num, .int (q.den : Int)]) 1)) (ej_call c_l_to (G.le (by decide)) (aj_cons (ej_dat 2) (aj_cons (ej_is (ej_max G.calm m_max ej_int (ej_mul (ej_neg ej_int) (ej_add (ej_dat 3) (ej_dat 4)) (cm mtwo b12))) (congrArg PyData.int hi0)) aj_nil)) (R_pow.mk b i0 B b6 (by omega))) (cmz hq.nu hb0)) (aj_cons (ej_mul (ej_at (ej_dat (d := .tuple [.int q.num, .int (q.den : Int)]) 1)) (ej_call c_l_to (G.le (by decide)) (aj_cons (ej_dat 2) (aj_cons (ej_is (ej_max G.calm m_max ej_int (ej_mul ej_int (ej_add (ej_dat 3) (ej_dat 4)) (cm two b12))) (congrArg PyData.int hj0)) aj_nil)) (R_pow.mk b j0 B b6 (by omega))) (cmz hq.de hbj)) aj_nil)) ?_ (by decide) (by rfl)
  generalize hS : q.num * ((b ^ i0 : Nat) : Int) = S at *
  have hS0 : 0 ≤ S := by rw [← hS]; exact Int.mul_nonneg (Rat.num_nonneg.mpr h0) (Int.natCast_nonneg _)
  have hbd : ∀ t : Nat, (t = 0 ∨ (q.den : Int) * ((b ^ (j0 + 2 * t) : Nat) : Int) ≤ S) → Bd 25000 ((q.den : Int) * ((b ^ (j0 + 2 * t) : Nat) : Int)) := by
    rintro t (rfl | h)
    · exact hb00
    · have : 0 ≤ (q.den : Int) * ((b ^ (j0 + 2 * t) : Nat) : Int) := Int.mul_nonneg (Int.le_of_lt (den_pos q)) (Int.natCast_nonneg _)
      unfold Bd at *; omega
  have hst : ∀ (t m : Nat), (q.den : Int) * ((b ^ (j0 + 2 * t) : Nat) : Int) * ((b ^ (2 * m) : Nat) : Int) = (q.den : Int) * ((b ^ (j0 + 2 * (t + m)) : Nat) : Int) := by
    intro t m; rw [Int.mul_assoc, ← Int.natCast_mul, ← Nat.pow_add, Nat.mul_add, Nat.add_assoc]
  have hpos : ∀ t : Nat, 0 < (q.den : Int) * ((b ^ (j0 + 2 * t) : Nat) : Int) := fun t => Int.mul_pos (den_pos q) (Int.natCast_pos.mpr (Nat.pow_pos (by omega)))
  refine sj_set 8 G.nd (ej_dat 4) ?_
  refine sj_forT (ds := [.int 512, .int 64, .int 8, .int 1]) 9 G.nd G.calm (fun i Γ' B2 => ∃ (t : Nat) (z1 z2 : VD), Γ' = [.da (fmP b p low high), .da (fq q), .da (.int b), .da (.int p), .da (.int low), .da (.int high), .da (.int S), .da (.int ((q.den : Int) * ((b ^ (j0 + 2 * t) : Nat) : Int))), .da (.int (low + t)), z1, z2] ∧ B2 = B ∧
      (t = 0 ∨ (q.den : Int) * ((b ^ (j0 + 2 * t) : Nat) : Int) ≤ S) ∧ (i = 4 → S < (q.den : Int) * ((b ^ (j0 + 2 * (t + 1)) : Nat) : Int)))
    (ej_tupD (ad_cons ej_int (ad_cons ej_int (ad_cons ej_int (ad_cons ej_int ad_nil)))) (Nat.le_of_ble_eq_true rfl)) ⟨0, .no, .no, by rw [show low + ((0 : Nat) : Int) = low by omega]; rfl, rfl, .inl rfl, fun z => absurd z (by decide)⟩ (fun i y Γ' B2 hy hP => ?_) (fun Γ' B2 hP => ?_)
  · obtain ⟨t, z1, z2, rfl, rfl, ht, _⟩ := hP
    obtain ⟨m, rfl, hm1, hm512, hm4⟩ : ∃ m : Nat, y = .int (m : Int) ∧ 1 ≤ m ∧ m ≤ 512 ∧ (i = 3 → m = 1) := by
      match i, hy with
      | 0, hy => cases hy; exact ⟨512, rfl, by decide, by decide, fun z => absurd z (by decide)⟩
      | 1, hy => cases hy; exact ⟨64, rfl, by decide, by decide, fun z => absurd z (by decide)⟩
      | 2, hy => cases hy; exact ⟨8, rfl, by decide, by decide, fun z => absurd z (by decide)⟩
      | 3, hy => cases hy; exact ⟨1, rfl, by decide, by decide, fun _ => rfl⟩
      | i + 4, hy => cases hy
    have hbm : Bd 6145 ((b ^ (2 * m) : Nat) : Int) := (bd_pow (2 * m) b6).le (by omega)
    have bm : Bd 11 ((m : Nat) : Int) := by unfold Bd; omega
    refine sj_set 10 G.nd (ej_call c_l_to (G.le (by decide)) (aj_cons (ej_dat 2) (aj_cons (ej_is (ej_mul ej_int (ej_dat 9) (cm two bm)) (show PyData.int (2 * (m : Int)) = .int ((2 * m : Nat) : Int) by congr 1)) aj_nil)) (R_pow.mk b (2 * m) B2 b6 (by omega))) ?_
    refine sj_while G.nd (fun Γ' B3 => ∃ t : Nat, Γ' = [.da (fmP b p low high), .da (fq q), .da (.int b), .da (.int p), .da (.int low), .da (.int high), .da (.int S), .da (.int ((q.den : Int) * ((b ^ (j0 + 2 * t) : Nat) : Int))), .da (.int (low + t)), .da (.int (m : Int)), .da (.int ((b ^ (2 * m) : Nat) : Int))] ∧ B3 = B2 ∧
      (t = 0 ∨ (q.den : Int) * ((b ^ (j0 + 2 * t) : Nat) : Int) ≤ S)) (fun Γ' _ => (S + 1 - intAt Γ' 7).toNat) ⟨t, rfl, rfl, ht⟩ ?_
    rintro Γ3 B3 ⟨t, rfl, rfl, ht⟩
    have hbt := hbd t ht
    refine ⟨_, tj_ge (ej_dat 6) (ej_mul (ej_dat 7) (ej_dat 10) (cmz hbt hbm)), fun h => ?_, fun h => ?_⟩
    · have hge : (q.den : Int) * ((b ^ (j0 + 2 * (t + m)) : Nat) : Int) ≤ S := by rw [← hst]; exact of_decide_eq_true h
      refine sj_par 7 8 G.nd G.calm (aj_cons (ej_mul (ej_dat 7) (ej_dat 10) (cmz hbt hbm)) (aj_cons (ej_add (ej_dat 8) (ej_dat 9)) aj_nil)) (sj_nil ?_) (by decide) (by rfl)
      rw [hst]
      refine ⟨⟨t + m, by rw [show low + (t : Int) + (m : Int) = low + ((t + m : Nat) : Int) by omega]; rfl, rfl, .inr hge⟩, ?_⟩
      show (S + 1 - (q.den : Int) * ((b ^ (j0 + 2 * (t + m)) : Nat) : Int)).toNat < (S + 1 - (q.den : Int) * ((b ^ (j0 + 2 * t) : Nat) : Int)).toNat
      have hlt : (q.den : Int) * ((b ^ (j0 + 2 * t) : Nat) : Int) < (q.den : Int) * ((b ^ (j0 + 2 * (t + m)) : Nat) : Int) :=
        Int.mul_lt_mul_of_pos_left (Int.ofNat_lt.mpr (Nat.pow_lt_pow_right (by omega) (by omega))) (den_pos q)
      omega
    · have hlt : S < (q.den : Int) * ((b ^ (j0 + 2 * (t + m)) : Nat) : Int) := by rw [← hst]; have := of_decide_eq_false h; omega
      exact sj_nil ⟨t, _, _, rfl, rfl, ht, fun h4 => by rw [hm4 (by omega)] at hlt; exact hlt⟩
  · obtain ⟨t, z1, z2, rfl, rfl, ht, h4⟩ := hP
    have h4 := h4 rfl
    have hbt := hbd t ht
    have es : ∀ t : Nat, ((j0 + 2 * t : Nat) : Int) - (i0 : Nat) = 2 * (p + (low + t)) := fun t => by omega
    have k1 := lt_pw_iff b2 q i0 (j0 + 2 * (t + 1))
    rw [es, hS] at k1
    have k0 := lt_pw_iff b2 q i0 (j0 + 2 * t)
    rw [es, hS] at k0
    have hE : IsR b p low q (low + t + (if decide ((q.den : Int) * ((b ^ (j0 + 2 * t) : Nat) : Int) ≤ S) = true then 1 else 0)) := by
      by_cases h : (q.den : Int) * ((b ^ (j0 + 2 * t) : Nat) : Int) ≤ S
      · rw [decide_eq_true h, if_pos rfl]
        refine ⟨by omega, ?_, .inr ?_⟩
        · have := k1.mpr h4
          rw [show 2 * ((p : Int) + (low + t + 1)) = 2 * (p + (low + (t + 1 : Nat))) by omega]; exact this
        · have := Rat.not_lt.mp (fun z => absurd (k0.mp z) (by omega))
          rw [show 2 * ((p : Int) + (low + t + 1) - 1) = 2 * (p + (low + t)) by omega]; exact this
      · rw [decide_eq_false h, if_neg (by decide)]
        rcases ht with rfl | ht
        · refine ⟨by omega, ?_, .inl (by omega)⟩
          have := k0.mpr (by omega)
          rw [show 2 * ((p : Int) + (low + ((0 : Nat) : Int) + 0)) = 2 * (p + (low + ((0 : Nat) : Int))) by omega]; exact this
        · exact absurd ht h
    have eE := (eR_of b2 hE).symm
    refine sj_set 8 G.nd (ej_is (y := .int (eR b p low q)) (ej_add (ej_dat 8) (ej_intB m_int (ej_ge (ej_dat 6) (ej_dat 7)))) (congrArg PyData.int eE)) ?_
    clear hE eE
    have hE := eR_is (p := p) b2 low ok.h0
    have he := eR_hi F ok hE
    have hD := DR_bd F ok hE
    have hN := NR_bd F hE.1
    have hm := mR_bd F h0 hE
    have hm0 := c_ge b2 h0 (2 * eR b p low q)
    have hlo := hE.1
    have hcR : cR b (eR b p low q) q = isqI (cQ b (2 * eR b p low q) q) := rfl
    generalize eR b p low q = e at *
    have bE : Bd 14 e := by unfold Bd; omega
    have hDp := Dq_pos b2 (2 * e) q
    have e1 : max 0 (-2 * e) = ((-(2 * e)).toNat : Int) := by omega
    have e3 : max 0 (2 * e) = ((2 * e).toNat : Int) := by omega
    have hD' : Bd 8800 (Dq b (2 * e) q) := by unfold Dq; rw [← Int.natCast_mul]; exact Bd.nat hD
    have hdn : Bd 8800 ((b ^ (2 * e).toNat : Nat) : Int) := Bd.nat (Nat.lt_of_le_of_lt (Nat.le_mul_of_pos_left _ q.den_pos) hD)
    have hup : Bd 4680 ((b ^ (-(2 * e)).toNat : Nat) : Int) := Bd.nat hN
    exact sj_ret (ej_tupD (ad_cons (ej_is (y := .int (cR b e q)) (ej_call c_l_floor_root (G.le (by decide)) (aj_cons (ej_is (y := .int (cQ b (2 * e) q)) (ej_fdiv (ej_int1 m_int (ej_mul (ej_at (ej_dat (d := .tuple [.int q.num, .int (q.den : Int)]) 1)) (ej_call c_l_to (G.le (by decide)) (aj_cons (ej_dat 2) (aj_cons (ej_is (ej_max G.calm m_max ej_int (ej_mul (ej_neg ej_int) (ej_dat 8) (cm mtwo bE))) (congrArg PyData.int e1)) aj_nil)) (R_pow.mk b _ _ b6 (by omega))) (cmz hq.nu hup)))
      (ej_is (y := .int (Dq b (2 * e) q)) (ej_mul (ej_at (ej_dat (d := .tuple [.int q.num, .int (q.den : Int)]) 1)) (ej_call c_l_to (G.le (by decide)) (aj_cons (ej_dat 2) (aj_cons (ej_is (ej_max G.calm m_max ej_int (ej_mul ej_int (ej_dat 8) (cm two bE))) (congrArg PyData.int e3)) aj_nil)) (R_pow.mk b _ _ b6 (by omega))) (cmz hq.de hdn)) rfl) (cdv hD' hDp)) rfl) aj_nil) (R_froot.mk _ _ hm0 hm)) (by rw [hcR])) (ad_cons (ej_dat 8) ad_nil)) (Nat.le_of_ble_eq_true rfl)) ⟨rfl, rfl⟩

abbrev s_l_rooted : Stmt := topS 47
theorem sc_l_rooted : FnScope ["_law_form", "_law_way", "_law_x", "_law_c", "_law_e", "_law_unit", "_law_is_exact", "_law_middle", "_law_is_upper", "_law_flags"] ["_law_form", "_law_way", "_law_x"] (defScope s_l_rooted) := ⟨rfl, rfl, rfl, by decide +kernel, rfl, by decide +kernel, by decide +kernel⟩

theorem c_of_l_is_below_raw (T_l_is_below : At K mg "_law_is_below" s_l_is_below ["_law_x", "_law_y"]) : Cal P w K mg base "_law_is_below" 4 R_belowR :=
  cal_at T_l_is_below sc_l_is_below (by rintro _ _ _ _ ⟨⟩; rfl) fun f cd0 A out s H E G Γ B r B' hR => by
  obtain ⟨n, d, m, c, B, h1, h2, h3, h4⟩ := hR
  exact sj_ret (ej_lt (ej_mul (ej_at (ej_dat (d := .tuple [.int n, .int d]) 0)) (ej_at (ej_dat (d := .tuple [.int m, .int c]) 1)) (cmz h1 h4)) (ej_mul (ej_at (ej_dat (d := .tuple [.int m, .int c]) 1)) (ej_at (ej_dat (d := .tuple [.int n, .int d]) 0)) (cmz h3 h2))) ⟨rfl, rfl⟩
theorem c_of_l_rooted (m_int : mg "int" = none) (m_tuple : mg "tuple" = none) (m_sorted : mg "sorted" = none) (m_set : mg "set" = none) (c_l_root_grid : Cal P w K mg base "_law_root_grid" 5 R_rgrid) (c_l_power : Cal P w K mg base "_law_power" 5 R_power_of) (c_l_is_below : Cal P w K mg base "_law_is_below" 4 R_below) (c_l_is_below_raw : Cal P w K mg base "_law_is_below" 4 R_belowR) (c_l_to : Cal P w K mg base "_law_to" 4 R_pow) (c_l_greatest : Cal P w K mg base "_law_greatest" 7 R_great) (c_l_form_of : Cal P w K mg base "_law_form_of" 6 R_formof) (T : At K mg "_law_rooted" s_l_rooted ["_law_form", "_law_way", "_law_x"]) : Cal P w K mg base "_law_rooted" 8 R_rooted :=
  cal_at T sc_l_rooted (by rintro _ _ _ _ ⟨⟩; rfl) fun f cd0 A out s0 H E0 G Γ B r B' hR => by
  obtain ⟨b, p, low, high, way, q, n, d, B, F, hw, ok⟩ := hR
  have hq0 : ¬ q = 0 := fun z => by have := ok.h0; rw [z] at this; exact absurd this (by decide)
  unfold rtP
  rw [if_neg hq0]
  have b2 := F.b2; have p2 := F.p2; have p7 := F.p7; have lh := F.lh; have b6 := F.b6; have flo := F.lo; have fhi := F.hi
  have hE := eR_is (p := p) b2 low ok.h0
  have h0 := Rat.le_of_lt ok.h0
  have can := cR_can (p := p) b2 (by omega) h0 hE
  have cas := prR_cases b2 (eR b p low q) q
  have tin := tinyR (p := p) b2 (by omega) h0 hE
  have hhi := eR_hi F ok hE
  have hD := DR_bd F ok hE
  have hN := NR_bd F hE.1
  have elo := hE.1
  refine sj_unpack [3, 4] G.calm (ej_call c_l_root_grid (G.le (by decide)) (aj_cons (ej_dat 0) (aj_cons (ej_dat 2) aj_nil)) (R_rgrid.mk b p low high q n d B F ok)) (pgs_cons (pgN 3 G.nd) (pgs_cons (pgN 4 G.nd) pgs_nil)) rfl ?_
  generalize eR b p low q = e at *
  have req := raw_eq b2 (cR b e q * cR b e q) (2 * e) q
  have rlt := raw_lt b2 ((2 * cR b e q + 1) * (2 * cR b e q + 1)) (2 * e) q
  have rgt := raw_gt b2 ((2 * cR b e q + 1) * (2 * cR b e q + 1)) (2 * e) q
  rw [Rat.intCast_mul (cR b e q)] at req
  generalize prR b e q = part at *
  generalize hcE : cR b e q = C at *
  have bC : Bd 700 C := by
    have := F.bp; have := can.1; have := can.2.1
    unfold Bd; omega
  have bE : Bd 14 e := by unfold Bd; omega
  have two : Bd 2 (2 : Int) := by unfold Bd; decide
  have four : Bd 3 (4 : Int) := by unfold Bd; decide
  have bU : Bd 8800 ((b ^ (2 * e).toNat : Nat) : Int) := Bd.nat (Nat.lt_of_le_of_lt (Nat.le_mul_of_pos_left _ q.den_pos) hD)
  have bW : Bd 4680 ((b ^ (-(2 * e)).toNat : Nat) : Int) := Bd.nat hN
  have bn : Bd 8800 q.num := ok.hq.nu.le ok.hn
  have bd : Bd 8800 (q.den : Int) := ok.hq.de.le ok.hd
  have h2c : Bd 704 (2 * C + 1) := ((two.mul bC).add (show Bd 1 (1 : Int) by unfold Bd; decide)).le (by decide)
  have efq := fq_pw b2 (2 * e)
  refine sj_set 5 G.nd (d := .da (.tuple [.int ((b ^ (2 * e).toNat : Nat) : Int), .int ((b ^ (-(2 * e)).toNat : Nat) : Int)])) (ej_is (ej_call c_l_power (G.le (by decide)) (aj_cons (ej_at (ej_dat (d := .tuple [.int b, .int p, .int low, .int high]) 0)) (aj_cons (ej_mul ej_int (ej_dat 4) (cm two bE)) aj_nil)) (R_power_of.mk b (2 * e) B (by omega) b6 (by omega) (by omega))) efq) ?_
  generalize hU : ((b ^ (2 * e).toNat : Nat) : Int) = U at *
  generalize hW : ((b ^ (-(2 * e)).toNat : Nat) : Int) = W at *
  have bCC := bC.mul bC
  have bkk := h2c.mul h2c
  refine sj_set 6 G.nd (ej_eqI G.hu (ej_mul (ej_mul (ej_mul (ej_dat 3) (ej_dat 3) (cmz bC bC)) (ej_at (ej_dat (d := .tuple [.int U, .int W]) 5)) (cmz bCC bU)) (ej_at (ej_dat (d := .tuple [.int q.num, .int (q.den : Int)]) 2)) (cmz (bCC.mul bU) bd)) (ej_mul (ej_at (ej_dat (d := .tuple [.int q.num, .int (q.den : Int)]) 2)) (ej_at (ej_dat (d := .tuple [.int U, .int W]) 5)) (cmz bn bW))) ?_
  refine sj_set 7 G.nd (ej_tupD (ad_cons (ej_mul (ej_mul (ej_add (ej_mul ej_int (ej_dat 3) (cmz two bC)) ej_int) (ej_add (ej_mul ej_int (ej_dat 3) (cmz two bC)) ej_int) (cmz h2c h2c)) (ej_at (ej_dat (d := .tuple [.int U, .int W]) 5)) (cmz bkk bU)) (ad_cons (ej_mul ej_int (ej_at (ej_dat (d := .tuple [.int U, .int W]) 5)) (cmz four bW)) ad_nil)) (Nat.le_of_ble_eq_true rfl)) ?_
  rw [decide_eq_decide.mpr req]
  have bl1 := R_belowR.mk q.num (q.den : Int) ((2 * C + 1) * (2 * C + 1) * U) (4 * W) B (bn.le (by decide)) (bd.le (by decide)) ((bkk.mul bU).le (by decide)) ((four.mul bW).le (by decide))
  have bl2 := R_belowR.mk ((2 * C + 1) * (2 * C + 1) * U) (4 * W) q.num (q.den : Int) B ((bkk.mul bU).le (by decide)) ((four.mul bW).le (by decide)) (bn.le (by decide)) (bd.le (by decide))
  rw [decide_eq_decide.mpr rlt] at bl1
  rw [decide_eq_decide.mpr rgt] at bl2
  refine sj_par 8 9 G.nd G.calm (aj_cons ej_bl (aj_cons (ej_lstD ad_nil (Nat.le_of_ble_eq_true rfl)) aj_nil)) ?_ (by decide) (by rfl)
  refine sj_ifM (fun Γ' B3 => Γ' = [.da (fmP b p low high), .da (.str way), .da (fq q), .da (.int C), .da (.int e), .da (.tuple [.int U, .int W]), .da (.bool (decide ((C : Rat) * (C : Rat) * pw b (2 * e) = q))), .da (.tuple [.int ((2 * C + 1) * (2 * C + 1) * U), .int (4 * W)]), .da (.bool (outw way 0 C part)), .da (.list ((flagsL part C ((b ^ (p - 1) : Nat) : Int)).map .str))] ∧ B3 = B) (tj_not (tj_val (ej_dat 6))) (fun h => ?_) (fun h => ?_) ?_
  · have hne : ¬ (C : Rat) * (C : Rat) * pw b (2 * e) = q := by simpa using h
    rcases cas with ⟨z, _⟩ | ⟨_, cas⟩
    · exact absurd z hne
    have hp0 : ¬ part = 0 := by rcases cas with ⟨_, z⟩ | ⟨_, z⟩ | ⟨_, z⟩ <;> omega
    have qt : Qz 6080 4680 (pw b (2 * (low + p - 1))) := by
      refine pw_bd b2 ?_ ?_ (by decide) (by decide)
      · have h3 := F.bh
        have h4 := F.bp
        have h5 : b ^ (2 * (low + p - 1)).toNat ≤ b ^ (p + p + (high.toNat + high.toNat)) := Nat.pow_le_pow_right (by omega) (by omega)
        have h6 : b ^ p * b ^ p < 2 ^ 700 * 2 ^ 700 := Nat.mul_lt_mul'' h4 h4
        have h7 : b ^ high.toNat * b ^ high.toNat < 2 ^ 2340 * 2 ^ 2340 := Nat.mul_lt_mul'' h3 h3
        have h8 := Nat.mul_lt_mul'' h6 h7
        rw [Nat.pow_add, Nat.pow_add, Nat.pow_add] at h5
        have h9 : 2 ^ 700 * 2 ^ 700 * (2 ^ 2340 * 2 ^ 2340) = 2 ^ 6080 := by rw [← Nat.pow_add, ← Nat.pow_add, ← Nat.pow_add]
        rw [h9] at h8
        exact Nat.lt_of_le_of_lt h5 h8
      · exact Nat.lt_of_le_of_lt (Nat.pow_le_pow_right (by omega) (by omega)) (NR_bd F (Int.le_refl low))
    have blp : Bd 14 (low + (p : Int) - 1) := by unfold Bd; omega
    refine sj_own 9 G.nd (fj_lstD (ad_cons ej_str ad_nil) (Nat.le_of_ble_eq_true rfl)) (by exact Nat.le_of_ble_eq_true rfl) ?_
    refine ow_if (fun Γ' B3 acc => Γ' = [.da (fmP b p low high), .da (.str way), .da (fq q), .da (.int C), .da (.int e), .da (.tuple [.int U, .int W]), .da (.bool (decide ((C : Rat) * (C : Rat) * pw b (2 * e) = q))), .da (.tuple [.int ((2 * C + 1) * (2 * C + 1) * U), .int (4 * W)]), .da (.bool false), .no] ∧ B3 = B ∧ acc = (flagsL part C ((b ^ (p - 1) : Nat) : Int)).map .str)
      (tj_val (ej_call c_l_is_below (G.le (by decide)) (aj_cons (ej_dat 2) (aj_cons (ej_call c_l_power (G.le (by decide)) (aj_cons (ej_at (ej_dat (d := .tuple [.int b, .int p, .int low, .int high]) 0)) (aj_cons (ej_mul ej_int (ej_sub (ej_add (ej_at (ej_dat (d := .tuple [.int b, .int p, .int low, .int high]) 0)) (ej_at (ej_dat (d := .tuple [.int b, .int p, .int low, .int high]) 0))) ej_int) (cm two blp)) aj_nil)) (R_power_of.mk b (2 * (low + p - 1)) B (by omega) b6 (by omega) (by omega))) aj_nil)) (R_below.mk _ _ _ _ _ _ B ok.hq qt (by have := ok.hn; have := ok.hd; omega) (by decide)))) (fun h => ?_) (fun h => ?_) ?_
    · have hc := tin.mp (of_decide_eq_true h)
      refine ow_app G.nd ej_str (by decide) (ow_nil ⟨rfl, rfl, ?_⟩)
      unfold flagsL
      rw [if_neg hp0, if_pos hc]; rfl
    · have hc : ¬ C < ((b ^ (p - 1) : Nat) : Int) := fun z => of_decide_eq_false h (tin.mpr z)
      refine ow_nil ⟨rfl, rfl, ?_⟩
      unfold flagsL
      rw [if_neg hp0, if_neg hc]; rfl
    rintro Γ3 B3 acc ⟨rfl, rfl, rfl⟩
    refine ow_end ?_
    obtain ⟨u1, u2⟩ := upperR hw (lt := decide (4 * q < (((2 * C + 1) * (2 * C + 1) : Int) : Rat) * pw b (2 * e))) (gt := decide ((((2 * C + 1) * (2 * C + 1) : Int) : Rat) * pw b (2 * e) < 4 * q)) (k := part) C (by
      rcases cas with ⟨z1, z2⟩ | ⟨z1, z2⟩ | ⟨z1, z2⟩
      · exact .inl ⟨decide_eq_true z1, decide_eq_false (by grind), z2⟩
      · exact .inr (.inl ⟨decide_eq_false (by grind), decide_eq_false (by grind), z2⟩)
      · exact .inr (.inr ⟨decide_eq_false (by grind), decide_eq_true z1, z2⟩))
    refine sj_set 8 G.nd (ej_or (ej_eqS (ej_dat 1) ej_str) fun _ => (ej_one (ej_and (ej_inT (ss := ["even", "away"]) (ej_dat 1) (ej_tupD (ad_cons ej_str (ad_cons ej_str ad_nil)) (Nat.le_of_ble_eq_true rfl))) fun _ => (ej_one (ej_not (ej_call c_l_is_below_raw (G.le (by decide)) (aj_cons (ej_dat (d := .tuple [.int q.num, .int (q.den : Int)]) 2) (aj_cons (ej_dat 7) aj_nil)) (bl1))))))) ?_
    refine sj_when (tj_w (wj_and (tj_eqS (ej_dat 1) ej_str) fun _ => (wj_and (tj_val (ej_dat 8)) fun _ => (wj_and1 (tj_not (tj_val (ej_call c_l_is_below_raw (G.le (by decide)) (aj_cons (ej_dat 7) (aj_cons (ej_dat (d := .tuple [.int q.num, .int (q.den : Int)]) 2) aj_nil)) (bl2)))))))) (fun h => ?_) (fun h => ?_)
    · refine sj_set 8 G.nd (ej_eqI G.hu (ej_mod (ej_int1 m_int (ej_dat 3)) ej_int (by decide)) ej_int) (sj_nil (sj_nil ⟨?_, rfl⟩))
      rw [u1 h]; rfl
    · refine sj_nil ⟨?_, rfl⟩
      rw [u2 h]; rfl
  · have hq : (C : Rat) * (C : Rat) * pw b (2 * e) = q := by simpa using h
    have hp0 : part = 0 := by
      rcases cas with ⟨_, z⟩ | ⟨z, _⟩
      · exact z
      · exact absurd hq z
    subst hp0
    refine sj_nil ⟨?_, rfl⟩
    have ho : outw way 0 C 0 = false := by unfold outw; rw [if_pos (.inl rfl)]
    rw [ho]
    rfl
  rintro Γ3 B3 ⟨rfl, rfl⟩
  have hnb := nb_can (o := outw way 0 C part) b2 p2 can
  have hob := fun h => over_big (o := outw way 0 C part) (high := high) p2 b2 lh can h
  unfold outP
  generalize outw way 0 C part = o at *
  have b1 : ∀ {x : Int}, C + (if o = true then 1 else 0) = x → Bd 701 x := fun {x} hx => by
    rw [← hx]; unfold Bd at *; split <;> omega
  refine sj_set 3 G.nd (ej_add (ej_dat 3) (ej_intB m_int (ej_dat 8))) ?_
  refine sj_ifM (fun Γ' B4 => Γ' = [.da (fmP b p low high), .da (.str way), .da (fq q), .da (.int (nb b p o C e).1), .da (.int (nb b p o C e).2), .da (.tuple [.int U, .int W]), .da (.bool (decide ((C : Rat) * (C : Rat) * pw b (2 * e) = q))), .da (.tuple [.int ((2 * C + 1) * (2 * C + 1) * U), .int (4 * W)]), .da (.bool o), .da (.list ((flagsL part C ((b ^ (p - 1) : Nat) : Int)).map .str))] ∧ B4 = B3) (tj_eqI G.hu (ej_dat 3) (ej_call c_l_to (G.le (by decide)) (aj_cons (ej_at (ej_dat (d := .tuple [.int b, .int p, .int low, .int high]) 0)) (aj_cons (ej_at (ej_dat (d := .tuple [.int b, .int p, .int low, .int high]) 0)) aj_nil)) (R_pow.mk b p B3 b6 (by omega)))) (fun h => ?_) (fun h => ?_) ?_
  · have h := of_decide_eq_true h
    have ho : o = true := by
      cases o with
      | true => rfl
      | false => exfalso; have := can.2.1; rw [if_neg (by decide)] at h; omega
    subst ho
    rw [if_pos rfl] at h
    have en : nb b p true C e = (((b ^ (p - 1) : Nat) : Int), e + 1) := by unfold nb upN; rw [if_pos rfl, if_pos h]
    refine sj_par 3 4 G.nd G.calm (aj_cons (ej_call c_l_to (G.le (by decide)) (aj_cons (ej_at (ej_dat (d := .tuple [.int b, .int p, .int low, .int high]) 0)) (aj_cons (ej_is (ej_sub (ej_at (ej_dat (d := .tuple [.int b, .int p, .int low, .int high]) 0)) ej_int) (show PyData.int ((p : Int) - 1) = .int ((p - 1 : Nat) : Int) by congr 1; omega)) aj_nil)) (R_pow.mk b (p - 1) B3 b6 (by omega))) (aj_cons (ej_add (ej_dat 4) ej_int) aj_nil)) (sj_nil ⟨?_, rfl⟩) (by decide) (by rfl)
    rw [en]; rfl
  · have h := of_decide_eq_false h
    refine sj_nil ⟨?_, rfl⟩
    cases o with
    | true =>
      rw [if_pos rfl] at h
      have en : nb b p true C e = (C + 1, e) := by unfold nb upN; rw [if_pos rfl, if_neg h]
      rw [en]; rfl
    | false =>
      have en : nb b p false C e = (C, e) := rfl
      rw [en, if_neg (by decide), Int.add_zero]; rfl
  rintro Γ4 B4 ⟨rfl, rfl⟩
  generalize (nb b p o C e).1 = C' at *
  generalize (nb b p o C e).2 = E' at *
  refine sj_when (tj_le (ej_dat 4) (ej_at (ej_dat (d := .tuple [.int b, .int p, .int low, .int high]) 0))) (fun h => ?_) (fun h => ?_)
  · have h := of_decide_eq_true h
    rw [if_neg (by omega)]
    refine sj_ret (ej_tupD (ad_cons (ej_tupD (ad_cons ej_str (ad_cons ej_int (ad_cons (ej_dat 3) (ad_cons (ej_dat 4) ad_nil)))) (Nat.le_of_ble_eq_true rfl)) (ad_cons (ej_tupleL m_tuple (ej_dat (d := .list ((flagsL part C ((b ^ (p - 1) : Nat) : Int)).map .str)) 9)) ad_nil)) (Nat.le_of_ble_eq_true rfl)) ⟨?_, rfl⟩
    unfold flagsL
    split
    · rfl
    split <;> rfl
  · have h := of_decide_eq_false h
    have hyes : high < E' := by omega
    have hcb := hob hyes
    rw [if_pos hyes]
    refine sj_set 9 G.nd (ej_tupleL m_tuple (ej_sortedSet (xs := flagsL part C ((b ^ (p - 1) : Nat) : Int) ++ (["inexact", "over"] : List Str)) (out := (["inexact", "over"] : List Str)) G.calm m_sorted m_set (ej_is (ej_catL (ej_dat (d := .list ((flagsL part C ((b ^ (p - 1) : Nat) : Int)).map .str)) 9) (ej_lstD (ad_cons ej_str (ad_cons ej_str ad_nil)) (Nat.le_of_ble_eq_true rfl)) (by rw [List.length_map]; unfold flagsL; split <;> (try split) <;> decide)) (by rw [List.map_append]; rfl)) (by rw [List.length_append]; unfold flagsL; split <;> (try split) <;> decide) (over_words hcb))) ?_
    refine sj_ret (ej_tupD (ad_cons (ej_if (d := .da (tooG b p high way 0)) (tj_is (tj_inT (ss := ["even", "away", "up"]) (ej_dat 1) (ej_tupD (ad_cons ej_str (ad_cons ej_str (ad_cons ej_str ad_nil))) (Nat.le_of_ble_eq_true rfl))) (in3 hw)) (fun h => ?_) (fun h => ?_)) (ad_cons (ej_dat 9) ad_nil)) (Nat.le_of_ble_eq_true rfl)) ⟨rfl, rfl⟩
    · rw [show tooG b p high way 0 = .tuple [.str "inf", .int 0] from if_pos h]
      exact (ej_tupD (ad_cons ej_str (ad_cons ej_int ad_nil)) (Nat.le_of_ble_eq_true rfl))
    · rw [show tooG b p high way 0 = nm 0 (((b ^ p : Nat) : Int) - 1) high from if_neg (by rw [h]; decide)]
      exact (ej_call c_l_form_of (G.le (by decide)) (aj_cons (ej_dat 0) (aj_cons ej_int (aj_cons (ej_call c_l_greatest (G.le (by decide)) (aj_cons (ej_dat 0) aj_nil) (R_great.mk b p low high _ F)) aj_nil))) (R_formof.mk b p low high 0 _ high (grQ b p high) 3040 2341 _ F (great_can F) rfl (Int.le_refl _)))

abbrev s_l_square_fraction : Stmt := topS 48
theorem sc_l_square_fraction : FnScope ["_law_bag_here", "_law_form", "_law_x", "_law_way", "_law_c", "_law_e", "_law_found", "_law_part"] ["_law_bag_here", "_law_form"] (defScope s_l_square_fraction) := ⟨rfl, rfl, rfl, by decide +kernel, rfl, by decide +kernel, by decide +kernel⟩

theorem c_of_l_square_fraction /-H-/ (c_l_sized : Cal P w K mg base "_law_sized" 4 (R_one fun x => fq (absQ x))) (c_l_near_fraction : Cal P w K mg base "_law_near_fraction" 8 R_nearF) (c_l_take : Cal P w K mg base "_law_take" 4 R_take) (c_l_grid : Cal P w K mg base "_law_grid" 5 R_grid) (c_l_multiplied : Cal P w K mg base "_law_multiplied" 6 (R_two (· * ·))) (c_l_power : Cal P w K mg base "_law_power" 5 R_power_of) (c_l_worth : Cal P w K mg base "_law_worth" 7 R_worth) (c_l_number : Cal P w K mg base "_law_number" 6 (R_draw numV numB)) (c_l_some : Cal P w K mg base "_law_some" 5 R_some) (c_l_to : Cal P w K mg base "_law_to" 4 R_pow) (c_l_added : Cal P w K mg base "_law_added" 6 (R_two (· + ·))) /-E-/ (T : At K mg "_law_square_fraction" s_l_square_fraction ["_law_bag_here", "_law_form"]) : CalX P w K mg base "_law_square_fraction" 9 Pre_sqf Post_sqf :=
  calx_at T sc_l_square_fraction (by rintro _ _ ⟨t, rfl, _⟩; rfl) fun f cd0 A out s0 H E0 G Γ B hPre => by
  obtain ⟨t, rfl, hk, ok⟩ := hPre
  obtain ⟨P', H', J, Kk⟩ := k20_of hk
  obtain ⟨b, p, low, high⟩ := t
  have Kk : K20 b p low high P' H' J := Kk
  have F := Kk.F
  have Z := Kk.Z
  have pb := Kk.pb; have hb := Kk.hb; have jb := Kk.jb; have few := Kk.few; have pj := Z.pj
  have b2 := F.b2; have p2 := F.p2; have p7 := F.p7
  clear hk
  suffices h : SJ _ ([VD.bag, .da (fmP b p low high)] ++ List.replicate 6 .no) B (defBody s_l_square_fraction) { nx := fun _ _ => False, rt := fun d B2 => Bok B2 ∧ ∃ x : Rat, d = fq x ∧ 0 ≤ x ∧ Qz 8800 8800 x ∧ x.den * b ^ (2 * low).toNat < 2 ^ 8800 } by
    refine sj_mono h (fun _ _ z => z.elim) (fun r B2 z => ⟨z.1, fun t' et => ?_⟩) (fun _ _ z => z) (fun _ _ z => z)
    have et : (b, p, low, high) = t' := by
      injection et with _ et
      injection et with et _
      injection et with et
      exact F4.inj (t := (b, p, low, high)) et
    subst et
    exact z.2
  have qx := Z.nfQ F B
  have qa := qx.abs
  have a0 := absQ_nonneg (nfQ b p low high B)
  have ok1 := nfB_ok (b := b) (p := p) (low := low) (high := high) ok
  have r1 := R_nearF.mk b p low high B F ok
  generalize nfQ b p low high B = x0 at *
  generalize nfB b p low high B = B1 at *
  have b7 : Bd 8000 (7 : Int) := by unfold Bd; decide +kernel
  have ok2 := tkB_ok ok1 7
  refine sj_par 2 3 G.nd G.calm (aj_cons (ej_call c_l_sized (G.le (by decide)) (aj_cons (ej_call c_l_near_fraction (G.le (by decide)) (aj_cons (ej_bag 0) (aj_cons (ej_dat (d := fmP b p low high) 1) aj_nil)) (r1)) aj_nil) (R_one.mk x0 B1)) (aj_cons (ej_call c_l_take (G.le (by decide)) (aj_cons (ej_bag 0) (aj_cons ej_int aj_nil)) (R_take.mk B1 7 (by decide) b7 ok1)) aj_nil)) ?_ (by decide) (by rfl)
  have v0 := tkV_ge B1 (m := 7) (by decide)
  have v1 := tkV_lt B1 (m := 7) (by decide)
  generalize tkV B1 7 = wv at *
  generalize tkB B1 7 = B2 at *
  generalize absQ x0 = x at *
  clear r1 qx
  refine sj_when (tj_eqI G.hu (ej_dat 3) ej_int) (fun h => ?_) (fun h => ?_)
  · obtain ⟨z1, z2⟩ := sq_ok Kk qa (by omega) (by omega) (fun y => by have := few y; omega)
    exact sj_ret (ej_dat (d := fq x) 2) ⟨ok2, x, rfl, a0, z1, z2⟩
  clear h
  refine sj_ifM (fun Γ' B' => ∃ (x : Rat) (n d : Nat) (g4 g5 : VD), Γ' = [.bag, .da (fmP b p low high), .da (fq x), .da (.int wv), g4, g5, .no, .no] ∧ Bok B' ∧ 0 ≤ x ∧ Qz n d x ∧ n ≤ 4290 ∧ d ≤ 3580 ∧ (p < 40 → n ≤ 2016 ∧ d ≤ 1886)) (tj_inD (d := .int wv) (ds := [.int 1, .int 4]) G.hu (ej_dat 3) (ej_tupD (ad_cons ej_int (ad_cons ej_int ad_nil)) (Nat.le_of_ble_eq_true rfl)) rfl (shaped_ii 1 4) (Nat.le_of_ble_eq_true rfl)) (fun h => ?_) (fun h => sj_nil ⟨x, _, _, _, _, rfl, ok2, a0, qa, by omega, by omega, fun y => by have := few y; omega⟩) ?_
  · have hE := eQ_is (p := p) b2 low x
    have hf := Z.half F a0 qa
    have c0 := c_ge b2 a0 (eQ b p low x)
    have hl := hE.1
    have e_hi := F.e_hi (n := 8900) (d := 8900) (qa.le (by omega) (by omega)) a0 hE (by decide)
    have c1 := c_lt b2 hE
    have flo := F.lo
    have bp := F.bp
    have ebd := F.u_bd (n := 3580) (d := 3580) (qa.le (by omega) (by omega)) a0 hE
    refine sj_unpack [4, 5] G.calm (ej_call c_l_grid (G.le (by decide)) (aj_cons (ej_dat (d := fmP b p low high) 1) (aj_cons (ej_dat (d := fq x) 2) aj_nil)) (R_grid.mk b p low high x _ _ B2 F a0 qa (by omega) (by omega))) (pgs_cons (pgN 4 G.nd) (pgs_cons (pgN 5 G.nd) pgs_nil)) rfl ?_
    generalize eQ b p low x = e at *
    generalize cQ b e x = c at *
    have bc : Bd 700 c := by unfold Bd; omega
    have two : Bd 2 (2 : Int) := by unfold Bd; decide
    have hh : Qz 703 2 (((2 * c + 1 : Int) : Rat) / 2) := by
      rw [show ((2 * c + 1 : Int) : Rat) / 2 = (2 * c + 1) /. 2 by rw [Rat.divInt_eq_div]; rfl]
      obtain ⟨z1, z2⟩ := divInt_bd (n := 2 * c + 1) (d := 2) (a := 703) (b := 2) (by decide) (by unfold Bd at *; omega) (by unfold Bd; decide)
      exact ⟨z1, z2⟩
    have hpos : 0 ≤ ((2 * c + 1 : Int) : Rat) / 2 * pw b e := by
      refine Rat.mul_nonneg ?_ (Rat.le_of_lt (pw_pos b2 e))
      rw [Rat.div_def]
      exact Rat.mul_nonneg (by rw [← Rat.intCast_zero]; exact cast_le.mpr (by omega)) (by decide +kernel)
    refine sj_set 2 G.nd (ej_call c_l_multiplied (G.le (by decide)) (aj_cons (ej_is (ej_tupD (ad_cons (ej_add (ej_mul ej_int (ej_dat 4) (cm two bc)) ej_int) (ad_cons ej_int ad_nil)) (Nat.le_of_ble_eq_true rfl)) (half_fq c)) (aj_cons (ej_call c_l_power (G.le (by decide)) (aj_cons (ej_at (ej_dat (d := .tuple [.int b, .int p, .int low, .int high]) 1)) (aj_cons (ej_dat 5) aj_nil)) (R_power_of.mk b e B2 (by omega) F.b6 (by omega) (by omega))) aj_nil)) (R_two.mk _ _ _ _ _ _ B2 hh ebd (by omega) (by omega) (by omega))) (sj_nil ⟨_, _, _, _, _, rfl, ok2, hpos, hf, by omega, by omega, fun y => by have := few y; omega⟩)
  clear a0 qa x ok2 ok1 ok
  rintro Γ3 B3 ⟨x, n, d, g4, g5, rfl, ok3, a0, qa, hn, hd, hfew⟩
  refine sj_ifM (fun Γ' B' => ∃ (x : Rat) (n d : Nat) (g4 g5 : VD), Γ' = [.bag, .da (fmP b p low high), .da (fq x), .da (.int wv), g4, g5, .no, .no] ∧ Bok B' ∧ 0 ≤ x ∧ Qz n d x ∧ n ≤ 4290 ∧ d ≤ 3580 ∧ (p < 40 → n ≤ 2016 ∧ d ≤ 1886)) (tj_eqI G.hu (ej_dat 3) ej_int) (fun h => ?_) (fun h => sj_nil ⟨x, _, _, _, _, rfl, ok3, a0, qa, hn, hd, hfew⟩) ?_
  · obtain ⟨sn, cn, en, hv, okv⟩ := num_parts F B3
    have r3 := R_draw.mk (f := numV) (g := numB) b p low high B3 F ok3
    rw [hv] at r3
    have ok4 := numB_ok (b := b) (p := p) (low := low) (high := high) ok3
    generalize numB b p low high B3 = B4 at *
    have okn : Vok b p low high (.num 0 cn en) := ⟨.inl rfl, okv.2⟩
    have wq : (Va.num 0 cn en).wQ b = (cn : Rat) * pw b en := by
      show ((if (0 : Int) = 1 then -cn else cn : Int) : Rat) * pw b en = _
      rw [if_neg (by decide)]
    have qz : Qz (P' + H') (1 + J) ((Va.num 0 cn en).wQ b) := by
      rw [wq]
      exact (Z.c F okv.2.1 okv.2.2.1).mul (Z.pw F okv.2.2.2.1 okv.2.2.2.2)
    have w0 : 0 ≤ (Va.num 0 cn en).wQ b := by
      rw [wq]
      exact Rat.mul_nonneg (by rw [← Rat.intCast_zero]; exact cast_le.mpr okv.2.1) (Rat.le_of_lt (pw_pos b2 en))
    refine sj_set 2 G.nd (ej_call c_l_worth (G.le (by decide)) (aj_cons (ej_dat (d := fmP b p low high) 1) (aj_cons (ej_is (ej_catT (ej_tupD (ad_cons ej_str (ad_cons ej_int ad_nil)) (Nat.le_of_ble_eq_true rfl)) (ej_sliceT (l := some 2) (u := none) (ej_call c_l_number (G.le (by decide)) (aj_cons (ej_bag 0) (aj_cons (ej_dat (d := fmP b p low high) 1) aj_nil)) (r3)) (oj_some ej_int) oj_none) (Nat.le_of_ble_eq_true rfl)) (show _ = (Va.num 0 cn en).d from rfl)) aj_nil)) (R_worth.mk b p low high 0 cn en B4 F okn)) (sj_nil ⟨_, _, _, _, _, rfl, ok4, w0, qz, by omega, by omega, fun y => by have := few y; omega⟩)
  clear a0 qa x ok3 hn hd hfew n d g4 g5 B3
  rintro Γ3 B3 ⟨x, n, d, g4, g5, rfl, ok3, a0, qa, hn, hd, hfew⟩
  refine sj_set 6 G.nd (ej_call c_l_multiplied (G.le (by decide)) (aj_cons (ej_dat (d := fq x) 2) (aj_cons (ej_dat (d := fq x) 2) aj_nil)) (R_two.mk _ _ _ _ x x B3 qa qa (by omega) (by omega) (by omega))) ?_
  have qs := qa.mul qa
  have s0 : 0 ≤ x * x := Rat.mul_nonneg a0 a0
  generalize x * x = y at *
  refine sj_ifM (fun Γ' B' => ∃ (y : Rat) (g7 : VD), Γ' = [.bag, .da (fmP b p low high), .da (fq x), .da (.int wv), g4, g5, .da (fq y), g7] ∧ Bok B' ∧ 0 ≤ y ∧ Qz 8800 8800 y ∧ y.den * b ^ (2 * low).toNat < 2 ^ 8800) (tj_w (wj_and (tj_inD (d := .int wv) (ds := [.int 3, .int 4]) G.hu (ej_dat 3) (ej_tupD (ad_cons ej_int (ad_cons ej_int ad_nil)) (Nat.le_of_ble_eq_true rfl)) rfl (shaped_ii 3 4) (Nat.le_of_ble_eq_true rfl)) fun _ => (wj_and1 (tj_lt (ej_at (ej_dat (d := .tuple [.int b, .int p, .int low, .int high]) 1)) ej_int)))) (fun h => ?_) (fun h => ?_) ?_
  · obtain ⟨h1, h2⟩ := Bool.and_eq_true_iff.mp h
    have h2 : p < 40 := by have := of_decide_eq_true h2; omega
    obtain ⟨hn', hd'⟩ := hfew h2
    have six := Kk.six h2
    have r5 := R_some.mk B3 ([1, -1].map .int) (by decide) (by decide) ok3
    rw [pick_int [1, -1] B3 (by decide)] at r5
    have pm := pm_mem B3
    have ok5 := tkB_ok ok3 ([1, -1].map PyData.int).length
    generalize tkB B3 ([1, -1].map PyData.int).length = B5 at *
    generalize pickI [1, -1] B3 = i at *
    obtain ⟨kk, ek, hk6⟩ : ∃ kk : Nat, (bif decide (wv = 3) then (2 : Int) else 6) * (p : Int) + 2 = (kk : Int) ∧ kk ≤ 6 * p + 2 := by
      cases decide (wv = 3) with
      | true => exact ⟨2 * p + 2, by show (2 : Int) * p + 2 = _; omega, by omega⟩
      | false => exact ⟨6 * p + 2, by show (6 : Int) * p + 2 = _; omega, by omega⟩
    have hN : 0 < b ^ kk := Nat.pow_pos (by omega)
    have hN2 : b ^ kk < 2 ^ 707 := Nat.lt_of_le_of_lt (Nat.pow_le_pow_right (by omega) hk6) six
    have bm : Bd 3 (bif decide (wv = 3) then (2 : Int) else 6) := by unfold Bd; cases decide (wv = 3) <;> decide
    have bp : Bd 7 (p : Int) := by unfold Bd; omega
    refine sj_set 7 G.nd (ej_is (ej_tupD (ad_cons (ej_call c_l_some (G.le (by decide)) (aj_cons (ej_bag 0) (aj_cons (ej_lstD (ad_cons ej_int (ad_cons (ej_neg ej_int) ad_nil)) (Nat.le_of_ble_eq_true rfl)) aj_nil)) (r5)) (ad_cons (ej_call c_l_to (G.le (by decide)) (aj_cons (ej_at (ej_dat (d := .tuple [.int b, .int p, .int low, .int high]) 1)) (aj_cons (ej_is (ej_add (ej_mul (ej_ifI (tj_eqI G.hu (ej_dat 3) ej_int) (fun _ => ej_int) fun _ => ej_int) (ej_at (ej_dat (d := .tuple [.int b, .int p, .int low, .int high]) 1)) (cm bm bp)) ej_int) (congrArg PyData.int ek)) aj_nil)) (R_pow.mk b kk B5 F.b6 (by omega))) ad_nil)) (Nat.le_of_ble_eq_true rfl)) (pm_fq pm hN)) ?_
    have qp : Qz 1 707 ((i : Rat) / (((b ^ kk : Nat) : Int) : Rat)) := by
      rw [← Rat.divInt_eq_div]
      obtain ⟨z1, z2⟩ := divInt_bd (n := i) (d := ((b ^ kk : Nat) : Int)) (a := 1) (b := 707) (by omega) (by unfold Bd; omega) (Bd.nat hN2)
      exact ⟨z1, z2⟩
    have hge := pm_ge pm hN s0
    generalize (i : Rat) / (((b ^ kk : Nat) : Int) : Rat) = u at *
    have qu := qs.mul qp
    have qt := qs.add qu 8700 (by omega) (by omega)
    obtain ⟨z1, z2⟩ := sq_ok Kk qt (by decide) (by omega) (fun _ => by omega)
    exact sj_set 6 G.nd (ej_call c_l_added (G.le (by decide)) (aj_cons (ej_dat (d := fq y) 6) (aj_cons (ej_call c_l_multiplied (G.le (by decide)) (aj_cons (ej_dat (d := fq y) 6) (aj_cons (ej_dat (d := fq u) 7) aj_nil)) (R_two.mk _ _ _ _ y u B5 qs qp (by omega) (by omega) (by omega))) aj_nil)) (R_two.mk _ _ _ _ y (y * u) B5 qs qu (by omega) (by omega) (by omega))) (sj_nil ⟨_, _, rfl, ok5, hge, z1, z2⟩)
  · obtain ⟨z1, z2⟩ := sq_ok Kk qs (by omega) (by omega) (fun z => by have := hfew z; omega)
    exact sj_nil ⟨y, _, rfl, ok3, s0, z1, z2⟩
  rintro Γ4 B4 ⟨y, g7, rfl, ok4, y0, z1, z2⟩
  exact sj_ret (ej_dat (d := fq y) 6) ⟨ok4, y, rfl, y0, z1, z2⟩

abbrev s_law : Stmt := topS 49
theorem sc_law : FnScope ["_law_script", "_law_bag_here", "_law_turn", "_law_form", "_law_x", "_law_way", "_law_due", "_law_lower", "_law_upper", "_law_one", "_law_other"] ["_law_script"] (defScope s_law) := ⟨rfl, rfl, rfl, by decide +kernel, rfl, by decide +kernel, by decide +kernel⟩

theorem ok_law {f : Addr} {fd : FuncData} /-H-/ (m_range : mg "range" = none) (c_l_formats : Cal P w K mg base "_law_formats" 6 (R_fmt smallV smallB)) (c_l_any_format : Cal P w K mg base "_law_any_format" 7 (R_fmt afV afB)) (c_l_rooted : Cal P w K mg base "_law_rooted" 8 R_rooted) (c_l_alike : Cal P w K mg base "_law_alike" 4 R_alike) (c_rounded_root : Cal P w K mg base "rounded_root" 7 R_rroot) (c_l_worth : Cal P w K mg base "_law_worth" 7 R_worth) (c_l_is_below : Cal P w K mg base "_law_is_below" 4 R_below) (c_l_multiplied : Cal P w K mg base "_law_multiplied" 6 (R_two (· * ·))) (c_l_bag : Cal P w K mg base "_law_bag" 4 R_bag) (c_l_square_fraction : CalX P w K mg base "_law_square_fraction" 9 Pre_sqf Post_sqf) (c_l_ways : Cal P w K mg base "_law_ways" 4 R_ways) /-E-/
    (F : Fun K "law" "law" s_law f fd) : FnG P w K mg base 12 f fd ["_law_script"] (spLaw K) := by
  refine fnG_of F sc_law (by rintro vs H Q E ⟨a, ns, rfl, _⟩; rfl) fun cd0 A out s H vs Q E G hsp => ?_
  obtain ⟨a, ns, rfl, hS, hlen, q⟩ := hsp
  have Ev : EnvD K none H (L2.start ["_law_script", "_law_bag_here", "_law_turn", "_law_form", "_law_x", "_law_way", "_law_due", "_law_lower", "_law_upper", "_law_one", "_law_other"] [.ref a]) ([.scr ns] ++ List.replicate (11 - 1) .no) := start_env (Γ := [.scr ns]) ⟨⟨a, rfl, hS⟩, trivial⟩ (Nat.le_of_ble_eq_true rfl)
  have O : On K none ⟨0, 0, 0, []⟩ H H := ⟨Same.refl _, fun _ _ z => nomatch z⟩
  refine sj_law 1 G.nd (y := 1234567891) (ns := (ns.take 63).map absI) (ej_call c_l_bag (G.le (by decide)) (aj_cons (ej_var 0 (d := .scr ns) rfl (fun z => nomatch z)) aj_nil) (R_bag.mk ns _ hlen)) ?_ (Ev := Ev) (O := O) (q := q)
  generalize hB0 : (⟨0, 1234567891, 0, (ns.take 63).map absI⟩ : Bag) = B0
  have okB : Bok B0 := by rw [← hB0]; show ((ns.take 63).map absI).length ≤ 63; rw [List.length_map, List.length_take]; omega
  clear hB0
  have b2r : ∀ {t : F4} {x : Rat}, k20B t = true → 0 < x → Qz 8800 8800 x → x.den * t.1 ^ (2 * t.2.2.1).toNat < 2 ^ 8800 → RtOk t.1 t.2.2.1 x 8800 8800 := fun _ h0 hq hL => ⟨h0, hq, Nat.le_refl _, Nat.le_refl _, hL⟩
  refine sj_forR (n := 5) 2 G.nd G.calm m_range (fun i Γ' B' => (∃ g2 g3 g4 g5 g6 g7 g8 g9 g10, Γ' = [.no, .bag, g2, g3, g4, g5, g6, g7, g8, g9, g10]) ∧ Bok B') ej_int (by decide) ⟨⟨_, _, _, _, _, _, _, _, _, rfl⟩, okB⟩ (fun ti Γ' B' hi hP => ?_) (fun Γ' B' hP => ?_)
  · obtain ⟨⟨g2, g3, g4, g5, g6, g7, g8, g9, g10, rfl⟩, ok⟩ := hP
    refine sj_setX 3 G.nd (ex_mono (Φ := fun y B' => Bok B' ∧ ∃ t : F4, y = t.d ∧ k20B t = true) (ex_if (tx_tj (tj_lt (ej_dat 2) ej_int) ⟨fun _ => ?_, fun _ => ?_⟩)) fun y B2 hy => ?_)
    · exact ex_ej (ej_call c_l_formats (G.le (by decide)) (aj_cons (ej_bag 1) aj_nil) (R_fmt.mk (f := smallV) (g := smallB) B' ok)) ⟨smallB_ok ok, _, rfl, small_kV B'⟩
    · exact ex_ej (ej_call c_l_any_format (G.le (by decide)) (aj_cons (ej_bag 1) aj_nil) (R_fmt.mk (f := afV) (g := afB) B' ok)) ⟨afB_ok ok, _, rfl, af_kV B'⟩
    obtain ⟨ok2, t, rfl, hk⟩ := hy
    obtain ⟨P', H', J, Kk⟩ := k20_of hk
    have F := Kk.F
    refine sj_setX 4 G.nd (ex_call c_l_square_fraction (G.le (by decide)) (ax_bag 1 (ax_aj (aj_cons (ej_dat (d := t.d) 3) aj_nil) ⟨⟨t, rfl, hk, ok2⟩, fun r B3 hp => ?_⟩)))
    obtain ⟨ok3, hp⟩ := hp
    obtain ⟨x, rfl, x0, xq, xL⟩ := hp t rfl
    have rr : ∀ {way : Str}, way ∈ wayList → R_rroot [.da t.d, .da (.str way), .da (fq x)] B3 (rtP t.1 t.2.1 t.2.2.1 t.2.2.2 way x) B3 := fun {way} hw => by
      by_cases hx : x = 0
      · subst hx; exact R_rroot.zero t.1 t.2.1 t.2.2.1 t.2.2.2 way B3 F hw
      · exact R_rroot.mk t.1 t.2.1 t.2.2.1 t.2.2.2 way x 8800 8800 B3 F hw (b2r hk (by grind) xq xL)
    have rn : ∀ {way : Str}, Nd 3 160 (rtP t.1 t.2.1 t.2.2.1 t.2.2.2 way x) := fun {way} => by
      by_cases hx : x = 0
      · subst hx
        unfold rtP
        rw [if_pos rfl]
        exact two_nd F (va_nd F (v := .num 0 0 t.2.2.1) (zero_can F (.inl rfl)).ok) (l := []) (fun y hy => by cases hy) (by decide)
      · exact rt_nd F (by grind)
    refine sj_forL (ds := wayList.map .str) 5 G.nd G.calm (fun i Γ' B4 => (∃ g5 g6, Γ' = [.no, .bag, .da (.int (ti : Nat)), .da t.d, .da (fq x), g5, g6, g7, g8, g9, g10]) ∧ B4 = B3) (ej_call0 c_l_ways (G.le (by decide)) (R_ways.mk B3)) ⟨⟨_, _, rfl⟩, rfl⟩ (fun j yy Γ' B4 hy' hP => ?_) (fun Γ' B4 hP => ?_)
    · obtain ⟨⟨g5', g6', rfl⟩, rfl⟩ := hP
      rw [List.getElem?_map] at hy'
      obtain ⟨way, hway, rfl⟩ := Option.map_eq_some_iff.mp hy'
      have hw : way ∈ wayList := List.mem_of_getElem? hway
      have k1 := rr hw
      have k2 := rn (way := way)
      refine sj_set 6 G.nd (B1 := B4) (d := .da (rtP t.1 t.2.1 t.2.2.1 t.2.2.2 way x)) (ej_if (B1 := B4) (B2 := B4) (tj_gt (ej_at (ej_dat (d := .tuple [.int x.num, .int (x.den : Int)]) 4)) ej_int) (fun h => ?_) (fun h => ?_)) ?_
      · have hx : 0 < x := by
          have := of_decide_eq_true h
          refine Rat.not_le.mp fun z => ?_
          have := Rat.num_nonneg (q := x)
          have : x = 0 := by grind
          subst this
          exact absurd ‹0 < (0 : Rat).num› (by decide)
        exact (ej_call c_l_rooted (G.le (by decide)) (aj_cons (ej_dat (d := t.d) 3) (aj_cons (ej_dat 5) (aj_cons (ej_dat (d := fq x) 4) aj_nil))) (R_rooted.mk t.1 t.2.1 t.2.2.1 t.2.2.2 way x 8800 8800 B4 F hw (b2r hk hx xq xL)))
      · have hx : x = 0 := by
          have h1 := of_decide_eq_false h
          have h3 := Rat.num_nonneg.mpr x0
          exact Rat.num_eq_zero.mp (by omega)
        have e : rtP t.1 t.2.1 t.2.2.1 t.2.2.2 way x = .tuple [.tuple [.str "num", .int 0, .int 0, .int t.2.2.1], .tuple []] := by unfold rtP; rw [if_pos hx]; rfl
        rw [e]
        exact (ej_tupD (ad_cons (ej_tupD (ad_cons ej_str (ad_cons ej_int (ad_cons ej_int (ad_cons (ej_at (ej_dat (d := .tuple [.int t.1, .int t.2.1, .int t.2.2.1, .int t.2.2.2]) 3)) ad_nil)))) (Nat.le_of_ble_eq_true rfl)) (ad_cons (ej_tupD ad_nil (Nat.le_of_ble_eq_true rfl)) ad_nil)) (Nat.le_of_ble_eq_true rfl))
      have kb := rtP_bx t.1 t.2.1 t.2.2.1 t.2.2.2 way x
      generalize rtP t.1 t.2.1 t.2.2.1 t.2.2.2 way x = a0 at *
      exact sj_when (x := false) (tj_is (tj_not (tj_val (ej_call c_l_alike (G.le (by decide)) (aj_cons (ej_call c_rounded_root (G.le (by decide)) (aj_cons (ej_dat (d := t.d) 3) (aj_cons (ej_dat 5) (aj_cons (ej_dat (d := fq x) 4) aj_nil))) (k1)) (aj_cons (ej_dat 6) aj_nil)) (R_alike.mk a0 B4 (k2.okd (by decide) (by decide)) kb)))) rfl) (fun h => Bool.noConfusion h) (fun h => sj_nil ⟨⟨_, _, rfl⟩, rfl⟩)
    · obtain ⟨⟨g5', g6', rfl⟩, rfl⟩ := hP
      obtain ⟨v, u, fl, gl, e1, e2, ⟨c1, e3, rfl⟩, hv, hle, hu⟩ : ∃ (v u : Va) (fl gl : List Str), rtP t.1 t.2.1 t.2.2.1 t.2.2.2 "down" x = .tuple [v.d, words fl] ∧ rtP t.1 t.2.1 t.2.2.1 t.2.2.2 "up" x = .tuple [u.d, words gl] ∧ (∃ c e, v = .num 0 c e) ∧ Vok t.1 t.2.1 t.2.2.1 t.2.2.2 v ∧ v.wQ t.1 * v.wQ t.1 ≤ x ∧ (u.isNum = false ∨ ∃ c e, u = .num 0 c e ∧ Vok t.1 t.2.1 t.2.2.1 t.2.2.2 (.num 0 c e) ∧ x ≤ (Va.num 0 c e).wQ t.1 * (Va.num 0 c e).wQ t.1) := by
        by_cases hx : x = 0
        · subst hx
          have w0 : (Va.num 0 0 t.2.2.1).wQ t.1 = 0 := by
            show ((if (0 : Int) = 1 then -0 else 0 : Int) : Rat) * pw t.1 t.2.2.1 = 0
            rw [if_neg (by decide), Rat.intCast_zero, Rat.zero_mul]
          have zc := (zero_can F (s := 0) (.inl rfl)).ok
          refine ⟨.num 0 0 t.2.2.1, .num 0 0 t.2.2.1, [], [], by unfold rtP; rw [if_pos rfl]; rfl, by unfold rtP; rw [if_pos rfl]; rfl, ⟨_, _, rfl⟩, zc, ?_, .inr ⟨_, _, rfl, zc, ?_⟩⟩
          · rw [w0, Rat.zero_mul]; exact Rat.le_refl
          · rw [w0, Rat.zero_mul]; exact Rat.le_refl
        · have hx : 0 < x := by grind
          obtain ⟨c, e, h1, h3, h4⟩ := rt_down F hx
          refine ⟨_, _, _, _, rtP_eq hx, rtP_eq hx, ⟨c, e, h1⟩, by rw [h1]; exact h3.ok, by rw [h1]; exact h4, ?_⟩
          rcases rt_up F hx with h5 | ⟨c', e', h5, h6, h7⟩
          · left; rw [h5]; rfl
          · right; exact ⟨c', e', h5, h6.ok, h7⟩
      have k1 := rr (way := "down") (by decide)
      have k2 := rr (way := "up") (by decide)
      rw [e1] at k1
      rw [e2] at k2
      refine sj_par 7 8 G.nd G.calm (d1 := .da (Va.num 0 c1 e3).d) (d2 := .da u.d) (aj_cons (ej_at (ds := [(Va.num 0 c1 e3).d, words fl]) (ej_call c_rounded_root (G.le (by decide)) (aj_cons (ej_dat (d := t.d) 3) (aj_cons ej_str (aj_cons (ej_dat (d := fq x) 4) aj_nil))) (k1))) (aj_cons (ej_at (ds := [u.d, words gl]) (ej_call c_rounded_root (G.le (by decide)) (aj_cons (ej_dat (d := t.d) 3) (aj_cons ej_str (aj_cons (ej_dat (d := fq x) 4) aj_nil))) (k2))) aj_nil)) ?_ (by decide) (by rfl)
      have q1 := F.wz hv
      have w1 := R_worth.mk t.1 t.2.1 t.2.2.1 t.2.2.2 0 c1 e3 B4 F hv
      generalize (Va.num 0 c1 e3).wQ t.1 = W at *
      refine sj_set 9 G.nd (ej_call c_l_worth (G.le (by decide)) (aj_cons (ej_dat (d := t.d) 3) (aj_cons (ej_dat (d := (Va.num 0 c1 e3).d) 7) aj_nil)) (w1)) ?_
      refine sj_when (x := false) (tj_is (tj_val (ej_call c_l_is_below (G.le (by decide)) (aj_cons (ej_dat (d := fq x) 4) (aj_cons (ej_call c_l_multiplied (G.le (by decide)) (aj_cons (ej_dat (d := fq W) 9) (aj_cons (ej_dat (d := fq W) 9) aj_nil)) (R_two.mk _ _ _ _ W W B4 q1 q1 (by decide) (by decide) (by decide))) aj_nil)) (R_below.mk _ _ _ _ x (W * W) B4 xq (q1.mul q1) (by decide) (by decide)))) (decide_eq_false (Rat.not_lt.mpr hle))) (fun h => Bool.noConfusion h) (fun h => ?_)
      clear h
      refine sj_when (x := u.isNum) (tj_is (tj_eqS (ej_at (ej_dat (d := .tuple u.l) 8) u.at0) ej_str) (tag_numD u)) (fun h => ?_) (fun h => sj_nil ⟨⟨_, _, _, _, _, _, _, _, _, rfl⟩, ok3⟩)
      rcases hu with z | ⟨c, e, rfl, hv2, hge⟩
      · rw [z] at h; cases h
      have q2 := F.wz hv2
      have w2 := R_worth.mk t.1 t.2.1 t.2.2.1 t.2.2.2 0 c e B4 F hv2
      generalize (Va.num 0 c e).wQ t.1 = U at *
      refine sj_set 10 G.nd (ej_call c_l_worth (G.le (by decide)) (aj_cons (ej_dat (d := t.d) 3) (aj_cons (ej_dat (d := (Va.num 0 c e).d) 8) aj_nil)) (w2)) ?_
      exact sj_when (x := false) (tj_is (tj_val (ej_call c_l_is_below (G.le (by decide)) (aj_cons (ej_call c_l_multiplied (G.le (by decide)) (aj_cons (ej_dat (d := fq U) 10) (aj_cons (ej_dat (d := fq U) 10) aj_nil)) (R_two.mk _ _ _ _ U U B4 q2 q2 (by decide) (by decide) (by decide))) (aj_cons (ej_dat (d := fq x) 4) aj_nil)) (R_below.mk _ _ _ _ (U * U) x B4 (q2.mul q2) xq (by decide) (by decide)))) (decide_eq_false (Rat.not_lt.mpr hge))) (fun h => Bool.noConfusion h) (fun h => sj_nil (sj_nil ⟨⟨_, _, _, _, _, _, _, _, _, rfl⟩, ok3⟩))
  · obtain ⟨⟨g2, g3, g4, g5, g6, g7, g8, g9, g10, rfl⟩, ok⟩ := hP
    have F := afV_ok B'
    refine sj_set 3 (d := .da (afV B').d) G.nd (ej_call c_l_any_format (G.le (by decide)) (aj_cons (ej_bag 1) aj_nil) (R_fmt.mk (f := afV) (g := afB) B' ok)) ?_
    have ok1 := afB_ok ok
    generalize afV B' = t at *
    generalize afB B' = B1 at *
    have F : Fm t.1 t.2.1 t.2.2.1 t.2.2.2 := F
    have nz : Nd 3 160 (.tuple [.tuple [.str "num", .int 0, .int 0, .int t.2.2.1], .tuple []]) := two_nd F (va_nd F (v := .num 0 0 t.2.2.1) (zero_can F (.inl rfl)).ok) (l := []) (fun y hy => by cases hy) (by decide)
    generalize hzz : PyData.tuple [.tuple [.str "num", .int 0, .int 0, .int t.2.2.1], .tuple []] = zz at *
    have okd : Okd (.list [zz, zz, zz, zz, zz]) := (Nd.list (NdA.cons nz (NdA.cons nz (NdA.cons nz (NdA.cons nz (NdA.cons nz (NdA.nil (W := 0)))))))).okd (by decide) (by decide)
    refine sj_ret (B1 := B1) (ej_call c_l_alike (G.le (by decide)) (aj_cons (B1 := B1) ?l1 (aj_cons (ej_rep (n := 5) (ds := [zz]) (ej_lstD (ad_cons (ej_is (ej_tupD (ad_cons (ej_tupD (ad_cons ej_str (ad_cons ej_int (ad_cons ej_int (ad_cons (ej_at (ej_dat (d := .tuple [.int t.1, .int t.2.1, .int t.2.2.1, .int t.2.2.2]) 3)) ad_nil)))) (Nat.le_of_ble_eq_true rfl)) (ad_cons (ej_tupD ad_nil (Nat.le_of_ble_eq_true rfl)) ad_nil)) (Nat.le_of_ble_eq_true rfl)) hzz) ad_nil) (Nat.le_of_ble_eq_true rfl)) ej_int (by decide) (Nat.le_of_ble_eq_true rfl)) aj_nil)) (R_alike.mk (.list [zz, zz, zz, zz, zz]) B1 okd rfl)) rfl
    refine ej_lc (x := "_law_way") (j := 5) G.nd G.calm (blkOk_by (N := ["_law_script", "_law_bag_here", "_law_turn", "_law_form", "_law_x", "_law_way", "_law_due", "_law_lower", "_law_upper", "_law_one", "_law_other"]) (sc := defScope s_law) (by decide +kernel)) (fun _ _ _ _ _ => pg_name (i := 5) G.nd rfl (Or.inl rfl)) ?_
    refine rj_lc (ds := wayList.map .str) (ys := wayList.map fun _ => zz) (fun _ => B1) (ej_call0 c_l_ways (G.le (by decide)) (R_ways.mk B1)) (by rw [List.length_map, List.length_map]) (by decide) ?_
    intro i y z hy hz s1 H1 C1 cl1 fp1
    rw [List.getElem?_map] at hy hz
    obtain ⟨way, hway, rfl⟩ := Option.map_eq_some_iff.mp hy
    rw [hway] at hz
    injection hz with hz
    subst hz
    have hr := R_rroot.zero t.1 t.2.1 t.2.2.1 t.2.2.2 way B1 F (List.mem_of_getElem? hway)
    have e0 : rtP t.1 t.2.1 t.2.2.1 t.2.2.2 way 0 = zz := by unfold rtP; rw [if_pos rfl, ← hzz]; rfl
    rw [e0] at hr
    exact (ej_call c_rounded_root ⟨G.gd, G.rm.mono (by decide), G.nd, G.calm⟩ (aj_cons (ej_dat (d := t.d) 3) (aj_cons (ej_dat 5) (aj_cons (ej_is (ej_tupD (ad_cons ej_int (ad_cons ej_int ad_nil)) (Nat.le_of_ble_eq_true rfl)) (show _ = fq 0 from rfl)) aj_nil))) (hr))

end K20
namespace K20
open PySem PySem.Spec PyProof.Rows L2 Gd Lw
theorem all_mk {w : World} {K : PySem.W.Frag} {h : Heap} {mg : Str → Option Value} {fa : Addr} (X : K.In h) (G : h.Ns mainGlobals mg) (hfa : mg "law" = some (.ref fa))
    {f0 : Addr} {oc0 kV0 dc0 pm0 cd0 ct0 : Value} {od0 an0 : Option Addr} {sl0 : Array (Option Value)}
    (a0 : PySem.W.nsIn K mainGlobals "integer_power" = some (some (.ref f0)))
    (l0 : K.lookup f0 = some ⟨oc0, od0, .func (PySem.W.fnOf "integer_power" "integer_power" (defArgs s_integer_power) (defBody s_integer_power) (defScope s_integer_power) .none kV0 dc0 pm0 an0 cd0 ct0), sl0⟩)
    (c0 : PySem.W.codeIn K cd0 "integer_power" = true) (k0 : PySem.W.keepIn K (.ref f0) = true)
    {f1 : Addr} {oc1 kV1 dc1 pm1 cd1 ct1 : Value} {od1 an1 : Option Addr} {sl1 : Array (Option Value)}
    (a1 : PySem.W.nsIn K mainGlobals "reduced" = some (some (.ref f1)))
    (l1 : K.lookup f1 = some ⟨oc1, od1, .func (PySem.W.fnOf "reduced" "reduced" (defArgs s_reduced) (defBody s_reduced) (defScope s_reduced) .none kV1 dc1 pm1 an1 cd1 ct1), sl1⟩)
    (c1 : PySem.W.codeIn K cd1 "reduced" = true) (k1 : PySem.W.keepIn K (.ref f1) = true)
    {f2 : Addr} {oc2 kV2 dc2 pm2 cd2 ct2 : Value} {od2 an2 : Option Addr} {sl2 : Array (Option Value)}
    (a2 : PySem.W.nsIn K mainGlobals "times" = some (some (.ref f2)))
    (l2 : K.lookup f2 = some ⟨oc2, od2, .func (PySem.W.fnOf "times" "times" (defArgs s_times) (defBody s_times) (defScope s_times) .none kV2 dc2 pm2 an2 cd2 ct2), sl2⟩)
    (c2 : PySem.W.codeIn K cd2 "times" = true) (k2 : PySem.W.keepIn K (.ref f2) = true)
    {f3 : Addr} {oc3 kV3 dc3 pm3 cd3 ct3 : Value} {od3 an3 : Option Addr} {sl3 : Array (Option Value)}
    (a3 : PySem.W.nsIn K mainGlobals "power_of" = some (some (.ref f3)))
    (l3 : K.lookup f3 = some ⟨oc3, od3, .func (PySem.W.fnOf "power_of" "power_of" (defArgs s_power_of) (defBody s_power_of) (defScope s_power_of) .none kV3 dc3 pm3 an3 cd3 ct3), sl3⟩)
    (c3 : PySem.W.codeIn K cd3 "power_of" = true) (k3 : PySem.W.keepIn K (.ref f3) = true)
    {f4 : Addr} {oc4 kV4 dc4 pm4 cd4 ct4 : Value} {od4 an4 : Option Addr} {sl4 : Array (Option Value)}
    (a4 : PySem.W.nsIn K mainGlobals "is_taken_outward" = some (some (.ref f4)))
    (l4 : K.lookup f4 = some ⟨oc4, od4, .func (PySem.W.fnOf "is_taken_outward" "is_taken_outward" (defArgs s_is_taken_outward) (defBody s_is_taken_outward) (defScope s_is_taken_outward) .none kV4 dc4 pm4 an4 cd4 ct4), sl4⟩)
    (c4 : PySem.W.codeIn K cd4 "is_taken_outward" = true) (k4 : PySem.W.keepIn K (.ref f4) = true)
    {f5 : Addr} {oc5 kV5 dc5 pm5 cd5 ct5 : Value} {od5 an5 : Option Addr} {sl5 : Array (Option Value)}
    (a5 : PySem.W.nsIn K mainGlobals "power_below" = some (some (.ref f5)))
    (l5 : K.lookup f5 = some ⟨oc5, od5, .func (PySem.W.fnOf "power_below" "power_below" (defArgs s_power_below) (defBody s_power_below) (defScope s_power_below) .none kV5 dc5 pm5 an5 cd5 ct5), sl5⟩)
    (c5 : PySem.W.codeIn K cd5 "power_below" = true) (k5 : PySem.W.keepIn K (.ref f5) = true)
    {f6 : Addr} {oc6 kV6 dc6 pm6 cd6 ct6 : Value} {od6 an6 : Option Addr} {sl6 : Array (Option Value)}
    (a6 : PySem.W.nsIn K mainGlobals "_power_within" = some (some (.ref f6)))
    (l6 : K.lookup f6 = some ⟨oc6, od6, .func (PySem.W.fnOf "_power_within" "_power_within" (defArgs s_u_power_within) (defBody s_u_power_within) (defScope s_u_power_within) .none kV6 dc6 pm6 an6 cd6 ct6), sl6⟩)
    (c6 : PySem.W.codeIn K cd6 "_power_within" = true) (k6 : PySem.W.keepIn K (.ref f6) = true)
    {f7 : Addr} {oc7 kV7 dc7 pm7 cd7 ct7 : Value} {od7 an7 : Option Addr} {sl7 : Array (Option Value)}
    (a7 : PySem.W.nsIn K mainGlobals "_twos_in" = some (some (.ref f7)))
    (l7 : K.lookup f7 = some ⟨oc7, od7, .func (PySem.W.fnOf "_twos_in" "_twos_in" (defArgs s_u_twos_in) (defBody s_u_twos_in) (defScope s_u_twos_in) .none kV7 dc7 pm7 an7 cd7 ct7), sl7⟩)
    (c7 : PySem.W.codeIn K cd7 "_twos_in" = true) (k7 : PySem.W.keepIn K (.ref f7) = true)
    {f8 : Addr} {oc8 kV8 dc8 pm8 cd8 ct8 : Value} {od8 an8 : Option Addr} {sl8 : Array (Option Value)}
    (a8 : PySem.W.nsIn K mainGlobals "zero" = some (some (.ref f8)))
    (l8 : K.lookup f8 = some ⟨oc8, od8, .func (PySem.W.fnOf "zero" "zero" (defArgs s_zero) (defBody s_zero) (defScope s_zero) .none kV8 dc8 pm8 an8 cd8 ct8), sl8⟩)
    (c8 : PySem.W.codeIn K cd8 "zero" = true) (k8 : PySem.W.keepIn K (.ref f8) = true)
    {f9 : Addr} {oc9 kV9 dc9 pm9 cd9 ct9 : Value} {od9 an9 : Option Addr} {sl9 : Array (Option Value)}
    (a9 : PySem.W.nsIn K mainGlobals "rounded_root" = some (some (.ref f9)))
    (l9 : K.lookup f9 = some ⟨oc9, od9, .func (PySem.W.fnOf "rounded_root" "rounded_root" (defArgs s_rounded_root) (defBody s_rounded_root) (defScope s_rounded_root) .none kV9 dc9 pm9 an9 cd9 ct9), sl9⟩)
    (c9 : PySem.W.codeIn K cd9 "rounded_root" = true) (k9 : PySem.W.keepIn K (.ref f9) = true)
    {f10 : Addr} {oc10 kV10 dc10 pm10 cd10 ct10 : Value} {od10 an10 : Option Addr} {sl10 : Array (Option Value)}
    (a10 : PySem.W.nsIn K mainGlobals "_root_spot" = some (some (.ref f10)))
    (l10 : K.lookup f10 = some ⟨oc10, od10, .func (PySem.W.fnOf "_root_spot" "_root_spot" (defArgs s_u_root_spot) (defBody s_u_root_spot) (defScope s_u_root_spot) .none kV10 dc10 pm10 an10 cd10 ct10), sl10⟩)
    (c10 : PySem.W.codeIn K cd10 "_root_spot" = true) (k10 : PySem.W.keepIn K (.ref f10) = true)
    {f11 : Addr} {oc11 kV11 dc11 pm11 cd11 ct11 : Value} {od11 an11 : Option Addr} {sl11 : Array (Option Value)}
    (a11 : PySem.W.nsIn K mainGlobals "_root_part" = some (some (.ref f11)))
    (l11 : K.lookup f11 = some ⟨oc11, od11, .func (PySem.W.fnOf "_root_part" "_root_part" (defArgs s_u_root_part) (defBody s_u_root_part) (defScope s_u_root_part) .none kV11 dc11 pm11 an11 cd11 ct11), sl11⟩)
    (c11 : PySem.W.codeIn K cd11 "_root_part" = true) (k11 : PySem.W.keepIn K (.ref f11) = true)
    {f12 : Addr} {oc12 kV12 dc12 pm12 cd12 ct12 : Value} {od12 an12 : Option Addr} {sl12 : Array (Option Value)}
    (a12 : PySem.W.nsIn K mainGlobals "_nearest" = some (some (.ref f12)))
    (l12 : K.lookup f12 = some ⟨oc12, od12, .func (PySem.W.fnOf "_nearest" "_nearest" (defArgs s_u_nearest) (defBody s_u_nearest) (defScope s_u_nearest) .none kV12 dc12 pm12 an12 cd12 ct12), sl12⟩)
    (c12 : PySem.W.codeIn K cd12 "_nearest" = true) (k12 : PySem.W.keepIn K (.ref f12) = true)
    {f13 : Addr} {oc13 kV13 dc13 pm13 cd13 ct13 : Value} {od13 an13 : Option Addr} {sl13 : Array (Option Value)}
    (a13 : PySem.W.nsIn K mainGlobals "_outcome" = some (some (.ref f13)))
    (l13 : K.lookup f13 = some ⟨oc13, od13, .func (PySem.W.fnOf "_outcome" "_outcome" (defArgs s_u_outcome) (defBody s_u_outcome) (defScope s_u_outcome) .none kV13 dc13 pm13 an13 cd13 ct13), sl13⟩)
    (c13 : PySem.W.codeIn K cd13 "_outcome" = true) (k13 : PySem.W.keepIn K (.ref f13) = true)
    {f14 : Addr} {oc14 kV14 dc14 pm14 cd14 ct14 : Value} {od14 an14 : Option Addr} {sl14 : Array (Option Value)}
    (a14 : PySem.W.nsIn K mainGlobals "_too_great" = some (some (.ref f14)))
    (l14 : K.lookup f14 = some ⟨oc14, od14, .func (PySem.W.fnOf "_too_great" "_too_great" (defArgs s_u_too_great) (defBody s_u_too_great) (defScope s_u_too_great) .none kV14 dc14 pm14 an14 cd14 ct14), sl14⟩)
    (c14 : PySem.W.codeIn K cd14 "_too_great" = true) (k14 : PySem.W.keepIn K (.ref f14) = true)
    {f15 : Addr} {oc15 kV15 dc15 pm15 cd15 ct15 : Value} {od15 an15 : Option Addr} {sl15 : Array (Option Value)}
    (a15 : PySem.W.nsIn K mainGlobals "_law_bag" = some (some (.ref f15)))
    (l15 : K.lookup f15 = some ⟨oc15, od15, .func (PySem.W.fnOf "_law_bag" "_law_bag" (defArgs s_l_bag) (defBody s_l_bag) (defScope s_l_bag) .none kV15 dc15 pm15 an15 cd15 ct15), sl15⟩)
    (c15 : PySem.W.codeIn K cd15 "_law_bag" = true) (k15 : PySem.W.keepIn K (.ref f15) = true)
    {f16 : Addr} {oc16 kV16 dc16 pm16 cd16 ct16 : Value} {od16 an16 : Option Addr} {sl16 : Array (Option Value)}
    (a16 : PySem.W.nsIn K mainGlobals "_law_take" = some (some (.ref f16)))
    (l16 : K.lookup f16 = some ⟨oc16, od16, .func (PySem.W.fnOf "_law_take" "_law_take" (defArgs s_l_take) (defBody s_l_take) (defScope s_l_take) .none kV16 dc16 pm16 an16 cd16 ct16), sl16⟩)
    (c16 : PySem.W.codeIn K cd16 "_law_take" = true) (k16 : PySem.W.keepIn K (.ref f16) = true)
    {f17 : Addr} {oc17 kV17 dc17 pm17 cd17 ct17 : Value} {od17 an17 : Option Addr} {sl17 : Array (Option Value)}
    (a17 : PySem.W.nsIn K mainGlobals "_law_some" = some (some (.ref f17)))
    (l17 : K.lookup f17 = some ⟨oc17, od17, .func (PySem.W.fnOf "_law_some" "_law_some" (defArgs s_l_some) (defBody s_l_some) (defScope s_l_some) .none kV17 dc17 pm17 an17 cd17 ct17), sl17⟩)
    (c17 : PySem.W.codeIn K cd17 "_law_some" = true) (k17 : PySem.W.keepIn K (.ref f17) = true)
    {f18 : Addr} {oc18 kV18 dc18 pm18 cd18 ct18 : Value} {od18 an18 : Option Addr} {sl18 : Array (Option Value)}
    (a18 : PySem.W.nsIn K mainGlobals "_law_alike" = some (some (.ref f18)))
    (l18 : K.lookup f18 = some ⟨oc18, od18, .func (PySem.W.fnOf "_law_alike" "_law_alike" (defArgs s_l_alike) (defBody s_l_alike) (defScope s_l_alike) .none kV18 dc18 pm18 an18 cd18 ct18), sl18⟩)
    (c18 : PySem.W.codeIn K cd18 "_law_alike" = true) (k18 : PySem.W.keepIn K (.ref f18) = true)
    {f19 : Addr} {oc19 kV19 dc19 pm19 cd19 ct19 : Value} {od19 an19 : Option Addr} {sl19 : Array (Option Value)}
    (a19 : PySem.W.nsIn K mainGlobals "_law_common" = some (some (.ref f19)))
    (l19 : K.lookup f19 = some ⟨oc19, od19, .func (PySem.W.fnOf "_law_common" "_law_common" (defArgs s_l_common) (defBody s_l_common) (defScope s_l_common) .none kV19 dc19 pm19 an19 cd19 ct19), sl19⟩)
    (c19 : PySem.W.codeIn K cd19 "_law_common" = true) (k19 : PySem.W.keepIn K (.ref f19) = true)
    {f20 : Addr} {oc20 kV20 dc20 pm20 cd20 ct20 : Value} {od20 an20 : Option Addr} {sl20 : Array (Option Value)}
    (a20 : PySem.W.nsIn K mainGlobals "_law_to" = some (some (.ref f20)))
    (l20 : K.lookup f20 = some ⟨oc20, od20, .func (PySem.W.fnOf "_law_to" "_law_to" (defArgs s_l_to) (defBody s_l_to) (defScope s_l_to) .none kV20 dc20 pm20 an20 cd20 ct20), sl20⟩)
    (c20 : PySem.W.codeIn K cd20 "_law_to" = true) (k20 : PySem.W.keepIn K (.ref f20) = true)
    {f21 : Addr} {oc21 kV21 dc21 pm21 cd21 ct21 : Value} {od21 an21 : Option Addr} {sl21 : Array (Option Value)}
    (a21 : PySem.W.nsIn K mainGlobals "_law_over" = some (some (.ref f21)))
    (l21 : K.lookup f21 = some ⟨oc21, od21, .func (PySem.W.fnOf "_law_over" "_law_over" (defArgs s_l_over) (defBody s_l_over) (defScope s_l_over) .none kV21 dc21 pm21 an21 cd21 ct21), sl21⟩)
    (c21 : PySem.W.codeIn K cd21 "_law_over" = true) (k21 : PySem.W.keepIn K (.ref f21) = true)
    {f22 : Addr} {oc22 kV22 dc22 pm22 cd22 ct22 : Value} {od22 an22 : Option Addr} {sl22 : Array (Option Value)}
    (a22 : PySem.W.nsIn K mainGlobals "_law_added" = some (some (.ref f22)))
    (l22 : K.lookup f22 = some ⟨oc22, od22, .func (PySem.W.fnOf "_law_added" "_law_added" (defArgs s_l_added) (defBody s_l_added) (defScope s_l_added) .none kV22 dc22 pm22 an22 cd22 ct22), sl22⟩)
    (c22 : PySem.W.codeIn K cd22 "_law_added" = true) (k22 : PySem.W.keepIn K (.ref f22) = true)
    {f23 : Addr} {oc23 kV23 dc23 pm23 cd23 ct23 : Value} {od23 an23 : Option Addr} {sl23 : Array (Option Value)}
    (a23 : PySem.W.nsIn K mainGlobals "_law_multiplied" = some (some (.ref f23)))
    (l23 : K.lookup f23 = some ⟨oc23, od23, .func (PySem.W.fnOf "_law_multiplied" "_law_multiplied" (defArgs s_l_multiplied) (defBody s_l_multiplied) (defScope s_l_multiplied) .none kV23 dc23 pm23 an23 cd23 ct23), sl23⟩)
    (c23 : PySem.W.codeIn K cd23 "_law_multiplied" = true) (k23 : PySem.W.keepIn K (.ref f23) = true)
    {f24 : Addr} {oc24 kV24 dc24 pm24 cd24 ct24 : Value} {od24 an24 : Option Addr} {sl24 : Array (Option Value)}
    (a24 : PySem.W.nsIn K mainGlobals "_law_is_below" = some (some (.ref f24)))
    (l24 : K.lookup f24 = some ⟨oc24, od24, .func (PySem.W.fnOf "_law_is_below" "_law_is_below" (defArgs s_l_is_below) (defBody s_l_is_below) (defScope s_l_is_below) .none kV24 dc24 pm24 an24 cd24 ct24), sl24⟩)
    (c24 : PySem.W.codeIn K cd24 "_law_is_below" = true) (k24 : PySem.W.keepIn K (.ref f24) = true)
    {f25 : Addr} {oc25 kV25 dc25 pm25 cd25 ct25 : Value} {od25 an25 : Option Addr} {sl25 : Array (Option Value)}
    (a25 : PySem.W.nsIn K mainGlobals "_law_sized" = some (some (.ref f25)))
    (l25 : K.lookup f25 = some ⟨oc25, od25, .func (PySem.W.fnOf "_law_sized" "_law_sized" (defArgs s_l_sized) (defBody s_l_sized) (defScope s_l_sized) .none kV25 dc25 pm25 an25 cd25 ct25), sl25⟩)
    (c25 : PySem.W.codeIn K cd25 "_law_sized" = true) (k25 : PySem.W.keepIn K (.ref f25) = true)
    {f26 : Addr} {oc26 kV26 dc26 pm26 cd26 ct26 : Value} {od26 an26 : Option Addr} {sl26 : Array (Option Value)}
    (a26 : PySem.W.nsIn K mainGlobals "_law_power" = some (some (.ref f26)))
    (l26 : K.lookup f26 = some ⟨oc26, od26, .func (PySem.W.fnOf "_law_power" "_law_power" (defArgs s_l_power) (defBody s_l_power) (defScope s_l_power) .none kV26 dc26 pm26 an26 cd26 ct26), sl26⟩)
    (c26 : PySem.W.codeIn K cd26 "_law_power" = true) (k26 : PySem.W.keepIn K (.ref f26) = true)
    {f27 : Addr} {oc27 kV27 dc27 pm27 cd27 ct27 : Value} {od27 an27 : Option Addr} {sl27 : Array (Option Value)}
    (a27 : PySem.W.nsIn K mainGlobals "_law_worth" = some (some (.ref f27)))
    (l27 : K.lookup f27 = some ⟨oc27, od27, .func (PySem.W.fnOf "_law_worth" "_law_worth" (defArgs s_l_worth) (defBody s_l_worth) (defScope s_l_worth) .none kV27 dc27 pm27 an27 cd27 ct27), sl27⟩)
    (c27 : PySem.W.codeIn K cd27 "_law_worth" = true) (k27 : PySem.W.keepIn K (.ref f27) = true)
    {f28 : Addr} {oc28 kV28 dc28 pm28 cd28 ct28 : Value} {od28 an28 : Option Addr} {sl28 : Array (Option Value)}
    (a28 : PySem.W.nsIn K mainGlobals "_law_formats" = some (some (.ref f28)))
    (l28 : K.lookup f28 = some ⟨oc28, od28, .func (PySem.W.fnOf "_law_formats" "_law_formats" (defArgs s_l_formats) (defBody s_l_formats) (defScope s_l_formats) .none kV28 dc28 pm28 an28 cd28 ct28), sl28⟩)
    (c28 : PySem.W.codeIn K cd28 "_law_formats" = true) (k28 : PySem.W.keepIn K (.ref f28) = true)
    {f29 : Addr} {oc29 kV29 dc29 pm29 cd29 ct29 : Value} {od29 an29 : Option Addr} {sl29 : Array (Option Value)}
    (a29 : PySem.W.nsIn K mainGlobals "_law_wide_format" = some (some (.ref f29)))
    (l29 : K.lookup f29 = some ⟨oc29, od29, .func (PySem.W.fnOf "_law_wide_format" "_law_wide_format" (defArgs s_l_wide_format) (defBody s_l_wide_format) (defScope s_l_wide_format) .none kV29 dc29 pm29 an29 cd29 ct29), sl29⟩)
    (c29 : PySem.W.codeIn K cd29 "_law_wide_format" = true) (k29 : PySem.W.keepIn K (.ref f29) = true)
    {f30 : Addr} {oc30 kV30 dc30 pm30 cd30 ct30 : Value} {od30 an30 : Option Addr} {sl30 : Array (Option Value)}
    (a30 : PySem.W.nsIn K mainGlobals "_law_any_format" = some (some (.ref f30)))
    (l30 : K.lookup f30 = some ⟨oc30, od30, .func (PySem.W.fnOf "_law_any_format" "_law_any_format" (defArgs s_l_any_format) (defBody s_l_any_format) (defScope s_l_any_format) .none kV30 dc30 pm30 an30 cd30 ct30), sl30⟩)
    (c30 : PySem.W.codeIn K cd30 "_law_any_format" = true) (k30 : PySem.W.keepIn K (.ref f30) = true)
    {f31 : Addr} {oc31 kV31 dc31 pm31 cd31 ct31 : Value} {od31 an31 : Option Addr} {sl31 : Array (Option Value)}
    (a31 : PySem.W.nsIn K mainGlobals "_law_edges" = some (some (.ref f31)))
    (l31 : K.lookup f31 = some ⟨oc31, od31, .func (PySem.W.fnOf "_law_edges" "_law_edges" (defArgs s_l_edges) (defBody s_l_edges) (defScope s_l_edges) .none kV31 dc31 pm31 an31 cd31 ct31), sl31⟩)
    (c31 : PySem.W.codeIn K cd31 "_law_edges" = true) (k31 : PySem.W.keepIn K (.ref f31) = true)
    {f32 : Addr} {oc32 kV32 dc32 pm32 cd32 ct32 : Value} {od32 an32 : Option Addr} {sl32 : Array (Option Value)}
    (a32 : PySem.W.nsIn K mainGlobals "_law_number" = some (some (.ref f32)))
    (l32 : K.lookup f32 = some ⟨oc32, od32, .func (PySem.W.fnOf "_law_number" "_law_number" (defArgs s_l_number) (defBody s_l_number) (defScope s_l_number) .none kV32 dc32 pm32 an32 cd32 ct32), sl32⟩)
    (c32 : PySem.W.codeIn K cd32 "_law_number" = true) (k32 : PySem.W.keepIn K (.ref f32) = true)
    {f33 : Addr} {oc33 kV33 dc33 pm33 cd33 ct33 : Value} {od33 an33 : Option Addr} {sl33 : Array (Option Value)}
    (a33 : PySem.W.nsIn K mainGlobals "_law_ways" = some (some (.ref f33)))
    (l33 : K.lookup f33 = some ⟨oc33, od33, .func (PySem.W.fnOf "_law_ways" "_law_ways" (defArgs s_l_ways) (defBody s_l_ways) (defScope s_l_ways) .none kV33 dc33 pm33 an33 cd33 ct33), sl33⟩)
    (c33 : PySem.W.codeIn K cd33 "_law_ways" = true) (k33 : PySem.W.keepIn K (.ref f33) = true)
    {f34 : Addr} {oc34 kV34 dc34 pm34 cd34 ct34 : Value} {od34 an34 : Option Addr} {sl34 : Array (Option Value)}
    (a34 : PySem.W.nsIn K mainGlobals "_law_grid" = some (some (.ref f34)))
    (l34 : K.lookup f34 = some ⟨oc34, od34, .func (PySem.W.fnOf "_law_grid" "_law_grid" (defArgs s_l_grid) (defBody s_l_grid) (defScope s_l_grid) .none kV34 dc34 pm34 an34 cd34 ct34), sl34⟩)
    (c34 : PySem.W.codeIn K cd34 "_law_grid" = true) (k34 : PySem.W.keepIn K (.ref f34) = true)
    {f35 : Addr} {oc35 kV35 dc35 pm35 cd35 ct35 : Value} {od35 an35 : Option Addr} {sl35 : Array (Option Value)}
    (a35 : PySem.W.nsIn K mainGlobals "_law_greatest" = some (some (.ref f35)))
    (l35 : K.lookup f35 = some ⟨oc35, od35, .func (PySem.W.fnOf "_law_greatest" "_law_greatest" (defArgs s_l_greatest) (defBody s_l_greatest) (defScope s_l_greatest) .none kV35 dc35 pm35 an35 cd35 ct35), sl35⟩)
    (c35 : PySem.W.codeIn K cd35 "_law_greatest" = true) (k35 : PySem.W.keepIn K (.ref f35) = true)
    {f36 : Addr} {oc36 kV36 dc36 pm36 cd36 ct36 : Value} {od36 an36 : Option Addr} {sl36 : Array (Option Value)}
    (a36 : PySem.W.nsIn K mainGlobals "_law_normal" = some (some (.ref f36)))
    (l36 : K.lookup f36 = some ⟨oc36, od36, .func (PySem.W.fnOf "_law_normal" "_law_normal" (defArgs s_l_normal) (defBody s_l_normal) (defScope s_l_normal) .none kV36 dc36 pm36 an36 cd36 ct36), sl36⟩)
    (c36 : PySem.W.codeIn K cd36 "_law_normal" = true) (k36 : PySem.W.keepIn K (.ref f36) = true)
    {f37 : Addr} {oc37 kV37 dc37 pm37 cd37 ct37 : Value} {od37 an37 : Option Addr} {sl37 : Array (Option Value)}
    (a37 : PySem.W.nsIn K mainGlobals "_law_form_of" = some (some (.ref f37)))
    (l37 : K.lookup f37 = some ⟨oc37, od37, .func (PySem.W.fnOf "_law_form_of" "_law_form_of" (defArgs s_l_form_of) (defBody s_l_form_of) (defScope s_l_form_of) .none kV37 dc37 pm37 an37 cd37 ct37), sl37⟩)
    (c37 : PySem.W.codeIn K cd37 "_law_form_of" = true) (k37 : PySem.W.keepIn K (.ref f37) = true)
    {f38 : Addr} {oc38 kV38 dc38 pm38 cd38 ct38 : Value} {od38 an38 : Option Addr} {sl38 : Array (Option Value)}
    (a38 : PySem.W.nsIn K mainGlobals "_law_near_fraction" = some (some (.ref f38)))
    (l38 : K.lookup f38 = some ⟨oc38, od38, .func (PySem.W.fnOf "_law_near_fraction" "_law_near_fraction" (defArgs s_l_near_fraction) (defBody s_l_near_fraction) (defScope s_l_near_fraction) .none kV38 dc38 pm38 an38 cd38 ct38), sl38⟩)
    (c38 : PySem.W.codeIn K cd38 "_law_near_fraction" = true) (k38 : PySem.W.keepIn K (.ref f38) = true)
    {f39 : Addr} {oc39 kV39 dc39 pm39 cd39 ct39 : Value} {od39 an39 : Option Addr} {sl39 : Array (Option Value)}
    (a39 : PySem.W.nsIn K mainGlobals "_law_floor_root" = some (some (.ref f39)))
    (l39 : K.lookup f39 = some ⟨oc39, od39, .func (PySem.W.fnOf "_law_floor_root" "_law_floor_root" (defArgs s_l_floor_root) (defBody s_l_floor_root) (defScope s_l_floor_root) .none kV39 dc39 pm39 an39 cd39 ct39), sl39⟩)
    (c39 : PySem.W.codeIn K cd39 "_law_floor_root" = true) (k39 : PySem.W.keepIn K (.ref f39) = true)
    {f40 : Addr} {oc40 kV40 dc40 pm40 cd40 ct40 : Value} {od40 an40 : Option Addr} {sl40 : Array (Option Value)}
    (a40 : PySem.W.nsIn K mainGlobals "_law_root_grid" = some (some (.ref f40)))
    (l40 : K.lookup f40 = some ⟨oc40, od40, .func (PySem.W.fnOf "_law_root_grid" "_law_root_grid" (defArgs s_l_root_grid) (defBody s_l_root_grid) (defScope s_l_root_grid) .none kV40 dc40 pm40 an40 cd40 ct40), sl40⟩)
    (c40 : PySem.W.codeIn K cd40 "_law_root_grid" = true) (k40 : PySem.W.keepIn K (.ref f40) = true)
    {f41 : Addr} {oc41 kV41 dc41 pm41 cd41 ct41 : Value} {od41 an41 : Option Addr} {sl41 : Array (Option Value)}
    (a41 : PySem.W.nsIn K mainGlobals "_law_rooted" = some (some (.ref f41)))
    (l41 : K.lookup f41 = some ⟨oc41, od41, .func (PySem.W.fnOf "_law_rooted" "_law_rooted" (defArgs s_l_rooted) (defBody s_l_rooted) (defScope s_l_rooted) .none kV41 dc41 pm41 an41 cd41 ct41), sl41⟩)
    (c41 : PySem.W.codeIn K cd41 "_law_rooted" = true) (k41 : PySem.W.keepIn K (.ref f41) = true)
    {f42 : Addr} {oc42 kV42 dc42 pm42 cd42 ct42 : Value} {od42 an42 : Option Addr} {sl42 : Array (Option Value)}
    (a42 : PySem.W.nsIn K mainGlobals "_law_square_fraction" = some (some (.ref f42)))
    (l42 : K.lookup f42 = some ⟨oc42, od42, .func (PySem.W.fnOf "_law_square_fraction" "_law_square_fraction" (defArgs s_l_square_fraction) (defBody s_l_square_fraction) (defScope s_l_square_fraction) .none kV42 dc42 pm42 an42 cd42 ct42), sl42⟩)
    (c42 : PySem.W.codeIn K cd42 "_law_square_fraction" = true) (k42 : PySem.W.keepIn K (.ref f42) = true)
    {f43 : Addr} {oc43 kV43 dc43 pm43 cd43 ct43 : Value} {od43 an43 : Option Addr} {sl43 : Array (Option Value)}
    (a43 : PySem.W.nsIn K mainGlobals "law" = some (some (.ref f43)))
    (l43 : K.lookup f43 = some ⟨oc43, od43, .func (PySem.W.fnOf "law" "law" (defArgs s_law) (defBody s_law) (defScope s_law) .none kV43 dc43 pm43 an43 cd43 ct43), sl43⟩)
    (c43 : PySem.W.codeIn K cd43 "law" = true) (k43 : PySem.W.keepIn K (.ref f43) = true)
    (z_abs : PySem.W.nsIn K mainGlobals "abs" = some none)
    (z_int : PySem.W.nsIn K mainGlobals "int" = some none)
    (z_len : PySem.W.nsIn K mainGlobals "len" = some none)
    (z_max : PySem.W.nsIn K mainGlobals "max" = some none)
    (z_min : PySem.W.nsIn K mainGlobals "min" = some none)
    (z_range : PySem.W.nsIn K mainGlobals "range" = some none)
    (z_repr : PySem.W.nsIn K mainGlobals "repr" = some none)
    (z_rev : PySem.W.nsIn K mainGlobals "reversed" = some none)
    (z_set : PySem.W.nsIn K mainGlobals "set" = some none)
    (z_sorted : PySem.W.nsIn K mainGlobals "sorted" = some none)
    (z_tuple : PySem.W.nsIn K mainGlobals "tuple" = some none)
    (z_gcd : PySem.W.nsIn K mainGlobals "gcd" = some (some (.builtin "math.gcd")))
    (z_isqrt : PySem.W.nsIn K mainGlobals "isqrt" = some (some (.builtin "math.isqrt"))) :
    ∃ fd : FuncData, (∀ (s : Shared) (v : Value), BindsTo s fd ⟨[v], []⟩ [("_law_script", v)]) ∧ ∀ base : Heap, K.In base → base.Ns mainGlobals mg → FnG PySem.Challenge.pw_nearestheld_k20_whole_rounded_roots w K mg base 12 fa fd ["_law_script"] (spLaw K) := by
  have T_integer_power : At K mg "integer_power" s_integer_power ["base", "e"] := at_mk ["base", "e"] X G a0 l0 c0 k0 (fun _ _ _ _ _ _ us hl => match us, hl with | [_, _], _ => rfl)
  have T_reduced : At K mg "reduced" s_reduced ["n", "d"] := at_mk ["n", "d"] X G a1 l1 c1 k1 (fun _ _ _ _ _ _ us hl => match us, hl with | [_, _], _ => rfl)
  have T_times : At K mg "times" s_times ["one", "other"] := at_mk ["one", "other"] X G a2 l2 c2 k2 (fun _ _ _ _ _ _ us hl => match us, hl with | [_, _], _ => rfl)
  have T_power_of : At K mg "power_of" s_power_of ["base", "e"] := at_mk ["base", "e"] X G a3 l3 c3 k3 (fun _ _ _ _ _ _ us hl => match us, hl with | [_, _], _ => rfl)
  have T_is_taken_outward : At K mg "is_taken_outward" s_is_taken_outward ["way", "s", "c", "part"] := at_mk ["way", "s", "c", "part"] X G a4 l4 c4 k4 (fun _ _ _ _ _ _ us hl => match us, hl with | [_, _, _, _], _ => rfl)
  have T_power_below : At K mg "power_below" s_power_below ["base", "one"] := at_mk ["base", "one"] X G a5 l5 c5 k5 (fun _ _ _ _ _ _ us hl => match us, hl with | [_, _], _ => rfl)
  have T_u_power_within : At K mg "_power_within" s_u_power_within ["base", "whole"] := at_mk ["base", "whole"] X G a6 l6 c6 k6 (fun _ _ _ _ _ _ us hl => match us, hl with | [_, _], _ => rfl)
  have T_u_twos_in : At K mg "_twos_in" s_u_twos_in ["n"] := at_mk ["n"] X G a7 l7 c7 k7 (fun _ _ _ _ _ _ us hl => match us, hl with | [_], _ => rfl)
  have T_zero : At K mg "zero" s_zero ["form", "s"] := at_mk ["form", "s"] X G a8 l8 c8 k8 (fun _ _ _ _ _ _ us hl => match us, hl with | [_, _], _ => rfl)
  have T_rounded_root : At K mg "rounded_root" s_rounded_root ["form", "way", "x"] := at_mk ["form", "way", "x"] X G a9 l9 c9 k9 (fun _ _ _ _ _ _ us hl => match us, hl with | [_, _, _], _ => rfl)
  have T_u_root_spot : At K mg "_root_spot" s_u_root_spot ["form", "x"] := at_mk ["form", "x"] X G a10 l10 c10 k10 (fun _ _ _ _ _ _ us hl => match us, hl with | [_, _], _ => rfl)
  have T_u_root_part : At K mg "_root_part" s_u_root_part ["c", "n", "d"] := at_mk ["c", "n", "d"] X G a11 l11 c11 k11 (fun _ _ _ _ _ _ us hl => match us, hl with | [_, _, _], _ => rfl)
  have T_u_nearest : At K mg "_nearest" s_u_nearest ["form", "way", "s", "spot"] := at_mk ["form", "way", "s", "spot"] X G a12 l12 c12 k12 (fun _ _ _ _ _ _ us hl => match us, hl with | [_, _, _, _], _ => rfl)
  have T_u_outcome : At K mg "_outcome" s_u_outcome ["form", "way", "s", "spot"] := at_mk ["form", "way", "s", "spot"] X G a13 l13 c13 k13 (fun _ _ _ _ _ _ us hl => match us, hl with | [_, _, _, _], _ => rfl)
  have T_u_too_great : At K mg "_too_great" s_u_too_great ["form", "way", "s"] := at_mk ["form", "way", "s"] X G a14 l14 c14 k14 (fun _ _ _ _ _ _ us hl => match us, hl with | [_, _, _], _ => rfl)
  have T_l_bag : At K mg "_law_bag" s_l_bag ["_law_script"] := at_mk ["_law_script"] X G a15 l15 c15 k15 (fun _ _ _ _ _ _ us hl => match us, hl with | [_], _ => rfl)
  have T_l_take : At K mg "_law_take" s_l_take ["_law_bag_here", "_law_many"] := at_mk ["_law_bag_here", "_law_many"] X G a16 l16 c16 k16 (fun _ _ _ _ _ _ us hl => match us, hl with | [_, _], _ => rfl)
  have T_l_some : At K mg "_law_some" s_l_some ["_law_bag_here", "_law_things"] := at_mk ["_law_bag_here", "_law_things"] X G a17 l17 c17 k17 (fun _ _ _ _ _ _ us hl => match us, hl with | [_, _], _ => rfl)
  have T_l_alike : At K mg "_law_alike" s_l_alike ["_law_found", "_law_due"] := at_mk ["_law_found", "_law_due"] X G a18 l18 c18 k18 (fun _ _ _ _ _ _ us hl => match us, hl with | [_, _], _ => rfl)
  have T_l_common : At K mg "_law_common" s_l_common ["_law_one", "_law_other"] := at_mk ["_law_one", "_law_other"] X G a19 l19 c19 k19 (fun _ _ _ _ _ _ us hl => match us, hl with | [_, _], _ => rfl)
  have T_l_to : At K mg "_law_to" s_l_to ["_law_base", "_law_n"] := at_mk ["_law_base", "_law_n"] X G a20 l20 c20 k20 (fun _ _ _ _ _ _ us hl => match us, hl with | [_, _], _ => rfl)
  have T_l_over : At K mg "_law_over" s_l_over ["_law_n", "_law_d"] := at_mk ["_law_n", "_law_d"] X G a21 l21 c21 k21 (fun _ _ _ _ _ _ us hl => match us, hl with | [_, _], _ => rfl)
  have T_l_added : At K mg "_law_added" s_l_added ["_law_x", "_law_y"] := at_mk ["_law_x", "_law_y"] X G a22 l22 c22 k22 (fun _ _ _ _ _ _ us hl => match us, hl with | [_, _], _ => rfl)
  have T_l_multiplied : At K mg "_law_multiplied" s_l_multiplied ["_law_x", "_law_y"] := at_mk ["_law_x", "_law_y"] X G a23 l23 c23 k23 (fun _ _ _ _ _ _ us hl => match us, hl with | [_, _], _ => rfl)
  have T_l_is_below : At K mg "_law_is_below" s_l_is_below ["_law_x", "_law_y"] := at_mk ["_law_x", "_law_y"] X G a24 l24 c24 k24 (fun _ _ _ _ _ _ us hl => match us, hl with | [_, _], _ => rfl)
  have T_l_sized : At K mg "_law_sized" s_l_sized ["_law_x"] := at_mk ["_law_x"] X G a25 l25 c25 k25 (fun _ _ _ _ _ _ us hl => match us, hl with | [_], _ => rfl)
  have T_l_power : At K mg "_law_power" s_l_power ["_law_base", "_law_e"] := at_mk ["_law_base", "_law_e"] X G a26 l26 c26 k26 (fun _ _ _ _ _ _ us hl => match us, hl with | [_, _], _ => rfl)
  have T_l_worth : At K mg "_law_worth" s_l_worth ["_law_form", "_law_number_here"] := at_mk ["_law_form", "_law_number_here"] X G a27 l27 c27 k27 (fun _ _ _ _ _ _ us hl => match us, hl with | [_, _], _ => rfl)
  have T_l_formats : At K mg "_law_formats" s_l_formats ["_law_bag_here"] := at_mk ["_law_bag_here"] X G a28 l28 c28 k28 (fun _ _ _ _ _ _ us hl => match us, hl with | [_], _ => rfl)
  have T_l_wide_format : At K mg "_law_wide_format" s_l_wide_format ["_law_bag_here"] := at_mk ["_law_bag_here"] X G a29 l29 c29 k29 (fun _ _ _ _ _ _ us hl => match us, hl with | [_], _ => rfl)
  have T_l_any_format : At K mg "_law_any_format" s_l_any_format ["_law_bag_here"] := at_mk ["_law_bag_here"] X G a30 l30 c30 k30 (fun _ _ _ _ _ _ us hl => match us, hl with | [_], _ => rfl)
  have T_l_edges : At K mg "_law_edges" s_l_edges ["_law_form"] := at_mk ["_law_form"] X G a31 l31 c31 k31 (fun _ _ _ _ _ _ us hl => match us, hl with | [_], _ => rfl)
  have T_l_number : At K mg "_law_number" s_l_number ["_law_bag_here", "_law_form"] := at_mk ["_law_bag_here", "_law_form"] X G a32 l32 c32 k32 (fun _ _ _ _ _ _ us hl => match us, hl with | [_, _], _ => rfl)
  have T_l_ways : At K mg "_law_ways" s_l_ways [] := at_mk [] X G a33 l33 c33 k33 (fun _ _ _ _ _ _ us hl => match us, hl with | [], _ => rfl)
  have T_l_grid : At K mg "_law_grid" s_l_grid ["_law_form", "_law_x"] := at_mk ["_law_form", "_law_x"] X G a34 l34 c34 k34 (fun _ _ _ _ _ _ us hl => match us, hl with | [_, _], _ => rfl)
  have T_l_greatest : At K mg "_law_greatest" s_l_greatest ["_law_form"] := at_mk ["_law_form"] X G a35 l35 c35 k35 (fun _ _ _ _ _ _ us hl => match us, hl with | [_], _ => rfl)
  have T_l_normal : At K mg "_law_normal" s_l_normal ["_law_form"] := at_mk ["_law_form"] X G a36 l36 c36 k36 (fun _ _ _ _ _ _ us hl => match us, hl with | [_], _ => rfl)
  have T_l_form_of : At K mg "_law_form_of" s_l_form_of ["_law_form", "_law_s", "_law_worth_here"] := at_mk ["_law_form", "_law_s", "_law_worth_here"] X G a37 l37 c37 k37 (fun _ _ _ _ _ _ us hl => match us, hl with | [_, _, _], _ => rfl)
  have T_l_near_fraction : At K mg "_law_near_fraction" s_l_near_fraction ["_law_bag_here", "_law_form"] := at_mk ["_law_bag_here", "_law_form"] X G a38 l38 c38 k38 (fun _ _ _ _ _ _ us hl => match us, hl with | [_, _], _ => rfl)
  have T_l_floor_root : At K mg "_law_floor_root" s_l_floor_root ["_law_n"] := at_mk ["_law_n"] X G a39 l39 c39 k39 (fun _ _ _ _ _ _ us hl => match us, hl with | [_], _ => rfl)
  have T_l_root_grid : At K mg "_law_root_grid" s_l_root_grid ["_law_form", "_law_x"] := at_mk ["_law_form", "_law_x"] X G a40 l40 c40 k40 (fun _ _ _ _ _ _ us hl => match us, hl with | [_, _], _ => rfl)
  have T_l_rooted : At K mg "_law_rooted" s_l_rooted ["_law_form", "_law_way", "_law_x"] := at_mk ["_law_form", "_law_way", "_law_x"] X G a41 l41 c41 k41 (fun _ _ _ _ _ _ us hl => match us, hl with | [_, _, _], _ => rfl)
  have T_l_square_fraction : At K mg "_law_square_fraction" s_l_square_fraction ["_law_bag_here", "_law_form"] := at_mk ["_law_bag_here", "_law_form"] X G a42 l42 c42 k42 (fun _ _ _ _ _ _ us hl => match us, hl with | [_, _], _ => rfl)
  have m_abs : mg "abs" = none := PySem.W.mg_none_of X G z_abs
  have m_int : mg "int" = none := PySem.W.mg_none_of X G z_int
  have m_len : mg "len" = none := PySem.W.mg_none_of X G z_len
  have m_max : mg "max" = none := PySem.W.mg_none_of X G z_max
  have m_min : mg "min" = none := PySem.W.mg_none_of X G z_min
  have m_range : mg "range" = none := PySem.W.mg_none_of X G z_range
  have m_repr : mg "repr" = none := PySem.W.mg_none_of X G z_repr
  have m_rev : mg "reversed" = none := PySem.W.mg_none_of X G z_rev
  have m_set : mg "set" = none := PySem.W.mg_none_of X G z_set
  have m_sorted : mg "sorted" = none := PySem.W.mg_none_of X G z_sorted
  have m_tuple : mg "tuple" = none := PySem.W.mg_none_of X G z_tuple
  have m_gcd : mg "gcd" = some (.builtin "math.gcd") := PySem.W.mg_of X G z_gcd
  have m_isqrt : mg "isqrt" = some (.builtin "math.isqrt") := PySem.W.mg_of X G z_isqrt
  refine law_mk (st := s_law) (n := 12) X G hfa a43 l43 c43 k43 (fun _ _ => .of_eq rfl) (fun base f fd F => ?_)
  have c_l_take := c_of_l_take (P := PySem.Challenge.pw_nearestheld_k20_whole_rounded_roots) (w := w) (base := base) m_int T_l_take
  have c_l_some := c_of_l_some (P := PySem.Challenge.pw_nearestheld_k20_whole_rounded_roots) (w := w) (base := base) m_len c_l_take T_l_some
  have c_l_formats := c_of_l_formats (P := PySem.Challenge.pw_nearestheld_k20_whole_rounded_roots) (w := w) (base := base) c_l_some T_l_formats
  have c_l_wide_format := c_of_l_wide_format (P := PySem.Challenge.pw_nearestheld_k20_whole_rounded_roots) (w := w) (base := base) c_l_some c_l_take T_l_wide_format
  have c_l_any_format := c_of_l_any_format (P := PySem.Challenge.pw_nearestheld_k20_whole_rounded_roots) (w := w) (base := base) c_l_take c_l_formats c_l_wide_format T_l_any_format
  have c_l_to := c_of_l_to (P := PySem.Challenge.pw_nearestheld_k20_whole_rounded_roots) (w := w) (base := base) m_int T_l_to
  have c_l_floor_root := c_of_l_floor_root (P := PySem.Challenge.pw_nearestheld_k20_whole_rounded_roots) (w := w) (base := base) m_int T_l_floor_root
  have c_l_root_grid := c_of_l_root_grid (P := PySem.Challenge.pw_nearestheld_k20_whole_rounded_roots) (w := w) (base := base) m_int m_max c_l_to c_l_floor_root T_l_root_grid
  have c_l_power := c_of_l_power (P := PySem.Challenge.pw_nearestheld_k20_whole_rounded_roots) (w := w) (base := base) c_l_to T_l_power
  have c_l_is_below := c_of_l_is_below (P := PySem.Challenge.pw_nearestheld_k20_whole_rounded_roots) (w := w) (base := base) T_l_is_below
  have c_l_is_below_raw := c_of_l_is_below_raw (P := PySem.Challenge.pw_nearestheld_k20_whole_rounded_roots) (w := w) (base := base) T_l_is_below
  have c_l_common := c_of_l_common (P := PySem.Challenge.pw_nearestheld_k20_whole_rounded_roots) (w := w) (base := base) m_abs m_int T_l_common
  have c_l_over := c_of_l_over (P := PySem.Challenge.pw_nearestheld_k20_whole_rounded_roots) (w := w) (base := base) m_int c_l_common T_l_over
  have c_l_multiplied := c_of_l_multiplied (P := PySem.Challenge.pw_nearestheld_k20_whole_rounded_roots) (w := w) (base := base) c_l_over T_l_multiplied
  have c_l_greatest := c_of_l_greatest (P := PySem.Challenge.pw_nearestheld_k20_whole_rounded_roots) (w := w) (base := base) c_l_to c_l_power c_l_multiplied T_l_greatest
  have c_l_grid := c_of_l_grid (P := PySem.Challenge.pw_nearestheld_k20_whole_rounded_roots) (w := w) (base := base) m_int m_max c_l_to T_l_grid
  have c_l_form_of := c_of_l_form_of (P := PySem.Challenge.pw_nearestheld_k20_whole_rounded_roots) (w := w) (base := base) c_l_grid T_l_form_of
  have c_l_rooted := c_of_l_rooted (P := PySem.Challenge.pw_nearestheld_k20_whole_rounded_roots) (w := w) (base := base) m_int m_tuple m_sorted m_set c_l_root_grid c_l_power c_l_is_below c_l_is_below_raw c_l_to c_l_greatest c_l_form_of T_l_rooted
  have c_l_alike := c_of_l_alike (P := PySem.Challenge.pw_nearestheld_k20_whole_rounded_roots) (w := w) (base := base) m_repr T_l_alike
  have c_zero := c_of_zero (P := PySem.Challenge.pw_nearestheld_k20_whole_rounded_roots) (w := w) (base := base) T_zero
  have c_is_taken_outward := c_of_is_taken_outward (P := PySem.Challenge.pw_nearestheld_k20_whole_rounded_roots) (w := w) (base := base) T_is_taken_outward
  have c_integer_power := c_of_integer_power (P := PySem.Challenge.pw_nearestheld_k20_whole_rounded_roots) (w := w) (base := base) T_integer_power
  have c_u_nearest := c_of_u_nearest (P := PySem.Challenge.pw_nearestheld_k20_whole_rounded_roots) (w := w) (base := base) c_is_taken_outward c_integer_power T_u_nearest
  have c_u_too_great := c_of_u_too_great (P := PySem.Challenge.pw_nearestheld_k20_whole_rounded_roots) (w := w) (base := base) c_integer_power T_u_too_great
  have c_u_outcome := c_of_u_outcome (P := PySem.Challenge.pw_nearestheld_k20_whole_rounded_roots) (w := w) (base := base) c_u_nearest c_u_too_great c_integer_power T_u_outcome
  have c_u_power_within := c_of_u_power_within (P := PySem.Challenge.pw_nearestheld_k20_whole_rounded_roots) (w := w) (base := base) m_rev T_u_power_within
  have c_power_below := c_of_power_below (P := PySem.Challenge.pw_nearestheld_k20_whole_rounded_roots) (w := w) (base := base) c_u_power_within T_power_below
  have c_u_twos_in := c_of_u_twos_in (P := PySem.Challenge.pw_nearestheld_k20_whole_rounded_roots) (w := w) (base := base) T_u_twos_in
  have c_reduced := c_of_reduced (P := PySem.Challenge.pw_nearestheld_k20_whole_rounded_roots) (w := w) (base := base) m_gcd m_min c_u_twos_in T_reduced
  have c_times := c_of_times (P := PySem.Challenge.pw_nearestheld_k20_whole_rounded_roots) (w := w) (base := base) c_reduced T_times
  have c_power_of := c_of_power_of (P := PySem.Challenge.pw_nearestheld_k20_whole_rounded_roots) (w := w) (base := base) c_integer_power T_power_of
  have c_u_root_part := c_of_u_root_part (P := PySem.Challenge.pw_nearestheld_k20_whole_rounded_roots) (w := w) (base := base) T_u_root_part
  have c_u_root_spot := c_of_u_root_spot (P := PySem.Challenge.pw_nearestheld_k20_whole_rounded_roots) (w := w) (base := base) m_max m_isqrt c_power_below c_times c_power_of c_u_root_part T_u_root_spot
  have c_rounded_root := c_of_rounded_root (P := PySem.Challenge.pw_nearestheld_k20_whole_rounded_roots) (w := w) (base := base) c_zero c_u_outcome c_u_root_spot T_rounded_root
  have c_l_worth := c_of_l_worth (P := PySem.Challenge.pw_nearestheld_k20_whole_rounded_roots) (w := w) (base := base) c_l_multiplied c_l_power T_l_worth
  have c_l_bag := c_of_l_bag (P := PySem.Challenge.pw_nearestheld_k20_whole_rounded_roots) (w := w) (base := base) m_abs T_l_bag
  have c_l_sized := c_of_l_sized (P := PySem.Challenge.pw_nearestheld_k20_whole_rounded_roots) (w := w) (base := base) m_abs T_l_sized
  have c_l_edges := c_of_l_edges (P := PySem.Challenge.pw_nearestheld_k20_whole_rounded_roots) (w := w) (base := base) c_l_to T_l_edges
  have c_l_number := c_of_l_number (P := PySem.Challenge.pw_nearestheld_k20_whole_rounded_roots) (w := w) (base := base) m_min m_max c_l_take c_l_some c_l_edges c_l_to T_l_number
  have c_l_added := c_of_l_added (P := PySem.Challenge.pw_nearestheld_k20_whole_rounded_roots) (w := w) (base := base) c_l_over T_l_added
  have c_l_normal := c_of_l_normal (P := PySem.Challenge.pw_nearestheld_k20_whole_rounded_roots) (w := w) (base := base) c_l_power T_l_normal
  have c_l_near_fraction := c_of_l_near_fraction (P := PySem.Challenge.pw_nearestheld_k20_whole_rounded_roots) (w := w) (base := base) c_l_number c_l_take c_l_power c_l_some c_l_added c_l_multiplied c_l_over c_l_greatest c_l_normal T_l_near_fraction
  have c_l_square_fraction := c_of_l_square_fraction (P := PySem.Challenge.pw_nearestheld_k20_whole_rounded_roots) (w := w) (base := base) c_l_sized c_l_near_fraction c_l_take c_l_grid c_l_multiplied c_l_power c_l_worth c_l_number c_l_some c_l_to c_l_added T_l_square_fraction
  have c_l_ways := c_of_l_ways (P := PySem.Challenge.pw_nearestheld_k20_whole_rounded_roots) (w := w) (base := base) T_l_ways
  exact ok_law m_range c_l_formats c_l_any_format c_l_rooted c_l_alike c_rounded_root c_l_worth c_l_is_below c_l_multiplied c_l_bag c_l_square_fraction c_l_ways F
end K20
open PySem PySem.W PyProof.Rows
set_option maxRecDepth 100000 in
set_option maxHeartbeats 0 in
theorem PySem.Challenge.cw_nearestheld_k20_whole_rounded_roots_holds : PySem.Challenge.rw_nearestheld_k20_whole_rounded_roots.Holds := by
  w_on; o_law; k_head; (case hw => w_witness2)
  k_fill
  refine Gd.walk_ofG (l := PySem.Challenge.rw_nearestheld_k20_whole_rounded_roots) (k := 12) (x := "_law_script") rfl rfl ⟨rfl, by decide, by decide⟩ (fun w h Y => PySem.W.kIn_of Y) ?F
  case F =>
    intro w mg fa h KX G hmg
    refine' K20.all_mk KX G hmg ?a0 ?l0 ?c0 ?k0 ?a1 ?l1 ?c1 ?k1 ?a2 ?l2 ?c2 ?k2 ?a3 ?l3 ?c3 ?k3 ?a4 ?l4 ?c4 ?k4 ?a5 ?l5 ?c5 ?k5 ?a6 ?l6 ?c6 ?k6 ?a7 ?l7 ?c7 ?k7 ?a8 ?l8 ?c8 ?k8 ?a9 ?l9 ?c9 ?k9 ?a10 ?l10 ?c10 ?k10 ?a11 ?l11 ?c11 ?k11 ?a12 ?l12 ?c12 ?k12 ?a13 ?l13 ?c13 ?k13 ?a14 ?l14 ?c14 ?k14 ?a15 ?l15 ?c15 ?k15 ?a16 ?l16 ?c16 ?k16 ?a17 ?l17 ?c17 ?k17 ?a18 ?l18 ?c18 ?k18 ?a19 ?l19 ?c19 ?k19 ?a20 ?l20 ?c20 ?k20 ?a21 ?l21 ?c21 ?k21 ?a22 ?l22 ?c22 ?k22 ?a23 ?l23 ?c23 ?k23 ?a24 ?l24 ?c24 ?k24 ?a25 ?l25 ?c25 ?k25 ?a26 ?l26 ?c26 ?k26 ?a27 ?l27 ?c27 ?k27 ?a28 ?l28 ?c28 ?k28 ?a29 ?l29 ?c29 ?k29 ?a30 ?l30 ?c30 ?k30 ?a31 ?l31 ?c31 ?k31 ?a32 ?l32 ?c32 ?k32 ?a33 ?l33 ?c33 ?k33 ?a34 ?l34 ?c34 ?k34 ?a35 ?l35 ?c35 ?k35 ?a36 ?l36 ?c36 ?k36 ?a37 ?l37 ?c37 ?k37 ?a38 ?l38 ?c38 ?k38 ?a39 ?l39 ?c39 ?k39 ?a40 ?l40 ?c40 ?k40 ?a41 ?l41 ?c41 ?k41 ?a42 ?l42 ?c42 ?k42 ?a43 ?l43 ?c43 ?k43 ?z_abs ?z_int ?z_len ?z_max ?z_min ?z_range ?z_repr ?z_rev ?z_set ?z_sorted ?z_tuple ?z_gcd ?z_isqrt
    (case a0 => k_is); (case l0 => k_is); (case c0 => k_is); (case k0 => k_is)
    (case a1 => k_is); (case l1 => k_is); (case c1 => k_is); (case k1 => k_is)
    (case a2 => k_is); (case l2 => k_is); (case c2 => k_is); (case k2 => k_is)
    (case a3 => k_is); (case l3 => k_is); (case c3 => k_is); (case k3 => k_is)
    (case a4 => k_is); (case l4 => k_is); (case c4 => k_is); (case k4 => k_is)
    (case a5 => k_is); (case l5 => k_is); (case c5 => k_is); (case k5 => k_is)
    (case a6 => k_is); (case l6 => k_is); (case c6 => k_is); (case k6 => k_is)
    (case a7 => k_is); (case l7 => k_is); (case c7 => k_is); (case k7 => k_is)
    (case a8 => k_is); (case l8 => k_is); (case c8 => k_is); (case k8 => k_is)
    (case a9 => k_is); (case l9 => k_is); (case c9 => k_is); (case k9 => k_is)
    (case a10 => k_is); (case l10 => k_is); (case c10 => k_is); (case k10 => k_is)
    (case a11 => k_is); (case l11 => k_is); (case c11 => k_is); (case k11 => k_is)
    (case a12 => k_is); (case l12 => k_is); (case c12 => k_is); (case k12 => k_is)
    (case a13 => k_is); (case l13 => k_is); (case c13 => k_is); (case k13 => k_is)
    (case a14 => k_is); (case l14 => k_is); (case c14 => k_is); (case k14 => k_is)
    (case a15 => k_is); (case l15 => k_is); (case c15 => k_is); (case k15 => k_is)
    (case a16 => k_is); (case l16 => k_is); (case c16 => k_is); (case k16 => k_is)
    (case a17 => k_is); (case l17 => k_is); (case c17 => k_is); (case k17 => k_is)
    (case a18 => k_is); (case l18 => k_is); (case c18 => k_is); (case k18 => k_is)
    (case a19 => k_is); (case l19 => k_is); (case c19 => k_is); (case k19 => k_is)
    (case a20 => k_is); (case l20 => k_is); (case c20 => k_is); (case k20 => k_is)
    (case a21 => k_is); (case l21 => k_is); (case c21 => k_is); (case k21 => k_is)
    (case a22 => k_is); (case l22 => k_is); (case c22 => k_is); (case k22 => k_is)
    (case a23 => k_is); (case l23 => k_is); (case c23 => k_is); (case k23 => k_is)
    (case a24 => k_is); (case l24 => k_is); (case c24 => k_is); (case k24 => k_is)
    (case a25 => k_is); (case l25 => k_is); (case c25 => k_is); (case k25 => k_is)
    (case a26 => k_is); (case l26 => k_is); (case c26 => k_is); (case k26 => k_is)
    (case a27 => k_is); (case l27 => k_is); (case c27 => k_is); (case k27 => k_is)
    (case a28 => k_is); (case l28 => k_is); (case c28 => k_is); (case k28 => k_is)
    (case a29 => k_is); (case l29 => k_is); (case c29 => k_is); (case k29 => k_is)
    (case a30 => k_is); (case l30 => k_is); (case c30 => k_is); (case k30 => k_is)
    (case a31 => k_is); (case l31 => k_is); (case c31 => k_is); (case k31 => k_is)
    (case a32 => k_is); (case l32 => k_is); (case c32 => k_is); (case k32 => k_is)
    (case a33 => k_is); (case l33 => k_is); (case c33 => k_is); (case k33 => k_is)
    (case a34 => k_is); (case l34 => k_is); (case c34 => k_is); (case k34 => k_is)
    (case a35 => k_is); (case l35 => k_is); (case c35 => k_is); (case k35 => k_is)
    (case a36 => k_is); (case l36 => k_is); (case c36 => k_is); (case k36 => k_is)
    (case a37 => k_is); (case l37 => k_is); (case c37 => k_is); (case k37 => k_is)
    (case a38 => k_is); (case l38 => k_is); (case c38 => k_is); (case k38 => k_is)
    (case a39 => k_is); (case l39 => k_is); (case c39 => k_is); (case k39 => k_is)
    (case a40 => k_is); (case l40 => k_is); (case c40 => k_is); (case k40 => k_is)
    (case a41 => k_is); (case l41 => k_is); (case c41 => k_is); (case k41 => k_is)
    (case a42 => k_is); (case l42 => k_is); (case c42 => k_is); (case k42 => k_is)
    (case a43 => k_is); (case l43 => k_is); (case c43 => k_is); (case k43 => k_is)
    (case z_abs => k_is); (case z_int => k_is); (case z_len => k_is); (case z_max => k_is); (case z_min => k_is); (case z_range => k_is); (case z_repr => k_is); (case z_rev => k_is); (case z_set => k_is); (case z_sorted => k_is); (case z_tuple => k_is); (case z_gcd => k_is); (case z_isqrt => k_is)
