import PyProof.Rows.All
import Wide.All
import OpenK.AllK
import Wide.FinOn
import KE.KStateDown
import HandS.ForMost
import HandS.Defaults
import HandS.Head0
import HandS.Head1
import HandS.Head2
import HandS.HeadEnd
import HandS.HeadHook1
import HandS.HeadHook2
import HandS.HeadHook3
import HandS.HeadHook4
import HandS.HeadWalk
import HandS.EndTab
import HandS.AnyAll
import HandS.Deep
import HandS.FStr
import HandS.StrMore
import HandS.IsInst
import HandS.Replace
import HandS.Text
import HandS.ForExc
import HandS.RaiseMore
import HandS.More
import KE.KxText
import HandS.ExcIs
import PyProof.AutoSeq1
import HandS.SetKeys
import HandS.TupAny
import HandS.Iter
import HandS.GenList
import HandS.Rev
import PyProof.WalkInts
import PyProof.CollectIter
import HandS.Style
import HandS.CallLocal
import HandS.TryOnly
import KE.KDictMeth
import HandS.TupMul
import Lean
import PySem.Challenge.RW_showtree_k01_statements_told
set_option Elab.async false
set_option linter.all false
set_option maxRecDepth 100000
set_option maxHeartbeats 0
/-! DL: data over the hand layer: what an expression, a statement, a def is worth over plain data. -/
namespace DL
open PySem PySem.Spec PyProof.Rows L2

/-! ### heaps -/
def Sub (A B : Hp) : Prop := ∀ a o, A a = some o → B a = some o
theorem Sub.refl (A : Hp) : Sub A A := fun _ _ h => h
theorem Sub.trans {A B C : Hp} (h : Sub A B) (k : Sub B C) : Sub A C := fun a o e => k a o (h a o e)
/-- all but tables is kept; tables stay good; nothing goes away -/
structure Ext (H H' : Hp) : Prop where
  k : ∀ a o, H a = some o → (∀ ps, o ≠ .tbl ps) → H' a = some o
  t : ∀ a, GxR.TabG H a → GxR.TabG H' a
  n : ∀ a, H' a = none → H a = none
theorem Ext.refl (H : Hp) : Ext H H := ⟨fun _ _ e _ => e, fun _ e => e, fun _ e => e⟩
theorem Ext.trans {A B C : Hp} (h : Ext A B) (k : Ext B C) : Ext A C :=
  ⟨fun a o e n => k.k a o (h.k a o e n) n, fun a e => k.t a (h.t a e), fun a e => h.n a (k.n a e)⟩
theorem Ext.of_new {H : Hp} {p : Addr} {o : HO} (h : H p = none) : Ext H (upd H p o) :=
  ⟨fun a u e _ => by rw [upd_ne (ne_of_none e h)]; exact e,
   fun a ⟨ps, e, t⟩ => ⟨ps, by rw [upd_ne (ne_of_none e h)]; exact e, t⟩,
   fun a e => by
    by_cases q : a = p
    · rw [q]; exact h
    · rw [upd_ne q] at e; exact e⟩
theorem Ext.of_tab {P : Addr} {H H' : Hp} (h : GxR.Tabbed P H H') (g : GxR.TabG H P) : Ext H H' where
  k := fun a o e n => by
    have ne : a ≠ P := fun q => by
      obtain ⟨ps, e2, _⟩ := g
      rw [q, e2] at e
      exact n ps (Option.some.inj e).symm
    rw [h.2 a ne]; exact e
  t := fun a e => by
    by_cases q : a = P
    · rw [q]; exact h.1
    · obtain ⟨ps, e1, e2⟩ := e
      exact ⟨ps, by rw [h.2 a q]; exact e1, e2⟩
  n := fun a e => by
    by_cases q : a = P
    · obtain ⟨ps, e1, _⟩ := h.1
      rw [q, e1] at e
      cases e
    · rw [h.2 a q] at e; exact e
/-- the heap of what stands as data -/
structure DH (Hd H : Hp) : Prop where
  s : Sub Hd H
  nt : ∀ a ps, Hd a ≠ some (.tbl ps)
theorem DH.ext {Hd H H' : Hp} (h : DH Hd H) (e : Ext H H') : DH Hd H' :=
  ⟨fun a o q => e.k a o (h.s a o q) fun ps z => h.nt a ps (by rw [q, z]), h.nt⟩
structure Gr (Hd H Hd' H' : Hp) : Prop where
  d : Sub Hd Hd'
  h : DH Hd' H'
  e : Ext H H'
  f : ∀ a, Hd a = none → H a ≠ none → Hd' a = none
theorem Gr.refl {Hd H : Hp} (h : DH Hd H) : Gr Hd H Hd H := ⟨Sub.refl _, h, Ext.refl _, fun _ e _ => e⟩
theorem Gr.trans {A a B b C c : Hp} (h : Gr A a B b) (k : Gr B b C c) : Gr A a C c :=
  ⟨h.d.trans k.d, k.h, h.e.trans k.e, fun x e n => k.f x (h.f x e n) fun z => n (h.e.n x z)⟩
/-- a new object, as data -/
theorem Gr.new {Hd H : Hp} {p : Addr} {o : HO} (h : DH Hd H) (hp : H p = none) (ho : ∀ ps, o ≠ .tbl ps) : Gr Hd H (upd Hd p o) (upd H p o) := by
  have hd0 : Hd p = none := by
    cases q : Hd p with
    | none => rfl
    | some u =>
      have := h.s p u q
      rw [hp] at this
      cases this
  refine ⟨fun a u e => by rw [upd_ne (ne_of_none e hd0)]; exact e, ⟨fun a u e => ?_, fun a ps e => ?_⟩, Ext.of_new hp, fun a e n => ?_⟩
  · by_cases q : a = p
    · rw [q, upd_same] at e
      rw [q, upd_same, e]
    · rw [upd_ne q] at e
      rw [upd_ne q]
      exact h.s a u e
  · by_cases q : a = p
    · rw [q, upd_same] at e
      exact ho ps (Option.some.inj e)
    · rw [upd_ne q] at e
      exact h.nt a ps e
  · by_cases q : a = p
    · rw [q] at n
      exact absurd hp n
    · rw [upd_ne q]; exact e
theorem Gr.newOut {Hd H : Hp} {p : Addr} {o : HO} (h : DH Hd H) (hp : H p = none) : Gr Hd H Hd (upd H p o) :=
  ⟨Sub.refl _, h.ext (Ext.of_new hp), Ext.of_new hp, fun _ e _ => e⟩
theorem Gr.tab {Hd H H' : Hp} {P : Addr} (h : DH Hd H) (t : GxR.Tabbed P H H') (g : GxR.TabG H P) : Gr Hd H Hd H' :=
  ⟨Sub.refl _, h.ext (Ext.of_tab t g), Ext.of_tab t g, fun _ e _ => e⟩

/-! ### data -/
theorem rd_sub {A B : Hp} (s : Sub A B) {a : Addr} {u : HO} (h : Rd A a u) : Rd B a u := h.elim (fun e => .inl (s _ _ e)) fun ⟨o, e⟩ => .inr ⟨o, s _ _ e⟩
theorem sl_sub {K : PySem.W.Frag} {A B : Hp} (s : Sub A B) {a : Addr} {xs : List V} (h : SqL K A a xs) : SqL K B a xs := h.imp (rd_sub s) id
theorem st_sub {K : PySem.W.Frag} {A B : Hp} (s : Sub A B) {a : Addr} {xs : List V} (h : SqT K A a xs) : SqT K B a xs := h.imp (rd_sub s) id
mutual
theorem dp_sub {K : PySem.W.Frag} {A B : Hp} (s : Sub A B) : ∀ (d : PyData) (v : V), Dp K A v d → Dp K B v d
  | .none, _, h => by cases h; exact .non
  | .bool b, _, h => by cases h; exact .bl b
  | .int i, _, h => by cases h; exact .int i
  | .str x, _, h => by cases h; exact .str x
  | .list ds, _, h => by
    cases h with
    | lst h1 h2 => exact .lst (sl_sub s h1) (dpa_sub s ds _ h2)
  | .tuple ds, _, h => by
    cases h with
    | tup h1 h2 => exact .tup (st_sub s h1) (dpa_sub s ds _ h2)
  | .dict _, _, h => by cases h
theorem dpa_sub {K : PySem.W.Frag} {A B : Hp} (s : Sub A B) : ∀ (ds : List PyData) (vs : List V), DpAll K A vs ds → DpAll K B vs ds
  | [], _, h => by cases h; exact .nil
  | d :: ds, _, h => by
    cases h with
    | cons h1 h2 => exact .cons (dp_sub s d _ h1) (dpa_sub s ds _ h2)
end
theorem Dp.up {K : PySem.W.Frag} {A B : Hp} {v : V} {d : PyData} (h : Dp K A v d) (s : Sub A B) : Dp K B v d := dp_sub s d v h
theorem DpAll.up {K : PySem.W.Frag} {A B : Hp} {vs : List V} {ds : List PyData} (h : DpAll K A vs ds) (s : Sub A B) : DpAll K B vs ds := dpa_sub s ds vs h
section
variable {K : PySem.W.Frag} {H : Hp}
theorem dpa_len : ∀ {vs : List V} {ds : List PyData}, DpAll K H vs ds → vs.length = ds.length
  | _, _, .nil => rfl
  | _, _, .cons _ t => congrArg (· + 1) (dpa_len t)
theorem dpa_get : ∀ {vs : List V} {ds : List PyData} {i : Nat} {d : PyData}, DpAll K H vs ds → ds[i]? = some d → ∃ v, vs[i]? = some v ∧ Dp K H v d
  | _, _, _, _, .nil, e => by simp at e
  | _, _, 0, _, .cons h _, e => by
    simp at e
    subst e
    exact ⟨_, rfl, h⟩
  | _, _, i + 1, d, .cons _ t, e => by
    obtain ⟨v, h1, h2⟩ := dpa_get (i := i) (d := d) t (by simpa using e)
    exact ⟨v, by simpa using h1, h2⟩
theorem dpa_get' : ∀ {vs : List V} {ds : List PyData} {i : Nat} {v : V}, DpAll K H vs ds → vs[i]? = some v → ∃ d, ds[i]? = some d ∧ Dp K H v d
  | _, _, _, _, .nil, e => by simp at e
  | _, _, 0, _, .cons h _, e => by
    simp at e
    subst e
    exact ⟨_, rfl, h⟩
  | _, _, i + 1, d, .cons _ t, e => by
    obtain ⟨v, h1, h2⟩ := dpa_get' (i := i) t (by simpa using e)
    exact ⟨v, by simpa using h1, h2⟩
theorem dpa_app : ∀ {vs ws : List V} {ds es : List PyData}, DpAll K H vs ds → DpAll K H ws es → DpAll K H (vs ++ ws) (ds ++ es)
  | _, _, _, _, .nil, k => k
  | _, _, _, _, .cons h t, k => .cons h (dpa_app t k)
theorem dpa_take : ∀ {vs : List V} {ds : List PyData} (n : Nat), DpAll K H vs ds → DpAll K H (vs.take n) (ds.take n)
  | _, _, 0, _ => .nil
  | _, _, _ + 1, .nil => .nil
  | _, _, n + 1, .cons h t => .cons h (dpa_take n t)
theorem dpa_drop : ∀ {vs : List V} {ds : List PyData} (n : Nat), DpAll K H vs ds → DpAll K H (vs.drop n) (ds.drop n)
  | _, _, 0, r => r
  | _, _, _ + 1, .nil => .nil
  | _, _, n + 1, .cons _ t => dpa_drop n t
theorem dpa_rev {vs : List V} {ds : List PyData} (h : DpAll K H vs ds) : DpAll K H vs.reverse ds.reverse := by
  induction ds generalizing vs with
  | nil => cases h; exact .nil
  | cons d ds ih =>
    cases h with
    | cons h1 h2 =>
      rw [List.reverse_cons, List.reverse_cons]
      exact dpa_app (ih h2) (.cons h1 .nil)
theorem dpa_ints : ∀ ns : List Int, DpAll K H (ns.map V.int) (ns.map PyData.int)
  | [] => .nil
  | n :: r => .cons (.int n) (dpa_ints r)
end
/-- the same cut of data -/
def cutD {α : Type} (xs : List α) (lo hi : Option Int) : List α := (xs.drop (HT.sIx xs.length 0 lo)).take (HT.sIx xs.length xs.length hi - HT.sIx xs.length 0 lo)
theorem dpa_cut {K : PySem.W.Frag} {H : Hp} {vs : List V} {ds : List PyData} (lo hi : Option Int) (h : DpAll K H vs ds) : DpAll K H (cutV vs lo hi) (cutD ds lo hi) := by
  unfold cutV cutD
  rw [dpa_len h]
  exact dpa_take _ (dpa_drop _ h)

/-! ### slots -/
inductive Sl where
  | no
  | dat (d : PyData)
  | val (v : V)
  | own (xs : List PyData)
  /-- a thing told by what stands as data -/
  | hp (φ : V → Hp → Prop) (st : ∀ v A B, Sub A B → φ v A → φ v B)
def SlOk (K : PySem.W.Frag) (Hd H : Hp) : Option V → Sl → Prop
  | _, .no => True
  | some v, .dat d => Dp K Hd v d
  | some v, .val w => v = w
  | some v, .own xs => ∃ a vs, v = .ref a ∧ H a = some (.lst vs) ∧ Hd a = none ∧ DpAll K Hd vs xs
  | some v, .hp φ _ => φ v Hd
  | none, _ => False
structure Env (K : PySem.W.Frag) (tb : List Addr) (Hd H : Hp) (σ : L2.St) (ds : List Sl) : Prop where
  len : σ.length = ds.length
  dh : DH Hd H
  tb : ∀ P ∈ tb, GxR.TabG H P
  sl : ∀ (i : Nat) (s : Sl), ds[i]? = some s → ∃ o, σ[i]? = some o ∧ SlOk K Hd H o s
  ap : ∀ (i j : Nat) (xs ys : List PyData) (a : Addr), i ≠ j → ds[i]? = some (.own xs) → ds[j]? = some (.own ys) → σ[i]? = some (some (.ref a)) → σ[j]? = some (some (.ref a)) → False
section
variable {K : PySem.W.Frag} {tb : List Addr} {Hd H Hd' H' : Hp} {σ : L2.St} {ds : List Sl}
theorem SlOk.up {o : Option V} {s : Sl} (h : SlOk K Hd H o s) (g : Gr Hd H Hd' H') : SlOk K Hd' H' o s := by
  cases s with
  | no => cases o <;> trivial
  | dat d =>
    cases o with
    | none => exact h.elim
    | some v => exact Dp.up h g.d
  | val w =>
    cases o with
    | none => exact h.elim
    | some v => exact h
  | hp φ st =>
    cases o with
    | none => exact h.elim
    | some v => exact st v _ _ g.d h
  | own xs =>
    cases o with
    | none => exact h.elim
    | some v =>
      obtain ⟨a, vs, e1, e2, e3, e4⟩ := h
      exact ⟨a, vs, e1, g.e.k a _ e2 (fun ps z => by cases z), g.f a e3 (by rw [e2]; exact fun z => nomatch z), DpAll.up e4 g.d⟩
theorem Env.up (h : Env K tb Hd H σ ds) (g : Gr Hd H Hd' H') : Env K tb Hd' H' σ ds :=
  ⟨h.len, g.h, fun P hp => g.e.t P (h.tb P hp), fun i s e => let ⟨o, h1, h2⟩ := h.sl i s e; ⟨o, h1, h2.up g⟩, h.ap⟩
theorem Env.dat (h : Env K tb Hd H σ ds) {i : Nat} {d : PyData} (e : ds[i]? = some (.dat d)) : ∃ v, σ[i]? = some (some v) ∧ Dp K Hd v d := by
  obtain ⟨o, h1, h2⟩ := h.sl i _ e
  cases o with
  | none => exact h2.elim
  | some v => exact ⟨v, h1, h2⟩
theorem Env.val (h : Env K tb Hd H σ ds) {i : Nat} {w : V} (e : ds[i]? = some (.val w)) : σ[i]? = some (some w) := by
  obtain ⟨o, h1, h2⟩ := h.sl i _ e
  cases o with
  | none => exact h2.elim
  | some v =>
    have e : v = w := h2
    rw [h1, e]
theorem Env.own (h : Env K tb Hd H σ ds) {i : Nat} {xs : List PyData} (e : ds[i]? = some (.own xs)) : ∃ a vs, σ[i]? = some (some (.ref a)) ∧ H a = some (.lst vs) ∧ Hd a = none ∧ DpAll K Hd vs xs := by
  obtain ⟨o, h1, h2⟩ := h.sl i _ e
  cases o with
  | none => exact h2.elim
  | some v =>
    obtain ⟨a, vs, e1, e2, e3, e4⟩ := h2
    exact ⟨a, vs, by rw [h1, e1], e2, e3, e4⟩
/-- a slot is stored: what is no own list -/
theorem Env.set (h : Env K tb Hd H σ ds) {i : Nat} {v : V} {s : Sl} (hs : SlOk K Hd H (some v) s) (no : ∀ xs, s ≠ .own xs) : Env K tb Hd H (σ.set i (some v)) (ds.set i s) := by
  refine ⟨by rw [List.length_set, List.length_set]; exact h.len, h.dh, h.tb, fun j t e => ?_, fun j k xs ys a n e1 e2 e3 e4 => ?_⟩
  · by_cases q : i = j
    · subst q
      have hi : i < ds.length := by
        have := (List.getElem?_eq_some_iff.mp e).1
        rw [List.length_set] at this
        exact this
      rw [List.getElem?_set_self hi] at e
      cases e
      exact ⟨some v, List.getElem?_set_self (by rw [h.len]; exact hi), hs⟩
    · rw [List.getElem?_set_ne q] at e
      obtain ⟨o, h1, h2⟩ := h.sl j t e
      exact ⟨o, by rw [List.getElem?_set_ne q]; exact h1, h2⟩
  · have nj : ∀ (m : Nat) (zs : List PyData), (ds.set i s)[m]? = some (.own zs) → i ≠ m := fun m zs e q => by
      subst q
      have hi : i < ds.length := by
        have := (List.getElem?_eq_some_iff.mp e).1
        rw [List.length_set] at this
        exact this
      rw [List.getElem?_set_self hi] at e
      exact no zs (Option.some.inj e)
    have n1 := nj j xs e1
    have n2 := nj k ys e2
    rw [List.getElem?_set_ne n1] at e1 e3
    rw [List.getElem?_set_ne n2] at e2 e4
    exact h.ap j k xs ys a n e1 e2 e3 e4
end
end DL
namespace DL
open PySem PySem.Spec PyProof.Rows L2

/-! ### expressions over data -/
section
variable (K : PySem.W.Frag) (tb : List Addr)
def EvE (te : TE) (ds : List Sl) (d : PyData) : Prop := ∀ (Hd H : Hp) (σ : L2.St), Env K tb Hd H σ ds → ∀ Q : VK, (∀ v Hd' H', Gr Hd H Hd' H' → Dp K Hd' v d → Q v H') → te σ H Q
def EvA (ta : TA) (ds : List Sl) (es : List PyData) : Prop := ∀ (Hd H : Hp) (σ : L2.St), Env K tb Hd H σ ds → ∀ Q : List V → Hp → Prop, (∀ vs Hd' H', Gr Hd H Hd' H' → DpAll K Hd' vs es → Q vs H') → ta σ H Q
def EvT (tt : TT) (ds : List Sl) (b : Bool) : Prop := ∀ (Hd H : Hp) (σ : L2.St), Env K tb Hd H σ ds → ∀ Q : Bool → Hp → Prop, (∀ Hd' H', Gr Hd H Hd' H' → Q b H') → tt σ H Q
def EvO (to : TO) (ds : List Sl) (o : Option Int) : Prop := ∀ (Hd H : Hp) (σ : L2.St), Env K tb Hd H σ ds → ∀ Q : Option Int → Hp → Prop, (∀ Hd' H', Gr Hd H Hd' H' → Q o H') → to σ H Q
/-- an operator, a call, a method, a slice on values -/
def RvD (r : R2) (d e f : PyData) : Prop := ∀ (Hd H : Hp) (x y : V), DH Hd H → (∀ P ∈ tb, GxR.TabG H P) → Dp K Hd x d → Dp K Hd y e → ∀ Q : VK, (∀ v Hd' H', Gr Hd H Hd' H' → Dp K Hd' v f → Q v H') → r x y H Q
def RuD (r : V → Hp → VK → Prop) (d f : PyData) : Prop := ∀ (Hd H : Hp) (x : V), DH Hd H → Dp K Hd x d → ∀ Q : VK, (∀ v Hd' H', Gr Hd H Hd' H' → Dp K Hd' v f → Q v H') → r x H Q
def RcD (r : List V → Hp → VK → Prop) (es : List PyData) (f : PyData) : Prop := ∀ (Hd H : Hp) (xs : List V), DH Hd H → DpAll K Hd xs es → ∀ Q : VK, (∀ v Hd' H', Gr Hd H Hd' H' → Dp K Hd' v f → Q v H') → r xs H Q
def RsD (r : V → Option Int → Option Int → Hp → VK → Prop) (d : PyData) (lo hi : Option Int) (f : PyData) : Prop := ∀ (Hd H : Hp) (x : V), DH Hd H → Dp K Hd x d → ∀ Q : VK, (∀ v Hd' H', Gr Hd H Hd' H' → Dp K Hd' v f → Q v H') → r x lo hi H Q
end
section
variable (X : Cx) (tb : List Addr)
def PEd (e : Expr) (ds : List Sl) (d : PyData) : Prop := ∃ t, PE X e t ∧ EvE X.K tb t ds d
def PAd (es : List Expr) (ds : List Sl) (fs : List PyData) : Prop := ∃ t, PA X es t ∧ EvA X.K tb t ds fs
def PTd (e : Expr) (ds : List Sl) (b : Bool) : Prop := ∃ t, PT X e t ∧ EvT X.K tb t ds b
def PWd (e : Expr) (ds : List Sl) (b : Bool) : Prop := ∃ t, PW X e t ∧ EvT X.K tb t ds b
def POd (e : Option Expr) (ds : List Sl) (o : Option Int) : Prop := ∃ t, PO X e t ∧ EvO X.K tb t ds o
end
section
variable {X : Cx} {tb : List Addr} {ds : List Sl} {d e f : PyData} {a b c : Expr} {pos : Pos}
def visB (sc : Scope) (x : Str) : Bool := match sc.names.lookup x with
  | some .local => true
  | some .cell => true
  | some .free => true
  | _ => false
theorem visB_ok {sc : Scope} {x : Str} (h : visB sc x = true) : L2.Vis sc x := by
  unfold visB at h
  unfold L2.Vis
  split at h
  · exact .inl (by assumption)
  · exact .inr (.inl (by assumption))
  · exact .inr (.inr (by assumption))
  · cases h
def locB (sc : Scope) (x : Str) : Bool := match sc.names.lookup x with
  | some .local => true
  | some .cell => true
  | _ => false
theorem locB_ok {sc : Scope} {x : Str} (h : locB sc x = true) : L2.Loc sc x := by
  unfold locB at h
  unfold L2.Loc
  split at h
  · exact .inl (by assumption)
  · exact .inr (by assumption)
  · cases h
theorem PEd.is {g : PyData} (h : PEd X tb a ds d) (q : d = g) : PEd X tb a ds g := q ▸ h
theorem PTd.is {x y : Bool} (h : PTd X tb a ds x) (q : x = y) : PTd X tb a ds y := q ▸ h
theorem ed_var (i : Nat) {x : Str} {pos : Pos} (hd : ds[i]? = some (.dat d) := by rfl) (hN : X.N[i]? = some x := by rfl) (hv : visB X.env.scope x = true := by rfl) (h1 : (x == ("__debug__" : Str)) = false := by decide)
    (h2 : (x == ("__classdict__" : Str)) = false := by decide) : PEd X tb (.Name x pos) ds d :=
  ⟨_, pe_var hN (visB_ok hv) h1 h2, fun Hd H σ E Q q => let ⟨v, e1, e2⟩ := E.dat hd; ⟨v, e1, q v Hd H (Gr.refl E.dh) e2⟩⟩
theorem ev_c {K : PySem.W.Frag} {v : V} (h : ∀ Hd, Dp K Hd v d) : EvE K tb (tC v) ds d := fun Hd H _ E _ q => q v Hd H (Gr.refl E.dh) (h Hd)
theorem ed_int {i : Int} {j : Nat} : PEd X tb (.Constant (.int i) j pos) ds (.int i) := ⟨_, pe_int, ev_c fun _ => .int i⟩
theorem ed_bl {k : Bool} {j : Nat} : PEd X tb (.Constant (.bool k) j pos) ds (.bool k) := ⟨_, pe_bl, ev_c fun _ => .bl k⟩
theorem ed_non {j : Nat} : PEd X tb (.Constant .none j pos) ds .none := ⟨_, pe_non, ev_c fun _ => .non⟩
theorem ed_str {x : Str} {j : Nat} : PEd X tb (.Constant (.str x) j pos) ds (.str x) := ⟨_, pe_str, ev_c fun _ => .str x⟩
theorem ed_glob {x : Str} {v : V} {u : Value} (hg : Gl X x) (hm : X.mg x = some u) (r : RelV v u) (h : ∀ Hd, Dp X.K Hd v d) (hd : (x == ("__debug__" : Str)) = false := by decide) : PEd X tb (.Name x pos) ds d := ⟨_, pe_glob hg hm r hd, ev_c h⟩

/-! ### operators -/
theorem ev_op {K : PySem.W.Frag} {ta tb' : TE} {r : R2} (ha : EvE K tb ta ds d) (hb : EvE K tb tb' ds e) (hr : RvD K tb r d e f) : EvE K tb (tOp r ta tb') ds f := fun Hd H σ E Q q =>
  ha Hd H σ E _ fun x Hd1 H1 g1 dx => hb Hd1 H1 σ (E.up g1) _ fun y Hd2 H2 g2 dy => hr Hd2 H2 x y g2.h ((E.up g1).up g2).tb (Dp.up dx g2.d) dy Q fun v Hd3 H3 g3 dv => q v Hd3 H3 ((g1.trans g2).trans g3) dv
theorem ed_op {op : Operator} {r : R2} (ho : OpR X (binaryOp op) r) (hr : RvD X.K tb r d e f) (ha : PEd X tb a ds d) (hb : PEd X tb b ds e) : PEd X tb (.BinOp a op b pos) ds f :=
  let ⟨_, p1, q1⟩ := ha; let ⟨_, p2, q2⟩ := hb; ⟨_, pe_op ho p1 p2, ev_op q1 q2 hr⟩
theorem ed_un {op : UnaryOp} {r : V → Hp → VK → Prop} (ho : UnR X (unaryOp op) r) (hr : RuD X.K r d f) (ha : PEd X tb a ds d) : PEd X tb (.UnaryOp op a pos) ds f :=
  let ⟨_, p1, q1⟩ := ha; ⟨_, pe_un ho p1, fun Hd H σ E Q q => q1 Hd H σ E _ fun x Hd1 H1 g1 dx => hr Hd1 H1 x g1.h dx Q fun v Hd2 H2 g2 dv => q v Hd2 H2 (g1.trans g2) dv⟩
theorem ed_cmp {op : CmpOp} {r : R2} (ho : OpR X (compareOp op) r) (hr : RvD X.K tb r d e f) (ha : PEd X tb a ds d) (hb : PEd X tb b ds e) (hm : behindInMarks op b = false := by first | exact nomark _ | rfl) : PEd X tb (.Compare a [op] [b] pos) ds f :=
  let ⟨_, p1, q1⟩ := ha; let ⟨_, p2, q2⟩ := hb; ⟨_, pe_cmpR ho p1 p2 hm, ev_op q1 q2 hr⟩
theorem td_cmp {op : CmpOp} {r : R2} {k : Bool} (ho : OpR X (compareOp op) r) (hr : RvD X.K tb r d e (.bool k)) (ha : PEd X tb a ds d) (hb : PEd X tb b ds e) (hm : behindInMarks op b = false := by first | exact nomark _ | rfl) : PTd X tb (.Compare a [op] [b] pos) ds k :=
  let ⟨_, p1, q1⟩ := ha; let ⟨_, p2, q2⟩ := hb; ⟨_, pt_cmpR ho p1 p2 hm, fun Hd H σ E Q q => ev_op q1 q2 hr Hd H σ E _ fun v Hd1 H1 g dv => by
    cases dv
    exact ⟨k, rfl, q Hd1 H1 g⟩⟩
theorem td_val {k : Bool} (ha : PEd X tb a ds (.bool k)) (he : ∀ whole, isTrue a X.env whole = (do let v ← whole; standAt a.pos; holding [v] (truthy v)) := by intro _; rfl) : PTd X tb a ds k :=
  let ⟨_, p1, q1⟩ := ha; ⟨_, pt_val p1 he, fun Hd H σ E Q q => q1 Hd H σ E _ fun v Hd1 H1 g dv => by
    cases dv
    exact ⟨k, rfl, q Hd1 H1 g⟩⟩
theorem td_not {k : Bool} (h : PTd X tb a ds k) : PTd X tb (.UnaryOp .Not a pos) ds (!k) := let ⟨_, p, q⟩ := h; ⟨_, pt_not p, fun Hd H σ E Q z => q Hd H σ E _ fun Hd1 H1 g => z Hd1 H1 g⟩
theorem PWd.pt {k : Bool} (h : PWd X tb a ds k) : PTd X tb a ds k := let ⟨_, p, q⟩ := h; ⟨_, p.pt, q⟩
variable {rest : List Expr}
theorem wd_and1 {k : Bool} (h : PTd X tb a ds k) : PWd X tb (.BoolOp .And [a] pos) ds k := let ⟨_, p, q⟩ := h; ⟨_, pw_and1 p, q⟩
theorem wd_or1 {k : Bool} (h : PTd X tb a ds k) : PWd X tb (.BoolOp .Or [a] pos) ds k := let ⟨_, p, q⟩ := h; ⟨_, pw_or1 p, q⟩
/-- what is never asked -/
theorem wd_and {k l : Bool} (h : PTd X tb a ds k) {u : TT} (hp : PW X (.BoolOp .And (b :: rest) pos) u) (hq : k = true → EvT X.K tb u ds l) : PWd X tb (.BoolOp .And (a :: b :: rest) pos) ds (k && l) := let ⟨_, p, q⟩ := h; ⟨_, pw_and p hp, fun Hd H σ E Q z => q Hd H σ E _ fun Hd1 H1 g => by
  cases k with
  | true =>
    show u σ H1 Q
    exact hq rfl Hd1 H1 σ (E.up g) Q fun Hd2 H2 g2 => z Hd2 H2 (g.trans g2)
  | false =>
    show Q false H1
    exact z Hd1 H1 g⟩
theorem wd_or {k l : Bool} (h : PTd X tb a ds k) {u : TT} (hp : PW X (.BoolOp .Or (b :: rest) pos) u) (hq : k = false → EvT X.K tb u ds l) : PWd X tb (.BoolOp .Or (a :: b :: rest) pos) ds (k || l) := let ⟨_, p, q⟩ := h; ⟨_, pw_or p hp, fun Hd H σ E Q z => q Hd H σ E _ fun Hd1 H1 g => by
  cases k with
  | true =>
    show Q true H1
    exact z Hd1 H1 g
  | false =>
    show u σ H1 Q
    exact hq rfl Hd1 H1 σ (E.up g) Q fun Hd2 H2 g2 => z Hd2 H2 (g.trans g2)⟩
end
end DL
namespace DL
open PySem PySem.Spec PyProof.Rows L2

/-! ### what is never asked -/
section
variable {X : Cx} {tb : List Addr} {ds : List Sl} {d e f : PyData} {a b c : Expr} {pos : Pos} {rest : List Expr}
theorem pe_nev {e : Expr} : PE X e (fun _ _ _ => False) := ⟨fun _ _ _ _ _ _ h => h.elim⟩
theorem pt_nev {e : Expr} : PT X e (fun _ _ _ => False) := ⟨fun _ _ _ _ _ _ h => h.elim⟩
theorem pw_nev {e : Expr} : PW X e (fun _ _ _ => False) := ⟨fun _ _ _ _ _ _ _ h => h.elim⟩
theorem wd_andt {l : Bool} (h : PTd X tb a ds true) (hb : PWd X tb (.BoolOp .And (b :: rest) pos) ds l) : PWd X tb (.BoolOp .And (a :: b :: rest) pos) ds l := let ⟨_, p, q⟩ := hb; by
  have z := wd_and (l := l) h p fun _ => q
  rwa [Bool.true_and] at z
theorem wd_andf (h : PTd X tb a ds false) : PWd X tb (.BoolOp .And (a :: b :: rest) pos) ds false := wd_and (l := false) h pw_nev fun z => nomatch z
theorem wd_ort (h : PTd X tb a ds true) : PWd X tb (.BoolOp .Or (a :: b :: rest) pos) ds true := wd_or (l := false) h pw_nev fun z => nomatch z
theorem wd_orf {l : Bool} (h : PTd X tb a ds false) (hb : PWd X tb (.BoolOp .Or (b :: rest) pos) ds l) : PWd X tb (.BoolOp .Or (a :: b :: rest) pos) ds l := let ⟨_, p, q⟩ := hb; by
  have z := wd_or (l := l) h p fun _ => q
  rwa [Bool.false_or] at z
theorem wd_and2 {k l : Bool} (h : PTd X tb a ds k) (hb : k = true → PWd X tb (.BoolOp .And (b :: rest) pos) ds l) : PWd X tb (.BoolOp .And (a :: b :: rest) pos) ds (k && l) := by
  cases k with
  | true => exact wd_andt h (hb rfl)
  | false => exact wd_andf h
theorem wd_or2 {k l : Bool} (h : PTd X tb a ds k) (hb : k = false → PWd X tb (.BoolOp .Or (b :: rest) pos) ds l) : PWd X tb (.BoolOp .Or (a :: b :: rest) pos) ds (k || l) := by
  cases k with
  | true => exact wd_ort h
  | false => exact wd_orf h (hb rfl)
/-- as values -/
theorem ed_one {op : PySem.BoolOp} (h : PEd X tb a ds d) : PEd X tb (.BoolOp op [a] pos) ds d := let ⟨_, p, q⟩ := h; ⟨_, pe_one p, q⟩
theorem ed_and {k : Bool} (h : PEd X tb a ds (.bool k)) (hb : k = true → PEd X tb (.BoolOp .And (b :: rest) pos) ds d) (h0 : k = false → d = .bool false) : PEd X tb (.BoolOp .And (a :: b :: rest) pos) ds d := by
  obtain ⟨t, p, q⟩ := h
  cases k with
  | true =>
    obtain ⟨u, p2, q2⟩ := hb rfl
    exact ⟨_, pe_and p p2, fun Hd H σ E Q z => q Hd H σ E _ fun x Hd1 H1 g dx => by
      cases dx
      exact ⟨true, rfl, q2 Hd1 H1 σ (E.up g) Q fun v Hd2 H2 g2 dv => z v Hd2 H2 (g.trans g2) dv⟩⟩
  | false =>
    rw [h0 rfl]
    exact ⟨_, pe_and p pe_nev, fun Hd H σ E Q z => q Hd H σ E _ fun x Hd1 H1 g dx => by
      cases dx
      exact ⟨false, rfl, z _ Hd1 H1 g (.bl false)⟩⟩
theorem ed_or {k : Bool} (h : PEd X tb a ds (.bool k)) (hb : k = false → PEd X tb (.BoolOp .Or (b :: rest) pos) ds d) (h0 : k = true → d = .bool true) : PEd X tb (.BoolOp .Or (a :: b :: rest) pos) ds d := by
  obtain ⟨t, p, q⟩ := h
  cases k with
  | false =>
    obtain ⟨u, p2, q2⟩ := hb rfl
    exact ⟨_, pe_or p p2, fun Hd H σ E Q z => q Hd H σ E _ fun x Hd1 H1 g dx => by
      cases dx
      exact ⟨false, rfl, q2 Hd1 H1 σ (E.up g) Q fun v Hd2 H2 g2 dv => z v Hd2 H2 (g.trans g2) dv⟩⟩
  | true =>
    rw [h0 rfl]
    exact ⟨_, pe_or p pe_nev, fun Hd H σ E Q z => q Hd H σ E _ fun x Hd1 H1 g dx => by
      cases dx
      exact ⟨true, rfl, z _ Hd1 H1 g (.bl true)⟩⟩
theorem ed_not {k : Bool} (h : PEd X tb a ds (.bool k)) : PEd X tb (.UnaryOp .Not a pos) ds (.bool (!k)) := let ⟨_, p, q⟩ := h; ⟨_, pe_not p, fun Hd H σ E Q z => q Hd H σ E _ fun x Hd1 H1 g dx => by
  cases dx
  exact ⟨k, rfl, z _ Hd1 H1 g (.bl _)⟩⟩
theorem ed_if {k : Bool} (hc : PTd X tb c ds k) (ha : k = true → PEd X tb a ds d) (hb : k = false → PEd X tb b ds d) : PEd X tb (.IfExp c a b pos) ds d := by
  obtain ⟨t, p, q⟩ := hc
  cases k with
  | true =>
    obtain ⟨u, p2, q2⟩ := ha rfl
    exact ⟨_, pe_ifExp p p2 pe_nev, fun Hd H σ E Q z => q Hd H σ E _ fun Hd1 H1 g => q2 Hd1 H1 σ (E.up g) Q fun v Hd2 H2 g2 dv => z v Hd2 H2 (g.trans g2) dv⟩
  | false =>
    obtain ⟨u, p2, q2⟩ := hb rfl
    exact ⟨_, pe_ifExp p pe_nev p2, fun Hd H σ E Q z => q Hd H σ E _ fun Hd1 H1 g => q2 Hd1 H1 σ (E.up g) Q fun v Hd2 H2 g2 dv => z v Hd2 H2 (g.trans g2) dv⟩
/-! ### arguments, displays -/
variable {es : List Expr} {fs : List PyData}
theorem ad_nil : PAd X tb [] ds [] := ⟨_, pa_nil, fun Hd H _ E _ q => q [] Hd H (Gr.refl E.dh) .nil⟩
theorem ad_cons (ha : PEd X tb a ds d) (hr : PAd X tb es ds fs) (hs : starEach (a :: es) X.env = (false, eval a X.env) :: starEach es X.env := by rfl) : PAd X tb (a :: es) ds (d :: fs) :=
  let ⟨_, p1, q1⟩ := ha; let ⟨_, p2, q2⟩ := hr; ⟨_, pa_cons p1 p2 hs, fun Hd H σ E Q z => q1 Hd H σ E _ fun x Hd1 H1 g dx => q2 Hd1 H1 σ (E.up g) _ fun xs Hd2 H2 g2 dxs => z (x :: xs) Hd2 H2 (g.trans g2) (.cons (Dp.up dx g2.d) dxs)⟩
theorem ed_tup {k : Nat} (h : PAd X tb es ds fs) (hl : fs.length ≤ 1000000) : PEd X tb (.Tuple es k pos) ds (.tuple fs) :=
  let ⟨_, p, q⟩ := h; ⟨_, pe_tup p, fun Hd H σ E Q z => q Hd H σ E _ fun xs Hd1 H1 g dxs => ⟨by rw [dpa_len dxs]; exact Nat.le_trans hl (by decide), fun p hp => z _ _ _ (g.trans (Gr.new g.h hp fun _ z => HO.noConfusion z)) (.tup (.inl (.inl upd_same)) (DpAll.up dxs (Gr.new g.h hp fun _ z => HO.noConfusion z).d))⟩⟩
theorem ed_lst (h : PAd X tb es ds fs) (hl : fs.length ≤ 1000000) : PEd X tb (.List es pos) ds (.list fs) :=
  let ⟨_, p, q⟩ := h; ⟨_, pe_lst p, fun Hd H σ E Q z => q Hd H σ E _ fun xs Hd1 H1 g dxs => ⟨by rw [dpa_len dxs]; exact Nat.le_trans hl (by decide), fun p hp => z _ _ _ (g.trans (Gr.new g.h hp fun _ z => HO.noConfusion z)) (.lst (.inl (.inl upd_same)) (DpAll.up dxs (Gr.new g.h hp fun _ z => HO.noConfusion z).d))⟩⟩
/-! ### calls of built-ins by values, methods, slices, items -/
variable {x : Str} {p : Pos} {id T name : String} {nm : Str} {r : List V → Hp → VK → Prop}
theorem ed_callB (hc : CallR X (.builtin id) r) (hr : RcD X.K r fs f) (hm : X.mg x = none) (hv : bootBuiltins x = some (.builtin id)) (ha : PAd X tb (a :: es) ds fs) (hg : Gl X x := by rfl) (hn : x ≠ "__name__" := by decide) (hdb : (x == ("__debug__" : Str)) = false := by decide)
    (he : starEach (a :: es) X.env = (false, eval a X.env) :: starEach es X.env := by rfl) (hpl : (backTo pos (starEach es X.env)).any (·.1) = false := by rfl) : PEd X tb (.Call (.Name x p) (a :: es) [] pos) ds f :=
  let ⟨_, p1, q1⟩ := ha; ⟨_, pe_callB hc hg hm hv p1 hn hdb he hpl, fun Hd H σ E Q z => q1 Hd H σ E _ fun xs Hd1 H1 g dxs => hr Hd1 H1 xs g.h dxs Q fun v Hd2 H2 g2 dv => z v Hd2 H2 (g.trans g2) dv⟩
theorem ed_callTy (hc : CallR X (.type T) r) (hr : RcD X.K r fs f) (hm : X.mg x = none) (hv : bootBuiltins x = some (.type T)) (ha : PAd X tb (a :: es) ds fs) (hg : Gl X x := by rfl) (hn : x ≠ "__name__" := by decide) (hdb : (x == ("__debug__" : Str)) = false := by decide)
    (he : starEach (a :: es) X.env = (false, eval a X.env) :: starEach es X.env := by rfl) (hpl : (backTo pos (starEach es X.env)).any (·.1) = false := by rfl) : PEd X tb (.Call (.Name x p) (a :: es) [] pos) ds f :=
  let ⟨_, p1, q1⟩ := ha; ⟨_, pe_callTy hc hg hm hv p1 hn hdb he hpl, fun Hd H σ E Q z => q1 Hd H σ E _ fun xs Hd1 H1 g dxs => hr Hd1 H1 xs g.h dxs Q fun v Hd2 H2 g2 dv => z v Hd2 H2 (g.trans g2) dv⟩
def TyD (T : String) : PyData → Prop
  | .str _ => T = "str"
  | .list _ => T = "list"
  | .int _ => T = "int"
  | _ => False
/-- a method on values -/
def RmD (K : PySem.W.Frag) (r : V → List V → Hp → VK → Prop) (d : PyData) (fs : List PyData) (f : PyData) : Prop := ∀ (Hd H : Hp) (x : V) (xs : List V), DH Hd H → Dp K Hd x d → DpAll K Hd xs fs → ∀ Q : VK, (∀ v Hd' H', Gr Hd H Hd' H' → Dp K Hd' v f → Q v H') → r x xs H Q
theorem ty_of {K : PySem.W.Frag} {Hd H : Hp} {v : V} (h : DH Hd H) (e : Dp K Hd v d) (t : TyD T d) : tyV K T v H := by
  cases d with
  | str x => cases e; exact t
  | list xs => cases e with | lst h1 h2 => exact .inl ⟨t, _, sl_sub h.s h1⟩
  | int x => cases e; exact t
  | _ => exact t.elim
variable {rm : V → List V → Hp → VK → Prop} {apos : Pos}
theorem ed_bm (pa : PlainAttrs T) (slot : Slot T nm id) (hty : typeOf (.builtin id) = pure (.type "method_descriptor")) (hm : MtR X id rm) (hr : RmD X.K rm d fs f) (ht : TyD T d) (ho : PEd X tb b ds d) (ha : PAd X tb (a :: es) ds fs)
    (hbase : attributeBase b nm X.env (eval b X.env) = eval b X.env := by rfl)
    (hfew : ((backTo pos (starEach (a :: es) X.env)).all (fun x => !x.1) && (backToKw pos (keywordEach [] X.env)).all (fun x => x.1.isSome)
      && decide ((a :: es).length + ([] : List Keyword).length + (if ([] : List Keyword).isEmpty then 0 else 1) < 30)) = true := by rfl)
    (hline : (apos.endLine == pos.line) = true := by rfl) (hs : starEach (a :: es) X.env = (false, eval a X.env) :: starEach es X.env := by rfl) (hplain : (backTo pos (starEach es X.env)).any (·.1) = false := by rfl) :
    PEd X tb (.Call (.Attribute b nm apos) (a :: es) [] pos) ds f :=
  let ⟨_, p1, q1⟩ := ho; let ⟨_, p2, q2⟩ := ha; ⟨_, pe_bm pa slot hty hm p1 p2 hbase hfew hline hs hplain, fun Hd H σ E Q z => q1 Hd H σ E _ fun x Hd1 H1 g dx => ⟨ty_of g.h dx ht, q2 Hd1 H1 σ (E.up g) _ fun xs Hd2 H2 g2 dxs => hr Hd2 H2 x xs g2.h (Dp.up dx g2.d) dxs Q fun v Hd3 H3 g3 dv => z v Hd3 H3 ((g.trans g2).trans g3) dv⟩⟩
theorem ed_bm0 (pa : PlainAttrs T) (slot : Slot T nm id) (hty : typeOf (.builtin id) = pure (.type "method_descriptor")) (hm : MtR X id rm) (hr : RmD X.K rm d [] f) (ht : TyD T d) (ho : PEd X tb b ds d)
    (hbase : attributeBase b nm X.env (eval b X.env) = eval b X.env := by rfl) (hline : (apos.endLine == pos.line) = true := by rfl) : PEd X tb (.Call (.Attribute b nm apos) [] [] pos) ds f :=
  let ⟨_, p1, q1⟩ := ho; ⟨_, pe_bm0 pa slot hty hm p1 hbase hline, fun Hd H σ E Q z => q1 Hd H σ E _ fun x Hd1 H1 g dx => ⟨ty_of g.h dx ht, hr Hd1 H1 x [] g.h dx .nil Q fun v Hd3 H3 g3 dv => z v Hd3 H3 (g.trans g3) dv⟩⟩
/-! ### items, slices -/
theorem ed_ix {r : R2} (hr : IxR X r) (hd : RvD X.K tb r d e f) (ha : PEd X tb a ds d) (hb : PEd X tb b ds e) (hs : PlainIx b := by exact fun _ _ => rfl) : PEd X tb (.Subscript a b pos) ds f :=
  let ⟨_, p1, q1⟩ := ha; let ⟨_, p2, q2⟩ := hb; ⟨_, pe_ix hr p1 p2 hs, ev_op q1 q2 hd⟩
theorem od_none : POd X tb none ds none := ⟨_, po_none, fun Hd H _ E _ q => q Hd H (Gr.refl E.dh)⟩
theorem od_some {i : Int} (h : PEd X tb a ds (.int i)) : POd X tb (some a) ds (some i) := let ⟨_, p, q⟩ := h; ⟨_, po_some p, fun Hd H σ E Q z => q Hd H σ E _ fun x Hd1 H1 g dx => by
  cases dx
  exact ⟨i, rfl, z Hd1 H1 g⟩⟩
theorem ed_slice {rs : V → Option Int → Option Int → Hp → VK → Prop} {lo hi : Option Expr} {l u : Option Int} {p2 : Pos} (hr : SlR X rs) (hd : RsD X.K rs d l u f) (ha : PEd X tb a ds d) (hl : POd X tb lo ds l) (hu : POd X tb hi ds u) : PEd X tb (.Subscript a (.Slice lo hi none p2) pos) ds f :=
  let ⟨_, p1, q1⟩ := ha; let ⟨_, p2, q2⟩ := hl; let ⟨_, p3, q3⟩ := hu; ⟨_, pe_slice hr p1 p2 p3, fun Hd H σ E Q z => q1 Hd H σ E _ fun x Hd1 H1 g dx => q2 Hd1 H1 σ (E.up g) _ fun Hd2 H2 g2 => q3 Hd2 H2 σ ((E.up g).up g2) _ fun Hd3 H3 g3 =>
    hd Hd3 H3 x g3.h (Dp.up dx (g2.trans g3).d) Q fun v Hd4 H4 g4 dv => z v Hd4 H4 (((g.trans g2).trans g3).trans g4) dv⟩
end
end DL
namespace DL
open PySem PySem.Spec PyProof.Rows L2

/-! ### the operators on data -/
section
variable {K : PySem.W.Frag} {tb : List Addr}
theorem rv_I0 {g : Int → Int → V} {h : Int → Int → PyData} {i j : Int} (e : ∀ Hd, Dp K Hd (g i j) (h i j)) : RvD K tb (rI0 g) (.int i) (.int j) (h i j) := fun Hd H x y D _ dx dy Q q => by
  cases dx
  cases dy
  exact ⟨i, j, rfl, rfl, q _ Hd H (Gr.refl D) (e Hd)⟩
theorem rv_I {C : Int → Int → Prop} {g : Int → Int → V} {h : Int → Int → PyData} {i j : Int} (c : C i j) (e : ∀ Hd, Dp K Hd (g i j) (h i j)) : RvD K tb (rI C g) (.int i) (.int j) (h i j) := fun Hd H x y D _ dx dy Q q => by
  cases dx
  cases dy
  exact ⟨i, j, rfl, rfl, c, q _ Hd H (Gr.refl D) (e Hd)⟩
theorem ru_I {g : Int → V} {h : Int → PyData} {i : Int} (e : ∀ Hd, Dp K Hd (g i) (h i)) : RuD K (rU g) (.int i) (h i) := fun Hd H x D dx Q q => by
  cases dx
  exact ⟨i, rfl, q _ Hd H (Gr.refl D) (e Hd)⟩
variable {X : Cx} {ds : List Sl} {d e f : PyData} {a b : Expr} {pos : Pos}
theorem ed_add {i j : Int} (ha : PEd X tb a ds (.int i)) (hb : PEd X tb b ds (.int j)) : PEd X tb (.BinOp a .Add b pos) ds (.int (i + j)) := ed_op op_add (rv_I0 (h := fun i j => .int (i + j)) fun _ => .int _) ha hb
theorem ed_sub {i j : Int} (ha : PEd X tb a ds (.int i)) (hb : PEd X tb b ds (.int j)) : PEd X tb (.BinOp a .Sub b pos) ds (.int (i - j)) := ed_op op_sub (rv_I0 (h := fun i j => .int (i - j)) fun _ => .int _) ha hb
theorem ed_mul {i j : Int} (c : (-(2 ^ 64) < i ∧ i < 2 ^ 64) ∨ (-(2 ^ 64) < j ∧ j < 2 ^ 64)) (ha : PEd X tb a ds (.int i)) (hb : PEd X tb b ds (.int j)) : PEd X tb (.BinOp a .Mult b pos) ds (.int (i * j)) := ed_op op_mul (rv_I (h := fun i j => .int (i * j)) c fun _ => .int _) ha hb
theorem ed_fdiv {i j : Int} (ha : PEd X tb a ds (.int i)) (hb : PEd X tb b ds (.int j)) (c : 0 < j ∧ j < 1073741824 := by decide) : PEd X tb (.BinOp a .FloorDiv b pos) ds (.int (i / j)) := ed_op op_fdiv (rv_I (C := CDiv) (h := fun i j => .int (i / j)) c fun _ => .int _) ha hb
theorem ed_mod {i j : Int} (ha : PEd X tb a ds (.int i)) (hb : PEd X tb b ds (.int j)) (c : 0 < j := by decide) : PEd X tb (.BinOp a .Mod b pos) ds (.int (i % j)) := ed_op op_mod (rv_I (C := fun _ j => 0 < j) (h := fun i j => .int (i % j)) c fun _ => .int _) ha hb
theorem ed_neg {i : Int} (ha : PEd X tb a ds (.int i)) : PEd X tb (.UnaryOp .USub a pos) ds (.int (-i)) := ed_un un_neg (ru_I (h := fun i => .int (-i)) fun _ => .int _) ha
theorem dp_scal {Hd : Hp} {x y : V} (h : scal x y = true) : True := trivial
/-- scalar data as values -/
def scV : PyData → Option V
  | .bool b => some (.bl b)
  | .int i => some (.int i)
  | .str x => some (.str x)
  | _ => none
theorem scV_of {Hd : Hp} {v w : V} (h : Dp K Hd v d) (e : scV d = some w) : v = w := by
  cases d <;> first | (cases h; exact Option.some.inj e) | cases e
theorem rv_eq {v w : V} (h1 : scV d = some v) (h2 : scV e = some w) (h : scal v w = true) : RvD K tb rEq d e (.bool (decide (v = w))) := fun Hd H x y D _ dx dy Q q => by
  rw [scV_of dx h1, scV_of dy h2]
  exact ⟨h, q _ Hd H (Gr.refl D) (.bl _)⟩
theorem rv_ne {v w : V} (h1 : scV d = some v) (h2 : scV e = some w) (h : scal v w = true) : RvD K tb rNe d e (.bool (!decide (v = w))) := fun Hd H x y D _ dx dy Q q => by
  rw [scV_of dx h1, scV_of dy h2]
  exact ⟨h, q _ Hd H (Gr.refl D) (.bl _)⟩
theorem rv_eqI {i j : Int} : RvD K tb rEq (.int i) (.int j) (.bool (decide (i = j))) := by
  have z := rv_eq (K := K) (tb := tb) (d := .int i) (e := .int j) rfl rfl rfl
  rwa [show decide (V.int i = V.int j) = decide (i = j) from decide_eq_decide.mpr ⟨V.int.inj, congrArg _⟩] at z
theorem rv_neI {i j : Int} : RvD K tb rNe (.int i) (.int j) (.bool (!decide (i = j))) := by
  have z := rv_ne (K := K) (tb := tb) (d := .int i) (e := .int j) rfl rfl rfl
  rwa [show decide (V.int i = V.int j) = decide (i = j) from decide_eq_decide.mpr ⟨V.int.inj, congrArg _⟩] at z
theorem rv_eqS {i j : Str} : RvD K tb rEq (.str i) (.str j) (.bool (decide (i = j))) := by
  have z := rv_eq (K := K) (tb := tb) (d := .str i) (e := .str j) rfl rfl rfl
  rwa [show decide (V.str i = V.str j) = decide (i = j) from decide_eq_decide.mpr ⟨V.str.inj, congrArg _⟩] at z
theorem rv_neS {i j : Str} : RvD K tb rNe (.str i) (.str j) (.bool (!decide (i = j))) := by
  have z := rv_ne (K := K) (tb := tb) (d := .str i) (e := .str j) rfl rfl rfl
  rwa [show decide (V.str i = V.str j) = decide (i = j) from decide_eq_decide.mpr ⟨V.str.inj, congrArg _⟩] at z
theorem rv_eqB {i j : Bool} : RvD K tb rEq (.bool i) (.bool j) (.bool (decide (i = j))) := by
  have z := rv_eq (K := K) (tb := tb) (d := .bool i) (e := .bool j) rfl rfl rfl
  rwa [show decide (V.bl i = V.bl j) = decide (i = j) from decide_eq_decide.mpr ⟨V.bl.inj, congrArg _⟩] at z
theorem rv_neB {i j : Bool} : RvD K tb rNe (.bool i) (.bool j) (.bool (!decide (i = j))) := by
  have z := rv_ne (K := K) (tb := tb) (d := .bool i) (e := .bool j) rfl rfl rfl
  rwa [show decide (V.bl i = V.bl j) = decide (i = j) from decide_eq_decide.mpr ⟨V.bl.inj, congrArg _⟩] at z
theorem rv_eqD (sd : SeqAt.shaped d = true) (se : SeqAt.shaped e = true) : RvD K tb (rEqD K) d e (.bool (PyData.eqv d e)) := fun Hd H x y D _ dx dy Q q =>
  ⟨d, e, Dp.up dx D.s, Dp.up dy D.s, sd, se, q _ Hd H (Gr.refl D) (.bl _)⟩
theorem rv_neD (sd : SeqAt.shaped d = true) (se : SeqAt.shaped e = true) : RvD K tb (rNeD K) d e (.bool (!PyData.eqv d e)) := fun Hd H x y D _ dx dy Q q =>
  ⟨d, e, Dp.up dx D.s, Dp.up dy D.s, sd, se, q _ Hd H (Gr.refl D) (.bl _)⟩
theorem rv_inD {zs : List PyData} (sd : SeqAt.shaped d = true) (se : SeqAt.shaped (.list zs) = true) : RvD K tb (rInD K) d (.list zs) (.bool (zs.any fun z => PyData.eqv z d)) := fun Hd H x y D _ dx dy Q q =>
  ⟨d, zs, Dp.up dx D.s, Dp.up dy D.s, sd, se, q _ Hd H (Gr.refl D) (.bl _)⟩
theorem rv_lt {i j : Int} : RvD K tb (rI0 fun i j => .bl (decide (i < j))) (.int i) (.int j) (.bool (decide (i < j))) := rv_I0 (h := fun i j => .bool (decide (i < j))) fun _ => .bl _
theorem rv_le {i j : Int} : RvD K tb (rI0 fun i j => .bl (decide (i ≤ j))) (.int i) (.int j) (.bool (decide (i ≤ j))) := rv_I0 (h := fun i j => .bool (decide (i ≤ j))) fun _ => .bl _
theorem rv_gt {i j : Int} : RvD K tb (rI0 fun i j => .bl (decide (j < i))) (.int i) (.int j) (.bool (decide (j < i))) := rv_I0 (h := fun i j => .bool (decide (j < i))) fun _ => .bl _
theorem rv_ge {i j : Int} : RvD K tb (rI0 fun i j => .bl (decide (j ≤ i))) (.int i) (.int j) (.bool (decide (j ≤ i))) := rv_I0 (h := fun i j => .bool (decide (j ≤ i))) fun _ => .bl _
/-- text + text -/
theorem rv_addS {i j : Str} (h : i.length + j.length ≤ 16000000) : RvD K tb (fun x y H Q => ∃ i j, x = .str i ∧ y = .str j ∧ i.length + j.length ≤ sizeLine ∧ Q (.str (i ++ j)) H) (.str i) (.str j) (.str (i ++ j)) := fun Hd H x y D _ dx dy Q q => by
  cases dx
  cases dy
  exact ⟨i, j, rfl, rfl, Nat.le_trans h (by decide), q _ Hd H (Gr.refl D) (.str _)⟩
/-- list + list; any list that stands -/
def rCatS (K : PySem.W.Frag) : R2 := fun x y H Q => ∃ l b xs zs, x = .ref l ∧ y = .ref b ∧ SqL K H l xs ∧ SqL K H b zs ∧ xs.length + zs.length ≤ sizeLine ∧ ∀ p, H p = none → Q (.ref p) (upd H p (.lst (xs ++ zs)))
theorem rv_cat {xs ys : List PyData} (h : xs.length + ys.length ≤ 16000000) : RvD K tb (rCatS K) (.list xs) (.list ys) (.list (xs ++ ys)) := fun Hd H x y D _ dx dy Q q => by
  cases dx with
  | lst h1 h2 =>
    cases dy with
    | lst k1 k2 =>
      refine ⟨_, _, _, _, rfl, rfl, sl_sub D.s h1, sl_sub D.s k1, by rw [dpa_len h2, dpa_len k2]; exact Nat.le_trans h (by decide), fun p hp => q _ _ _ (Gr.new D hp fun _ z => HO.noConfusion z) ?_⟩
      exact .lst (.inl (.inl upd_same)) (DpAll.up (dpa_app h2 k2) (Gr.new D hp fun _ z => HO.noConfusion z).d)
/-- items -/
theorem atI_map {α β : Type} {xs : List α} {ys : List β} {i : Int} {y : β} (hl : xs.length = ys.length) (h : atI ys i = some y) : ∃ j, ixN ys.length i = some j ∧ ys[j]? = some y := by
  unfold atI at h
  cases q : ixN ys.length i with
  | none => rw [q] at h; cases h
  | some j => rw [q] at h; exact ⟨j, rfl, h⟩
theorem rv_ixL {xs : List PyData} {i : Int} (h : atI xs i = some f) : RvD K tb (rIxL K) (.list xs) (.int i) f := fun Hd H x y D _ dx dy Q q => by
  cases dy
  cases dx with
  | @lst a vs _ h1 h2 =>
    obtain ⟨j, e1, e2⟩ := atI_map (xs := vs) (dpa_len h2) h
    obtain ⟨v, e3, e4⟩ := dpa_get h2 e2
    exact ⟨_, vs, i, v, rfl, rfl, sl_sub D.s h1, by unfold atI; rw [dpa_len h2, e1]; exact e3, q _ Hd H (Gr.refl D) e4⟩
theorem rv_ixT {xs : List PyData} {i : Int} (h : atI xs i = some f) : RvD K tb (rIxT K) (.tuple xs) (.int i) f := fun Hd H x y D _ dx dy Q q => by
  cases dy
  cases dx with
  | @tup a vs _ h1 h2 =>
    obtain ⟨j, e1, e2⟩ := atI_map (xs := vs) (dpa_len h2) h
    obtain ⟨v, e3, e4⟩ := dpa_get h2 e2
    exact ⟨_, vs, i, v, rfl, rfl, st_sub D.s h1, by unfold atI; rw [dpa_len h2, e1]; exact e3, q _ Hd H (Gr.refl D) e4⟩
theorem rv_ixS {s : Str} {i : Int} {c : Nat} (hl : s.length ≤ 16000000) (h : atI s.cps.toList i = some c) : RvD K tb rIxS (.str s) (.int i) (.str ⟨#[c]⟩) := fun Hd H x y D _ dx dy Q q => by
  cases dx
  cases dy
  exact ⟨s, i, c, rfl, rfl, Nat.le_trans hl (by decide), h, q _ Hd H (Gr.refl D) (.str _)⟩
/-- slices -/
theorem rs_list {xs : List PyData} {l u : Option Int} : RsD K (rSlL K) (.list xs) l u (.list (cutD xs l u)) := fun Hd H x D dx Q q => by
  cases dx with
  | lst h1 h2 => exact ⟨_, _, rfl, sl_sub D.s h1, fun p hp => q _ _ _ (Gr.new D hp fun _ z => HO.noConfusion z) (.lst (.inl (.inl upd_same)) (DpAll.up (dpa_cut l u h2) (Gr.new D hp fun _ z => HO.noConfusion z).d))⟩
/-- len -/
theorem rc_lenS {z : Str} (h : z.length ≤ 16000000) : RcD K (fun xs H Q => ∃ z, xs = [.str z] ∧ z.length ≤ sizeLine ∧ Q (.int z.length) H) [.str z] (.int z.length) := fun Hd H xs D dx Q q => by
  cases dx with
  | cons h1 h2 =>
    cases h2
    cases h1
    exact ⟨z, rfl, Nat.le_trans h (by decide), q _ Hd H (Gr.refl D) (.int _)⟩
theorem rc_lenL {xs : List PyData} : RcD K (fun xs H Q => ∃ p ys, xs = [.ref p] ∧ (SqL K H p ys ∨ SqT K H p ys) ∧ Q (.int ys.length) H) [.list xs] (.int xs.length) := fun Hd H vs D dx Q q => by
  cases dx with
  | cons h1 h2 =>
    cases h2
    cases h1 with
    | lst k1 k2 => exact ⟨_, _, rfl, .inl (sl_sub D.s k1), q _ Hd H (Gr.refl D) (by rw [dpa_len k2]; exact .int _)⟩
theorem rc_lenT {xs : List PyData} : RcD K (fun xs H Q => ∃ p ys, xs = [.ref p] ∧ (SqL K H p ys ∨ SqT K H p ys) ∧ Q (.int ys.length) H) [.tuple xs] (.int xs.length) := fun Hd H vs D dx Q q => by
  cases dx with
  | cons h1 h2 =>
    cases h2
    cases h1 with
    | tup k1 k2 => exact ⟨_, _, rfl, .inr (st_sub D.s k1), q _ Hd H (Gr.refl D) (by rw [dpa_len k2]; exact .int _)⟩
end
end DL
namespace DL
open PySem PySem.Spec PyProof.Rows L2

section
variable {X : Cx} {tb : List Addr} {ds : List Sl} {d e f : PyData} {a b c : Expr} {pos : Pos}
theorem op_catS : OpR X (binaryOp .Add) (rCatS X.K) := by
  intro pins s σ H x y v u Q I rx ry h
  obtain ⟨l, b, xs, zs, rfl, rfl, hH, hB, hz, q⟩ := h
  cases rx
  cases ry
  obtain ⟨its, r, ⟨⟨cls, dd, data, sl⟩, n, e, hc, hd, hx⟩, z⟩ := I.list hH
  obtain ⟨its2, r2, ⟨⟨cls2, dd2, data2, sl2⟩, n2, e2, hc2, hd2, hx2⟩, z2⟩ := I.list hB
  simp only at hc hd hx hc2 hd2 hx2
  subst hc hd hx hc2 hd2 hx2
  have hl := r.length
  have hl2 := r2.length
  have ea : its.toArray ++ its2.toArray = (its ++ its2).toArray := by simp
  refine concat_meets ⟨_, e, rfl⟩ ⟨_, e2, rfl⟩ noFill_list_add seq_list_add PySem.F.slot_list_add PySem.F.entry_list_add (PySem.F.args_list_add_2 _ _) (list_addW l b its.toArray its2.toArray n n2 _ _ sl sl2 (by rw [List.size_toArray, List.size_toArray]; omega)) ⟨e, e2, ?_⟩
  rw [ea]
  exact ⟨.ref _, _, I.lnew (t' := s.toks) (r.append r2) (by rw [List.length_append]; omega), rfl, q _ I.fresh⟩
theorem ed_cat {xs ys : List PyData} (ha : PEd X tb a ds (.list xs)) (hb : PEd X tb b ds (.list ys)) (h : xs.length + ys.length ≤ 16000000) : PEd X tb (.BinOp a .Add b pos) ds (.list (xs ++ ys)) := ed_op op_catS (rv_cat h) ha hb
theorem ed_addS {i j : Str} (ha : PEd X tb a ds (.str i)) (hb : PEd X tb b ds (.str j)) (h : i.length + j.length ≤ 16000000) : PEd X tb (.BinOp a .Add b pos) ds (.str (i ++ j)) := ed_op op_add_str (rv_addS h) ha hb
theorem ed_ixL {xs : List PyData} {i : Int} (ha : PEd X tb a ds (.list xs)) (hb : PEd X tb b ds (.int i)) (h : atI xs i = some f) (hs : PlainIx b := by exact fun _ _ => rfl) : PEd X tb (.Subscript a b pos) ds f := ed_ix ix_list (rv_ixL h) ha hb hs
theorem ed_ixT {xs : List PyData} {i : Int} (ha : PEd X tb a ds (.tuple xs)) (hb : PEd X tb b ds (.int i)) (h : atI xs i = some f) (hs : PlainIx b := by exact fun _ _ => rfl) : PEd X tb (.Subscript a b pos) ds f := ed_ix ix_tup (rv_ixT h) ha hb hs
theorem ed_ixS {z : Str} {i : Int} {k : Nat} (ha : PEd X tb a ds (.str z)) (hb : PEd X tb b ds (.int i)) (hl : z.length ≤ 16000000) (h : atI z.cps.toList i = some k) (hs : PlainIx b := by exact fun _ _ => rfl) : PEd X tb (.Subscript a b pos) ds (.str ⟨#[k]⟩) := ed_ix ix_str (rv_ixS hl h) ha hb hs
theorem ed_slL {xs : List PyData} {lo hi : Option Expr} {l u : Option Int} {p2 : Pos} (ha : PEd X tb a ds (.list xs)) (hl : POd X tb lo ds l) (hu : POd X tb hi ds u) : PEd X tb (.Subscript a (.Slice lo hi none p2) pos) ds (.list (cutD xs l u)) := ed_slice sl_list rs_list ha hl hu
theorem rs_str {z : Str} {l u : Option Int} (h : z.length ≤ 16000000) : RsD X.K (fun x lo hi H Q => ∃ z, x = .str z ∧ z.length ≤ sizeLine ∧ Q (.str (cutS z lo hi)) H) (.str z) l u (.str (cutS z l u)) := fun Hd H x D dx Q q => by
  cases dx
  exact ⟨z, rfl, Nat.le_trans h (by decide), q _ Hd H (Gr.refl D) (.str _)⟩
theorem ed_slS {z : Str} {lo hi : Option Expr} {l u : Option Int} {p2 : Pos} (ha : PEd X tb a ds (.str z)) (hl : POd X tb lo ds l) (hu : POd X tb hi ds u) (h : z.length ≤ 16000000) : PEd X tb (.Subscript a (.Slice lo hi none p2) pos) ds (.str (cutS z l u)) := ed_slice sl_str (rs_str h) ha hl hu
theorem ed_lenL {xs : List PyData} {p : Pos} (hm : X.mg "len" = none) (ha : PEd X tb a ds (.list xs)) (hg : Gl X "len" := by rfl) (hs : starEach [a] X.env = [(false, eval a X.env)] := by rfl) : PEd X tb (.Call (.Name "len" p) [a] [] pos) ds (.int xs.length) :=
  ed_callB call_len_seq rc_lenL hm PySem.boot_len (ad_cons ha ad_nil hs) hg (by decide) (by decide) hs (by rfl)
theorem ed_lenT {xs : List PyData} {p : Pos} (hm : X.mg "len" = none) (ha : PEd X tb a ds (.tuple xs)) (hg : Gl X "len" := by rfl) (hs : starEach [a] X.env = [(false, eval a X.env)] := by rfl) : PEd X tb (.Call (.Name "len" p) [a] [] pos) ds (.int xs.length) :=
  ed_callB call_len_seq rc_lenT hm PySem.boot_len (ad_cons ha ad_nil hs) hg (by decide) (by decide) hs (by rfl)
theorem ed_lenS {z : Str} {p : Pos} (hm : X.mg "len" = none) (ha : PEd X tb a ds (.str z)) (h : z.length ≤ 16000000) (hg : Gl X "len" := by rfl) (hs : starEach [a] X.env = [(false, eval a X.env)] := by rfl) : PEd X tb (.Call (.Name "len" p) [a] [] pos) ds (.int z.length) :=
  ed_callB call_len_str (rc_lenS h) hm PySem.boot_len (ad_cons ha ad_nil hs) hg (by decide) (by decide) hs (by rfl)

/-! ### isinstance -/
def tyD : PyData → String
  | .none => "NoneType"
  | .bool _ => "bool"
  | .int _ => "int"
  | .str _ => "str"
  | .list _ => "list"
  | .tuple _ => "tuple"
  | .dict _ => "dict"
theorem tyx_of {K : PySem.W.Frag} {Hd H : Hp} {v : V} (D : DH Hd H) (h : Dp K Hd v d) : TyX K H v (.type (tyD d)) := by
  cases d with
  | none => cases h; exact .base .non
  | bool b => cases h; exact .base (.bl b)
  | int b => cases h; exact .base (.int b)
  | str b => cases h; exact .base (.str b)
  | list xs =>
    cases h with
    | lst h1 h2 =>
      rcases h1 with (h1 | ⟨o, h1⟩) | ⟨o, _, _, h1, h3, _⟩
      · exact .base (.lst (D.s _ _ h1))
      · exact .base (.frz (D.s _ _ h1))
      · exact .kList h1 h3
  | tuple xs =>
    cases h with
    | tup h1 h2 =>
      rcases h1 with (h1 | ⟨o, h1⟩) | ⟨o, _, _, h1, h3, _⟩
      · exact .base (.tup (D.s _ _ h1))
      · exact .fTuple (D.s _ _ h1)
      · exact .kTuple h1 h3
  | dict _ => cases h
theorem ed_isi {T : String} {Tn : Str} {p pT : Pos} {k : Bool} (hk : kitB (tyD d) T = some k) (hm : X.mg "isinstance" = none) (hT : X.mg Tn = none) (ha : PEd X tb a ds d) (hb : bootBuiltins Tn = some (.type T) := by decide +kernel) (hi : bootBuiltins "isinstance" = some (.builtin "isinstance") := by decide +kernel) (hg : Gl X "isinstance" := by rfl) (hgT : Gl X Tn := by rfl)
    (hn : Tn ≠ "__name__" := by decide) (hd : (Tn == ("__debug__" : Str)) = false := by decide)
    (hs : starEach [a, .Name Tn pT] X.env = (false, eval a X.env) :: starEach [.Name Tn pT] X.env := by rfl) (hs2 : starEach [.Name Tn pT] X.env = (false, eval (.Name Tn pT) X.env) :: starEach [] X.env := by rfl) (hpl : (backTo pos (starEach [.Name Tn pT] X.env)).any (·.1) = false := by rfl) :
    PEd X tb (.Call (.Name "isinstance" p) [a, .Name Tn pT] [] pos) ds (.bool k) :=
  let ⟨_, p1, q1⟩ := ha; ⟨_, pe_callB call_isi hg hm hi (pa_cons p1 (pa_cons (pe_bltn (v := .ty T) hgT hT hb rfl hn hd) pa_nil hs2) hs) (by decide) (by decide) hs hpl, fun Hd H σ E Q z => q1 Hd H σ E _ fun x Hd1 H1 g dx =>
    ⟨x, .ty T, _, _, k, rfl, .ty T, tyx_of g.h dx, kit_ty hk, z _ Hd1 H1 g (.bl k)⟩⟩
end
end DL
namespace DL
open PySem PySem.Spec PyProof.Rows L2

/-! ### the canonical readings -/
section
variable (X : Cx)
def wpE (e : Expr) : TE := fun σ H Q => ∃ t, PE X e t ∧ t σ H Q
def wpT (e : Expr) : TT := fun σ H Q => ∃ t, PT X e t ∧ t σ H Q
def wpS (s : Stmt) : TS := fun D σ H => ∃ t, PS X s t ∧ t D σ H
def wpB (s : List Stmt) : TS := fun D σ H => ∃ t, PSs X s t ∧ t D σ H
end
section
variable {X : Cx} {tb : List Addr} {ds : List Sl} {d : PyData} {e : Expr}
theorem pe_can : PE X e (wpE X e) := ⟨fun pins s σ H Q I ⟨t, p, h⟩ => p.run pins s σ H Q I h⟩
theorem pt_can : PT X e (wpT X e) := ⟨fun pins s σ H Q I ⟨t, p, h⟩ => p.run pins s σ H Q I h⟩
theorem ps_can {st : Stmt} : PS X st (wpS X st) := ⟨fun pins s σ H Q I ⟨t, p, h⟩ => p.run pins s σ H Q I h⟩
theorem pb_can {st : List Stmt} : PSs X st (wpB X st) := ⟨fun pins s σ H Q I ⟨t, p, h⟩ => p.run pins s σ H Q I h⟩
theorem PEd.can (h : PEd X tb e ds d) : EvE X.K tb (wpE X e) ds d := let ⟨t, p, q⟩ := h; fun Hd H σ E Q z => ⟨t, p, q Hd H σ E Q z⟩
theorem PTd.can {k : Bool} (h : PTd X tb e ds k) : EvT X.K tb (wpT X e) ds k := let ⟨t, p, q⟩ := h; fun Hd H σ E Q z => ⟨t, p, q Hd H σ E Q z⟩
end

/-! ### what a loop, a comprehension walks, as data -/
structure Walk (K : PySem.W.Frag) (J : It) (Hd1 : Hp) (items : List PyData) : Prop where
  go : ∀ (i : Nat) (Hd H : Hp), Sub Hd1 Hd → DH Hd H → i < items.length → J.go i H
  yl : ∀ (i : Nat) (Hd H : Hp) (x : V) (H' : Hp), Sub Hd1 Hd → DH Hd H → i < items.length → J.yld i H x H' → ∃ Hd' d, items[i]? = some d ∧ Gr Hd H Hd' H' ∧ Dp K Hd' x d
  st : ∀ (i : Nat) (Hd H : Hp), Sub Hd1 Hd → DH Hd H → items.length ≤ i → J.stop i H
def PId (X : Cx) (tb : List Addr) (tg iter : Expr) (ds : List Sl) (items : List PyData) : Prop := ∃ wi, PI X tg iter wi ∧ ∀ (Hd H : Hp) (σ : L2.St), Env X.K tb Hd H σ ds → ∀ R : It → Hp → Prop, (∀ J Hd1 H1, Gr Hd H Hd1 H1 → Walk X.K J Hd1 items → R J H1) → wi σ H R
section
variable {X : Cx} {tb : List Addr} {ds : List Sl} {tg a b : Expr} {pos p : Pos}
theorem id_list {xs : List PyData} (h : PEd X tb a ds (.list xs)) : PId X tb tg a ds xs :=
  let ⟨_, p, q⟩ := h; ⟨_, pi_list p, fun Hd H σ E R z => q Hd H σ E _ fun v Hd1 H1 g dv => by
    cases dv with
    | @lst a vs _ h1 h2 =>
      refine ⟨a, rfl, ⟨vs, sl_sub g.h.s h1⟩, z _ Hd1 H1 g ⟨fun i Hd' H' s D hi => ?_, fun i Hd' H' x H'' s D _ y => ?_, fun i Hd' H' s D hi => ?_⟩⟩
      · obtain ⟨v, e1, _⟩ := dpa_get (i := i) h2 (List.getElem?_eq_getElem hi)
        exact ⟨vs, v, sl_sub D.s (sl_sub s h1), e1⟩
      · obtain ⟨rfl, y⟩ := y
        obtain ⟨d, e1, e2⟩ := dpa_get' h2 (y vs (sl_sub D.s (sl_sub s h1)))
        exact ⟨Hd', d, e1, Gr.refl D, Dp.up e2 s⟩
      · exact ⟨vs, sl_sub D.s (sl_sub s h1), by rw [dpa_len h2]; exact hi⟩⟩
theorem id_tup {xs : List PyData} (h : PEd X tb a ds (.tuple xs)) : PId X tb tg a ds xs :=
  let ⟨_, p, q⟩ := h; ⟨_, pi_tup p, fun Hd H σ E R z => q Hd H σ E _ fun v Hd1 H1 g dv => by
    cases dv with
    | @tup a vs _ h1 h2 =>
      refine ⟨a, rfl, ⟨vs, st_sub g.h.s h1⟩, z _ Hd1 H1 g ⟨fun i Hd' H' s D hi => ?_, fun i Hd' H' x H'' s D _ y => ?_, fun i Hd' H' s D hi => ?_⟩⟩
      · obtain ⟨v, e1, _⟩ := dpa_get (i := i) h2 (List.getElem?_eq_getElem hi)
        exact ⟨vs, v, st_sub D.s (st_sub s h1), e1⟩
      · obtain ⟨rfl, y⟩ := y
        obtain ⟨d, e1, e2⟩ := dpa_get' h2 (y vs (st_sub D.s (st_sub s h1)))
        exact ⟨Hd', d, e1, Gr.refl D, Dp.up e2 s⟩
      · exact ⟨vs, st_sub D.s (st_sub s h1), by rw [dpa_len h2]; exact hi⟩⟩
/-- lo, lo + 1, .. -/
def rngD (lo : Int) (n : Nat) : List PyData := (List.range n).map fun (i : Nat) => .int (lo + (i : Int))
theorem walk_rng {K : PySem.W.Frag} {Hd1 : Hp} (lo : Int) (n : Nat) : Walk K (Itr lo n) Hd1 (rngD lo n) where
  go := fun i _ _ _ _ hi => by
    unfold rngD at hi
    rw [List.length_map, List.length_range] at hi
    exact hi
  yl := fun i Hd H x H' _ D hi y => by
    obtain ⟨rfl, rfl⟩ := y
    unfold rngD at hi
    rw [List.length_map, List.length_range] at hi
    refine ⟨Hd, .int (lo + i), ?_, Gr.refl D, .int _⟩
    unfold rngD
    rw [List.getElem?_map, List.getElem?_range hi] <;> rfl
  st := fun i _ _ _ _ hi => by
    unfold rngD at hi
    rw [List.length_map, List.length_range] at hi
    exact hi
theorem id_rng1 {j : Int} (hm : X.mg "range" = none) (h : PEd X tb a ds (.int j)) (hj : j < 2 ^ 62) (hl : -(2 ^ 62) ≤ j) (hg : Gl X "range" := by rfl) (hs : starEach [a] X.env = [(false, eval a X.env)] := by rfl) : PId X tb tg (.Call (.Name "range" p) [a] [] pos) ds (rngD 0 j.toNat) :=
  let ⟨_, p1, q1⟩ := ad_cons h ad_nil hs; ⟨_, pi_range1 hg hm p1 hs, fun Hd H σ E R z => q1 Hd H σ E _ fun vs Hd1 H1 g dv => by
    cases dv with
    | cons h1 h2 =>
      cases h2
      cases h1
      exact ⟨j, rfl, hl, hj, z _ Hd1 H1 g (walk_rng 0 _)⟩⟩
theorem id_rng2 {i j : Int} (hm : X.mg "range" = none) (h : PEd X tb a ds (.int i)) (h' : PEd X tb b ds (.int j)) (hi : -(2 ^ 62) ≤ i ∧ i < 2 ^ 62 ∧ -(2 ^ 62) ≤ j ∧ j < 2 ^ 62) (hg : Gl X "range" := by rfl) (hs : starEach [a, b] X.env = [(false, eval a X.env), (false, eval b X.env)] := by rfl)
    (hs2 : starEach [b] X.env = [(false, eval b X.env)] := by rfl) : PId X tb tg (.Call (.Name "range" p) [a, b] [] pos) ds (rngD i (j - i).toNat) :=
  let ⟨_, p1, q1⟩ := ad_cons h (ad_cons h' ad_nil hs2) (by rw [hs, hs2]); ⟨_, pi_range2 hg hm p1 hs hs2, fun Hd H σ E R z => q1 Hd H σ E _ fun vs Hd1 H1 g dv => by
    cases dv with
    | cons h1 h2 =>
      cases h2 with
      | cons h3 h4 =>
        cases h4
        cases h1
        cases h3
        exact ⟨i, j, rfl, hi, z _ Hd1 H1 g (walk_rng i _)⟩⟩
end

/-! ### statements -/
structure State (K : PySem.W.Frag) (tb : List Addr) (Hd0 H0 Hd H : Hp) (σ : L2.St) (ds : List Sl) : Prop where
  env : Env K tb Hd H σ ds
  gr : Gr Hd0 H0 Hd H
  fr : ∀ (i : Nat) (xs : List PyData) (a : Addr), ds[i]? = some (.own xs) → σ[i]? = some (some (.ref a)) → H0 a = none
inductive Out where
  | nx (ds : List Sl)
  | rt (d : PyData)
  /-- a new list is handed back, nobody else's -/
  | ro (xs : List PyData)
  | bk (ds : List Sl)
  | ct (ds : List Sl)
  | ex (c : Value)
abbrev WX' := Value → Option Addr → L2.St → Hp → Prop
def Post (K : PySem.W.Frag) (tb : List Addr) (W : WX') (Hd0 H0 Hd : Hp) (D : Ends) : Out → Prop
  | .nx ds => ∀ σ' Hd' H', State K tb Hd0 H0 Hd' H' σ' ds → Sub Hd Hd' → D.nx σ' H'
  | .bk ds => ∀ σ' Hd' H', State K tb Hd0 H0 Hd' H' σ' ds → Sub Hd Hd' → D.bk σ' H'
  | .ct ds => ∀ σ' Hd' H', State K tb Hd0 H0 Hd' H' σ' ds → Sub Hd Hd' → D.ct σ' H'
  | .rt d => ∀ v Hd' H', Gr Hd0 H0 Hd' H' → (∀ P ∈ tb, GxR.TabG H' P) → Dp K Hd' v d → D.rt v H'
  | .ro xs => ∀ (fo : Addr) (ws : List V) Hd' H', Gr Hd0 H0 Hd' H' → (∀ P ∈ tb, GxR.TabG H' P) → H0 fo = none → Hd' fo = none → H' fo = some (.lst ws) → DpAll K Hd' ws xs → D.rt (.ref fo) H'
  | .ex c => ∀ σ' Hd' H', Gr Hd0 H0 Hd' H' → (∀ P ∈ tb, GxR.TabG H' P) → W c none σ' H'
def Run (K : PySem.W.Frag) (tb : List Addr) (W : WX') (t : TS) (ds : List Sl) (o : Out) : Prop := ∀ (Hd0 H0 Hd H : Hp) (σ : L2.St) (D : Ends), State K tb Hd0 H0 Hd H σ ds → Post K tb W Hd0 H0 Hd D o → t D σ H
def PSd (X : Cx) (tb : List Addr) (W : WX') (s : Stmt) (ds : List Sl) (o : Out) : Prop := ∃ t, PS X s t ∧ Run X.K tb W t ds o
def PBd (X : Cx) (tb : List Addr) (W : WX') (s : List Stmt) (ds : List Sl) (o : Out) : Prop := ∃ t, PSs X s t ∧ Run X.K tb W t ds o
section
variable {K : PySem.W.Frag} {tb : List Addr} {W : WX'} {Hd0 H0 Hd H Hd' H' : Hp} {σ : L2.St} {ds es : List Sl}
theorem State.up (h : State K tb Hd0 H0 Hd H σ ds) (g : Gr Hd H Hd' H') : State K tb Hd0 H0 Hd' H' σ ds := ⟨h.env.up g, h.gr.trans g, h.fr⟩
theorem State.set (h : State K tb Hd0 H0 Hd H σ ds) {i : Nat} {v : V} {s : Sl} (hs : SlOk K Hd H (some v) s) (no : ∀ xs, s ≠ .own xs) : State K tb Hd0 H0 Hd H (σ.set i (some v)) (ds.set i s) := ⟨h.env.set hs no, h.gr, fun j xs a e1 e2 => by
  by_cases q : i = j
  · subst q
    have hi : i < ds.length := by
      have := (List.getElem?_eq_some_iff.mp e1).1
      rw [List.length_set] at this
      exact this
    rw [List.getElem?_set_self hi] at e1
    exact (no xs (Option.some.inj e1)).elim
  · rw [List.getElem?_set_ne q] at e1 e2
    exact h.fr j xs a e1 e2⟩
theorem Post.back {Hd1 : Hp} {D : Ends} (s : Sub Hd Hd1) : ∀ {o : Out}, Post K tb W Hd0 H0 Hd D o → Post K tb W Hd0 H0 Hd1 D o
  | .nx _, p => fun σ' Hd' H' z e => p σ' Hd' H' z (s.trans e)
  | .bk _, p => fun σ' Hd' H' z e => p σ' Hd' H' z (s.trans e)
  | .ct _, p => fun σ' Hd' H' z e => p σ' Hd' H' z (s.trans e)
  | .rt _, p => p
  | .ro _, p => p
  | .ex _, p => p
end
section
variable {X : Cx} {tb : List Addr} {W : WX'} {ds es : List Sl} {d : PyData} {a b c : Expr} {pos pos' : Pos} {st : Stmt} {rest r1 r2 : List Stmt} {o : Out}
theorem bd_nil : PBd X tb W [] ds (.nx ds) := ⟨_, pss_nil, fun Hd0 H0 Hd H σ D S p => p σ Hd H S (Sub.refl _)⟩
theorem bd_cons (h : PSd X tb W st ds (.nx es)) (k : PBd X tb W rest es o) : PBd X tb W (st :: rest) ds o :=
  let ⟨_, p1, q1⟩ := h; let ⟨_, p2, q2⟩ := k; ⟨_, pss_cons p1 p2, fun Hd0 H0 Hd H σ D S p => q1 Hd0 H0 Hd H σ _ S fun σ' Hd' H' S' s => q2 Hd0 H0 Hd' H' σ' D S' (p.back s)⟩
/-- a block that is left -/
def Out.left : Out → Bool
  | .nx _ => false
  | _ => true
theorem bd_left (h : PSd X tb W st ds o) (hl : o.left = true := by rfl) : PBd X tb W (st :: rest) ds o :=
  let ⟨_, p1, q1⟩ := h; ⟨_, pss_cons p1 pss_never, fun Hd0 H0 Hd H σ D S p => q1 Hd0 H0 Hd H σ _ S (by
    cases o with
    | nx _ => cases hl
    | _ => exact p)⟩
theorem bd_one (h : PSd X tb W st ds o) : PBd X tb W [st] ds o := let ⟨_, p1, q1⟩ := h; ⟨_, pss_one p1, q1⟩
theorem PBd.is {o' : Out} (h : PBd X tb W rest ds o) (e : o = o') : PBd X tb W rest ds o' := e ▸ h
theorem PSd.is {o' : Out} (h : PSd X tb W st ds o) (e : o = o') : PSd X tb W st ds o' := e ▸ h
theorem PBd.envIs (h : PBd X tb W rest es o) (e : ds = es) : PBd X tb W rest ds o := e ▸ h
theorem sd_pass : PSd X tb W (.Pass pos) ds (.nx ds) := ⟨_, ps_pass, fun Hd0 H0 Hd H σ D S p => p σ Hd H S (Sub.refl _)⟩
theorem sd_break : PSd X tb W (.Break pos) ds (.bk ds) := ⟨_, ps_break, fun Hd0 H0 Hd H σ D S p => p σ Hd H S (Sub.refl _)⟩
theorem sd_cont : PSd X tb W (.Continue pos) ds (.ct ds) := ⟨_, ps_continue, fun Hd0 H0 Hd H σ D S p => p σ Hd H S (Sub.refl _)⟩
theorem sd_ret (h : PEd X tb a ds d) : PSd X tb W (.Return (some a) pos) ds (.rt d) := let ⟨_, p1, q1⟩ := h; ⟨_, ps_ret p1, fun Hd0 H0 Hd H σ D S p => q1 Hd H σ S.env _ fun v Hd' H' g dv => p v Hd' H' (S.gr.trans g) (S.env.up g).tb dv⟩
theorem sd_retN : PSd X tb W (.Return none pos) ds (.rt .none) := ⟨_, ps_retN, fun Hd0 H0 Hd H σ D S p => p .non Hd H S.gr S.env.tb .non⟩
theorem sd_expr (h : PEd X tb a ds d) (hs : swapsWith a none pos.line X.env = pure false := by rfl) : PSd X tb W (.Expr a pos) ds (.nx ds) := let ⟨_, p1, q1⟩ := h; ⟨_, ps_expr p1 hs, fun Hd0 H0 Hd H σ D S p => q1 Hd H σ S.env _ fun v Hd' H' g dv => p σ Hd' H' (S.up g) g.d⟩
theorem sd_set (i : Nat) {x : Str} (h : PEd X tb a ds d) (hN : X.N.Nodup) (hi : X.N[i]? = some x := by rfl) (hx : locB X.env.scope x = true := by rfl) (hs : swapsWith a (some (.Name x pos')) pos.line X.env = pure false := by rfl)
    (hf : X.fn x = true ∨ X.env.scope.names.lookup x = some .local := by first | exact .inl rfl | exact .inr rfl) : PSd X tb W (.Assign [.Name x pos'] a pos) ds (.nx (ds.set i (.dat d))) :=
  let ⟨_, p1, q1⟩ := h; ⟨_, ps_set hN hi (locB_ok hx) p1 hs hf, fun Hd0 H0 Hd H σ D S p => q1 Hd H σ S.env _ fun v Hd' H' g dv => p _ Hd' H' ((S.up g).set (s := .dat d) dv fun _ z => nomatch z) g.d⟩
theorem sd_if {k : Bool} (hc : PTd X tb c ds k) (h1 : k = true → PBd X tb W r1 ds o) (h2 : k = false → PBd X tb W r2 ds o) : PSd X tb W (.If c r1 r2 pos) ds o := by
  obtain ⟨t, p, q⟩ := hc
  cases k with
  | true =>
    obtain ⟨u, p1, q1⟩ := h1 rfl
    exact ⟨_, ps_if p p1 pss_never, fun Hd0 H0 Hd H σ D S z => q Hd H σ S.env _ fun Hd' H' g => q1 Hd0 H0 Hd' H' σ D (S.up g) (z.back g.d)⟩
  | false =>
    obtain ⟨u, p1, q1⟩ := h2 rfl
    exact ⟨_, ps_if p pss_never p1, fun Hd0 H0 Hd H σ D S z => q Hd H σ S.env _ fun Hd' H' g => q1 Hd0 H0 Hd' H' σ D (S.up g) (z.back g.d)⟩
/-- if c: (leaves) .. rest -/
theorem bd_if {k : Bool} (hc : PTd X tb c ds k) (h1 : k = true → PBd X tb W r1 ds o) (hl : o.left = true := by rfl) (h2 : k = false → PBd X tb W rest ds o) : PBd X tb W (.If c r1 [] pos :: rest) ds o := by
  cases k with
  | true => exact bd_left (sd_if hc h1 fun z => nomatch z) hl
  | false => exact bd_cons (sd_if (o := .nx ds) hc (fun z => nomatch z) fun _ => bd_nil) (h2 rfl)
end
end DL
namespace DL
open PySem PySem.Spec PyProof.Rows L2

section
variable {X : Cx} {tb : List Addr} {W : WX'} {ds es : List Sl} {d : PyData} {a b c iter elt : Expr} {pos pos' px : Pos} {st : Stmt} {rest body : List Stmt} {o o' : Out} {x : Str}
theorem PBd.can (h : PBd X tb W body ds o) : Run X.K tb W (wpB X body) ds o := let ⟨t, p, q⟩ := h; fun Hd0 H0 Hd H σ D S z => ⟨t, p, q Hd0 H0 Hd H σ D S z⟩
/-- how a body's end becomes the loop's -/
inductive Leaves : Out → Out → Prop where
  | rt (d : PyData) : Leaves (.rt d) (.rt d)
  | ro (xs : List PyData) : Leaves (.ro xs) (.ro xs)
  | bk (ds : List Sl) : Leaves (.bk ds) (.nx ds)
  | ex (c : Value) : Leaves (.ex c) (.ex c)
inductive Goes : Out → List Sl → Prop where
  | nx (ds : List Sl) : Goes (.nx ds) ds
  | ct (ds : List Sl) : Goes (.ct ds) ds
/-- for: m turns go on, then the end, or a turn that leaves -/
theorem sd_forX {items : List PyData} (j : Nat) (m : Nat) (S : Nat → List Sl) (hp : PassesOwn (model X.prog X.w) X.A X.env X.xe) (hc : X.calm = true) (hi : PId X tb (.Name x px) iter ds items) (hN : X.N.Nodup) (h0 : S 0 = ds) (hm : m ≤ items.length)
    (hb : ∀ i d, i < m → items[i]? = some d → ∃ o', Goes o' (S (i + 1)) ∧ PBd X tb W body ((S i).set j (.dat d)) o')
    (he : (m = items.length ∧ o = .nx (S m)) ∨ ∃ d o', items[m]? = some d ∧ PBd X tb W body ((S m).set j (.dat d)) o' ∧ Leaves o' o)
    (hj : X.N[j]? = some x := by rfl) (hx : locB X.env.scope x = true := by rfl) (hf : X.fn x = true ∨ X.env.scope.names.lookup x = some .local := by first | exact .inl rfl | exact .inr rfl)
    (hs : ∀ x, foldedSetIterable iter X.env x = pure x := by intro _; rfl) : PSd X tb W (.For (.Name x px) iter body [] pos) ds o := by
  obtain ⟨wi, p1, q1⟩ := hi
  refine ⟨_, ps_for hp hc p1 (pg_name hN hj (locB_ok hx) hf) pb_can hs, fun Hd0 H0 Hd H σ D St z => q1 Hd H σ St.env _ fun J Hd1 H1 g wk => ?_⟩
  refine ⟨fun i mm σ' H' => mm = items.length - i ∧ i ≤ m ∧ ∃ Hd', State X.K tb Hd0 H0 Hd' H' σ' (S i) ∧ Sub Hd1 Hd', ⟨items.length, by simp, Nat.zero_le _, Hd1, by rw [h0]; exact St.up g, Sub.refl _⟩, ?_⟩
  rintro i mm σ' H' ⟨rfl, him, Hd', S', s'⟩
  by_cases hlt : i < m
  · have hil : i < items.length := Nat.lt_of_lt_of_le hlt hm
    refine .inr ⟨wk.go i Hd' H' s' S'.env.dh hil, _, fun σ2 H2 z2 => ⟨items.length - (i + 1), by omega, z2⟩, fun v H2 y => ?_⟩
    obtain ⟨Hd2, dd, e1, g2, dv⟩ := wk.yl i Hd' H' v H2 s' S'.env.dh hil y
    obtain ⟨o', go, hbb⟩ := hb i dd hlt e1
    have S2 := (S'.up g2).set (i := j) (s := .dat dd) dv fun _ z => nomatch z
    refine hbb.can Hd0 H0 Hd2 H2 _ _ S2 ?_
    cases go with
    | nx => exact fun σ3 Hd3 H3 S3 s3 => ⟨rfl, hlt, Hd3, S3, (s'.trans g2.d).trans s3⟩
    | ct => exact fun σ3 Hd3 H3 S3 s3 => ⟨rfl, hlt, Hd3, S3, (s'.trans g2.d).trans s3⟩
  · have e : i = m := by omega
    subst e
    rcases he with ⟨e1, e2⟩ | ⟨dd, o', e1, hbb, lv⟩
    · subst e2
      exact .inl ⟨wk.st i Hd' H' s' S'.env.dh (Nat.le_of_eq e1.symm), z σ' Hd' H' S' (g.d.trans s')⟩
    · have hil : i < items.length := (List.getElem?_eq_some_iff.mp e1).1
      refine .inr ⟨wk.go i Hd' H' s' S'.env.dh hil, fun _ _ => False, fun _ _ z => z.elim, fun v H2 y => ?_⟩
      obtain ⟨Hd2, d2, e3, g2, dv⟩ := wk.yl i Hd' H' v H2 s' S'.env.dh hil y
      have e4 : d2 = dd := Option.some.inj (e3.symm.trans e1)
      subst e4
      have S2 := (S'.up g2).set (i := j) (s := .dat d2) dv fun _ z => nomatch z
      refine hbb.can Hd0 H0 Hd2 H2 _ _ S2 ?_
      cases lv with
      | rt d => exact z
      | ro d => exact z
      | bk ds2 => exact fun σ3 Hd3 H3 S3 s3 => z σ3 Hd3 H3 S3 ((g.d.trans s').trans (g2.d.trans s3))
      | ex c => exact z
/-- .. to its end -/
theorem sd_for {items : List PyData} (j : Nat) (S : Nat → List Sl) (hp : PassesOwn (model X.prog X.w) X.A X.env X.xe) (hc : X.calm = true) (hi : PId X tb (.Name x px) iter ds items) (hN : X.N.Nodup) (h0 : S 0 = ds)
    (hb : ∀ i d, items[i]? = some d → PBd X tb W body ((S i).set j (.dat d)) (.nx (S (i + 1))))
    (hj : X.N[j]? = some x := by rfl) (hx : locB X.env.scope x = true := by rfl) (hf : X.fn x = true ∨ X.env.scope.names.lookup x = some .local := by first | exact .inl rfl | exact .inr rfl)
    (hs : ∀ x, foldedSetIterable iter X.env x = pure x := by intro _; rfl) : PSd X tb W (.For (.Name x px) iter body [] pos) ds (.nx (S items.length)) :=
  sd_forX j items.length S hp hc hi hN h0 (Nat.le_refl _) (fun i d _ e => ⟨_, .nx _, hb i d e⟩) (.inl ⟨rfl, rfl⟩) hj hx hf hs
/-- while -/
theorem sd_whileX (m : Nat) (S : Nat → List Sl) (hp : PassesOwn (model X.prog X.w) X.A X.env X.xe) (h0 : S 0 = ds)
    (hb : ∀ i, i < m → PTd X tb c (S i) true ∧ ∃ o', Goes o' (S (i + 1)) ∧ PBd X tb W body (S i) o')
    (he : (PTd X tb c (S m) false ∧ o = .nx (S m)) ∨ (PTd X tb c (S m) true ∧ ∃ o', PBd X tb W body (S m) o' ∧ Leaves o' o)) : PSd X tb W (.While c body [] pos) ds o := by
  refine ⟨_, ps_while hp pt_can pb_can, fun Hd0 H0 Hd H σ D St z => ?_⟩
  refine ⟨fun mm σ' H' => ∃ i, mm = m - i ∧ i ≤ m ∧ ∃ Hd', State X.K tb Hd0 H0 Hd' H' σ' (S i) ∧ Sub Hd Hd', ⟨m, 0, by simp, Nat.zero_le _, Hd, by rw [h0]; exact St, Sub.refl _⟩, ?_⟩
  rintro mm σ' H' ⟨i, rfl, him, Hd', S', s'⟩
  by_cases hlt : i < m
  · obtain ⟨ht, o', go, hbb⟩ := hb i hlt
    refine ht.can Hd' H' σ' S'.env _ fun Hd2 H2 g2 => ?_
    show if true = true then _ else _
    refine iteT ⟨_, fun σ3 H3 z3 => ⟨m - (i + 1), by omega, i + 1, z3⟩, ?_⟩
    refine hbb.can Hd0 H0 Hd2 H2 _ _ (S'.up g2) ?_
    cases go with
    | nx => exact fun σ3 Hd3 H3 S3 s3 => ⟨rfl, hlt, Hd3, S3, (s'.trans g2.d).trans s3⟩
    | ct => exact fun σ3 Hd3 H3 S3 s3 => ⟨rfl, hlt, Hd3, S3, (s'.trans g2.d).trans s3⟩
  · have e : i = m := by omega
    subst e
    rcases he with ⟨ht, e2⟩ | ⟨ht, o', hbb, lv⟩
    · subst e2
      refine ht.can Hd' H' σ' S'.env _ fun Hd2 H2 g2 => ?_
      show if false = true then _ else _
      exact iteF (z σ' Hd2 H2 (S'.up g2) (s'.trans g2.d))
    · refine ht.can Hd' H' σ' S'.env _ fun Hd2 H2 g2 => ?_
      show if true = true then _ else _
      refine iteT ⟨fun _ _ => False, fun _ _ z => z.elim, ?_⟩
      refine hbb.can Hd0 H0 Hd2 H2 _ _ (S'.up g2) ?_
      cases lv with
      | rt d => exact z
      | ro d => exact z
      | bk ds2 => exact fun σ3 Hd3 H3 S3 s3 => z σ3 Hd3 H3 S3 ((s'.trans g2.d).trans s3)
      | ex c => exact z
theorem sd_while (m : Nat) (S : Nat → List Sl) (hp : PassesOwn (model X.prog X.w) X.A X.env X.xe) (h0 : S 0 = ds)
    (hb : ∀ i, i < m → PTd X tb c (S i) true ∧ PBd X tb W body (S i) (.nx (S (i + 1)))) (he : PTd X tb c (S m) false) : PSd X tb W (.While c body [] pos) ds (.nx (S m)) :=
  sd_whileX m S hp h0 (fun i h => ⟨(hb i h).1, _, .nx _, (hb i h).2⟩) (.inl ⟨he, rfl⟩)

/-! ### own lists -/
theorem bd_own (i : Nat) {x : Str} {pos1 pos2 : Pos} (h : PBd X tb W rest (ds.set i (.own [])) o) (hN : X.N.Nodup) (hi : X.N[i]? = some x := by rfl) (hx : locB X.env.scope x = true := by rfl) (hs : swapsWith (.List [] pos1) (some (.Name x pos')) pos2.line X.env = pure false := by rfl)
    (hf : X.fn x = true ∨ X.env.scope.names.lookup x = some .local := by first | exact .inl rfl | exact .inr rfl) : PBd X tb W (.Assign [.Name x pos'] (.List [] pos1) pos2 :: rest) ds o := by
  refine bd_cons (es := ds.set i (.own [])) ⟨_, ps_set hN hi (locB_ok hx) (pe_lst pa_nil) hs hf, fun Hd0 H0 Hd H σ D S p => ?_⟩ h
  refine ⟨Nat.zero_le _, fun q hq => ?_⟩
  have g := Gr.newOut (o := .lst []) S.env.dh hq
  have hd0 : Hd q = none := by
    cases e : Hd q with
    | none => rfl
    | some u =>
      have := S.env.dh.s q u e
      rw [hq] at this
      cases this
  have E := S.env.up g
  have h00 : H0 q = none := S.gr.e.n q hq
  refine p (σ.set i (some (.ref q))) Hd (upd H q (.lst [])) ⟨⟨by rw [List.length_set, List.length_set]; exact E.len, E.dh, E.tb, fun j t e => ?_, fun j k xs ys a n e1 e2 e3 e4 => ?_⟩, S.gr.trans g, fun j xs a e1 e2 => ?_⟩ (Sub.refl _)
  · by_cases qq : i = j
    · subst qq
      have hil : i < ds.length := by
        have := (List.getElem?_eq_some_iff.mp e).1
        rw [List.length_set] at this
        exact this
      rw [List.getElem?_set_self hil] at e
      cases e
      exact ⟨_, List.getElem?_set_self (by rw [E.len]; exact hil), q, [], rfl, upd_same, hd0, .nil⟩
    · rw [List.getElem?_set_ne qq] at e
      obtain ⟨oo, k1, k2⟩ := E.sl j t e
      exact ⟨oo, by rw [List.getElem?_set_ne qq]; exact k1, k2⟩
  · have fresh : ∀ (m : Nat) (zs : List PyData), i ≠ m → (ds.set i (.own []))[m]? = some (.own zs) → (σ.set i (some (.ref q)))[m]? = some (some (.ref q)) → False := fun m zs hne f1 f2 => by
      rw [List.getElem?_set_ne hne] at f1 f2
      obtain ⟨b, vs, f3, f4, _, _⟩ := S.env.own f1
      rw [f2] at f3
      have eb : q = b := V.ref.inj (Option.some.inj (Option.some.inj f3))
      rw [← eb, hq] at f4
      cases f4
    have self : ∀ {t : Option V}, (σ.set i (some (V.ref q)))[i]? = some t → t = some (.ref q) := fun {t} f => by
      have hil : i < σ.length := by
        have := (List.getElem?_eq_some_iff.mp f).1
        rw [List.length_set] at this
        exact this
      rw [List.getElem?_set_self hil] at f
      exact (Option.some.inj f).symm
    by_cases q1 : i = j
    · subst q1
      have ea : a = q := V.ref.inj (Option.some.inj (self e3))
      subst ea
      exact fresh k ys n e2 e4
    · by_cases q2 : i = k
      · subst q2
        have ea : a = q := V.ref.inj (Option.some.inj (self e4))
        subst ea
        exact fresh j xs q1 e1 e3
      · rw [List.getElem?_set_ne q1] at e1 e3
        rw [List.getElem?_set_ne q2] at e2 e4
        exact S.env.ap j k xs ys a n e1 e2 e3 e4
  · by_cases q1 : i = j
    · subst q1
      have hil : i < σ.length := by
        have := (List.getElem?_eq_some_iff.mp e2).1
        rw [List.length_set] at this
        exact this
      rw [List.getElem?_set_self hil] at e2
      have ea : q = a := V.ref.inj (Option.some.inj (Option.some.inj e2))
      rw [← ea]
      exact h00
    · rw [List.getElem?_set_ne q1] at e1 e2
      exact S.fr j xs a e1 e2
end
end DL
namespace DL
open PySem PySem.Spec PyProof.Rows L2

section
variable {K : PySem.W.Frag} {tb : List Addr} {Hd0 H0 Hd H Hd' H' : Hp} {σ : L2.St} {ds : List Sl}
theorem not_tab {H : Hp} {a P : Addr} {vs : List V} (h : H a = some (.lst vs)) (t : GxR.TabG H P) : P ≠ a := fun e => by
  obtain ⟨ps, e1, _⟩ := t
  rw [e, h] at e1
  cases e1
/-- an own list is changed -/
theorem State.putOwn (S : State K tb Hd0 H0 Hd H σ ds) {i : Nat} {xs ys : List PyData} {a : Addr} {vs ws : List V} (e : ds[i]? = some (.own xs)) (ea : σ[i]? = some (some (.ref a))) (hl : H a = some (.lst vs)) (hd : Hd a = none) (hw : DpAll K Hd ws ys) :
    State K tb Hd0 H0 Hd (upd H a (.lst ws)) σ (ds.set i (.own ys)) := by
  have h00 := S.fr i xs a e ea
  have il : i < ds.length := (List.getElem?_eq_some_iff.mp e).1
  refine ⟨⟨by rw [List.length_set]; exact S.env.len, ⟨fun b o q => ?_, S.env.dh.nt⟩, fun P hp => ?_, fun j t q => ?_, fun j k zs ws' b n e1 e2 e3 e4 => ?_⟩, ⟨S.gr.d, ⟨fun b o q => ?_, S.env.dh.nt⟩, ⟨fun b o q n => ?_, fun P t => ?_, fun b q => ?_⟩, S.gr.f⟩, fun j zs b e1 e2 => ?_⟩
  · rw [upd_ne (ne_of_none q hd)]
    exact S.env.dh.s b o q
  · obtain ⟨ps, e1, e2⟩ := S.env.tb P hp
    exact ⟨ps, by rw [upd_ne (not_tab hl ⟨ps, e1, e2⟩)]; exact e1, e2⟩
  · by_cases q1 : i = j
    · subst q1
      rw [List.getElem?_set_self il] at q
      cases q
      exact ⟨_, ea, a, ws, rfl, upd_same, hd, hw⟩
    · rw [List.getElem?_set_ne q1] at q
      obtain ⟨oo, k1, k2⟩ := S.env.sl j t q
      refine ⟨oo, k1, ?_⟩
      cases t with
      | no => cases oo <;> trivial
      | dat d => cases oo <;> exact k2
      | val w => cases oo <;> exact k2
      | hp φ st => cases oo <;> exact k2
      | own zs =>
        cases oo with
        | none => exact k2.elim
        | some v =>
          obtain ⟨b, us, f1, f2, f3, f4⟩ := k2
          have nb : b ≠ a := fun z => by
            rw [f1, z] at k1
            exact S.env.ap i j xs zs a q1 e q ea k1
          exact ⟨b, us, f1, by rw [upd_ne nb]; exact f2, f3, f4⟩
  · have own : ∀ (m : Nat) (zs : List PyData), (ds.set i (.own ys))[m]? = some (.own zs) → ∃ zs', ds[m]? = some (.own zs') := fun m zs f => by
      by_cases q1 : i = m
      · subst q1
        exact ⟨xs, e⟩
      · rw [List.getElem?_set_ne q1] at f
        exact ⟨zs, f⟩
    obtain ⟨z1, f1⟩ := own j zs e1
    obtain ⟨z2, f2⟩ := own k ws' e2
    exact S.env.ap j k z1 z2 b n f1 f2 e3 e4
  · rw [upd_ne (ne_of_none q hd)]
    exact S.env.dh.s b o q
  · rw [upd_ne (ne_of_none q h00)]
    exact S.gr.e.k b o q n
  · obtain ⟨ps, e1, e2⟩ := S.gr.e.t P t
    exact ⟨ps, by rw [upd_ne (not_tab hl ⟨ps, e1, e2⟩)]; exact e1, e2⟩
  · by_cases q1 : b = a
    · rw [q1]; exact h00
    · rw [upd_ne q1] at q
      exact S.gr.e.n b q
  · by_cases q1 : i = j
    · subst q1
      exact S.fr i xs b e e2
    · rw [List.getElem?_set_ne q1] at e1
      exact S.fr j zs b e1 e2
/-- an own list that is not changed any more is data -/
theorem State.freeze (S : State K tb Hd0 H0 Hd H σ ds) {i : Nat} {xs : List PyData} (e : ds[i]? = some (.own xs)) : ∃ Hd', Sub Hd Hd' ∧ State K tb Hd0 H0 Hd' H σ (ds.set i (.dat (.list xs))) := by
  obtain ⟨a, vs, ea, hl, hd, hx⟩ := S.env.own e
  have h00 := S.fr i xs a e ea
  have il : i < ds.length := (List.getElem?_eq_some_iff.mp e).1
  have s : Sub Hd (upd Hd a (.lst vs)) := fun b o q => by rw [upd_ne (ne_of_none q hd)]; exact q
  have D : DH (upd Hd a (.lst vs)) H := ⟨fun b o q => by
      by_cases z : b = a
      · rw [z, upd_same] at q
        rw [z, hl, q]
      · rw [upd_ne z] at q
        exact S.env.dh.s b o q, fun b ps q => by
      by_cases z : b = a
      · rw [z, upd_same] at q
        cases q
      · rw [upd_ne z] at q
        exact S.env.dh.nt b ps q⟩
  refine ⟨_, s, ⟨⟨by rw [List.length_set]; exact S.env.len, D, S.env.tb, fun j t q => ?_, fun j k zs ws' b n e1 e2 e3 e4 => ?_⟩, ⟨S.gr.d.trans s, D, S.gr.e, fun b q n => ?_⟩, fun j zs b e1 e2 => ?_⟩⟩
  · by_cases q1 : i = j
    · subst q1
      rw [List.getElem?_set_self il] at q
      cases q
      exact ⟨_, ea, .lst (.inl (.inl upd_same)) (DpAll.up hx s)⟩
    · rw [List.getElem?_set_ne q1] at q
      obtain ⟨oo, k1, k2⟩ := S.env.sl j t q
      refine ⟨oo, k1, ?_⟩
      cases t with
      | no => cases oo <;> trivial
      | dat d =>
        cases oo with
        | none => exact k2.elim
        | some v => exact Dp.up k2 s
      | val w => cases oo <;> exact k2
      | hp φ st =>
        cases oo with
        | none => exact k2.elim
        | some v => exact st v _ _ s k2
      | own zs =>
        cases oo with
        | none => exact k2.elim
        | some v =>
          obtain ⟨b, us, f1, f2, f3, f4⟩ := k2
          have nb : b ≠ a := fun z => by
            rw [f1, z] at k1
            exact S.env.ap i j xs zs a q1 e q ea k1
          exact ⟨b, us, f1, f2, by rw [upd_ne nb]; exact f3, DpAll.up f4 s⟩
  · have n1 : i ≠ j := fun q => by
      subst q
      rw [List.getElem?_set_self il] at e1
      cases e1
    have n2 : i ≠ k := fun q => by
      subst q
      rw [List.getElem?_set_self il] at e2
      cases e2
    rw [List.getElem?_set_ne n1] at e1
    rw [List.getElem?_set_ne n2] at e2
    exact S.env.ap j k zs ws' b n e1 e2 e3 e4
  · by_cases z : b = a
    · rw [z] at n
      exact absurd h00 n
    · rw [upd_ne z]
      exact S.gr.f b q n
  · have n1 : i ≠ j := fun q => by
      subst q
      rw [List.getElem?_set_self il] at e1
      cases e1
    rw [List.getElem?_set_ne n1] at e1
    exact S.fr j zs b e1 e2
end
section
variable {X : Cx} {tb : List Addr} {W : WX'} {ds es : List Sl} {d : PyData} {a b c iter elt : Expr} {pos pos' px apos : Pos} {st : Stmt} {rest body : List Stmt} {o o' : Out} {x : Str}
theorem bd_freeze (i : Nat) {xs : List PyData} (h : PBd X tb W rest (ds.set i (.dat (.list xs))) o) (e : ds[i]? = some (.own xs) := by rfl) : PBd X tb W rest ds o :=
  let ⟨_, p, q⟩ := h; ⟨_, p, fun Hd0 H0 Hd H σ D S z => let ⟨Hd', s, S'⟩ := S.freeze e; q Hd0 H0 Hd' H σ D S' (z.back s)⟩
/-- x.append(e), x's list one's own -/
theorem sd_append (i : Nat) {xs : List PyData} {p1 p2 : Pos} (h : PEd X tb a ds d) (hz : xs.length < 1000000) (e : ds[i]? = some (.own xs) := by rfl) (hN : X.N[i]? = some x := by rfl) (hv : visB X.env.scope x = true := by rfl) (h1 : (x == ("__debug__" : Str)) = false := by decide)
    (h2 : (x == ("__classdict__" : Str)) = false := by decide) (hbase : attributeBase (.Name x p1) "append" X.env (eval (.Name x p1) X.env) = eval (.Name x p1) X.env := by rfl)
    (hfew : ((backTo p2 (starEach [a] X.env)).all (fun x => !x.1) && (backToKw p2 (keywordEach [] X.env)).all (fun x => x.1.isSome)
      && decide ([a].length + ([] : List Keyword).length + (if ([] : List Keyword).isEmpty then 0 else 1) < 30)) = true := by rfl)
    (hline : (apos.endLine == p2.line) = true := by rfl) (hs : starEach [a] X.env = (false, eval a X.env) :: starEach [] X.env := by rfl) (hplain : (backTo p2 (starEach [] X.env)).any (·.1) = false := by rfl) (hsw : swapsWith (.Call (.Attribute (.Name x p1) "append" apos) [a] [] p2) none pos.line X.env = pure false := by rfl) :
    PSd X tb W (.Expr (.Call (.Attribute (.Name x p1) "append" apos) [a] [] p2) pos) ds (.nx (ds.set i (.own (xs ++ [d])))) := by
  obtain ⟨t, p, q⟩ := h
  refine ⟨_, ps_expr (pe_bm PySem.F.plainAttrs_list PySem.F.slot_list_append PySem.F.type_list_append mt_append (pe_var hN (visB_ok hv) h1 h2) (pa_cons p pa_nil hs) hbase hfew hline hs hplain) hsw, fun Hd0 H0 Hd H σ D S z => ?_⟩
  obtain ⟨l, vs, ea, hl, hd, hx⟩ := S.env.own e
  refine ⟨.ref l, ea, .inl ⟨rfl, vs, .inl (.inl hl)⟩, q Hd H σ S.env _ fun v Hd' H' g dv => ?_⟩
  have S' := S.up g
  obtain ⟨l2, vs2, ea2, hl2, hd2, hx2⟩ := S'.env.own e
  have el : l2 = l := V.ref.inj (Option.some.inj (Option.some.inj (ea2.symm.trans ea)))
  subst el
  refine ⟨l2, vs2, v, rfl, rfl, hl2, by rw [dpa_len hx2]; exact Nat.lt_of_lt_of_le hz (by decide), ?_⟩
  exact z σ Hd' _ (S'.putOwn e ea2 hl2 hd2 (dpa_app hx2 (.cons dv .nil))) g.d
/-- [e for x in it if ..] -/
theorem ed_lcX {α : Type} {scope : Scope} {ifs : List Expr} (j : Nat) (ys : List α) (enc F : α → PyData) (p : α → Bool) (hc : X.calm = true) (hN : X.N.Nodup) (hi : PId X tb (.Name x px) iter ds (ys.map enc)) (hlen : ys.length ≤ 1000000) (ok : BlkOk X.N X.env.scope scope [(x, j)])
    (hg : ∀ (s : Shared) (H : Hp) (C : Addr) (cl : List (Str × Addr)) (fp : List Addr), PG (X.blk s H scope (compEnvC scope cl C X.env) fp) (.Name x px) (gName j))
    (ht : ∀ y ∈ ys, ∀ (s : Shared) (H : Hp) (C : Addr) (cl : List (Str × Addr)) (fp : List Addr), ∃ t, PTs (X.blk s H scope (compEnvC scope cl C X.env) fp) ifs t ∧ EvT X.K tb t (ds.set j (.dat (enc y))) (p y))
    (he : ∀ y ∈ ys, p y = true → ∀ (s : Shared) (H : Hp) (C : Addr) (cl : List (Str × Addr)) (fp : List Addr), PEd (X.blk s H scope (compEnvC scope cl C X.env) fp) tb elt (ds.set j (.dat (enc y))) (F y))
    (hs : ∀ x, foldedSetIterable iter X.env x = pure x := by intro _; rfl) : PEd X tb (.ListComp elt [⟨.Name x px, iter, ifs, 0⟩] scope pos) ds (.list ((ys.filter p).map F)) := by
  obtain ⟨wi, p1, q1⟩ := hi
  refine ⟨_, pe_lc (own := [(x, j)]) (g := gName j) (tt := fun σ H Q => ∀ (s : Shared) (H' : Hp) (C : Addr) (cl : List (Str × Addr)) (fp : List Addr), ∃ t, PTs (X.blk s H' scope (compEnvC scope cl C X.env) fp) ifs t ∧ t σ H Q)
    (te := fun σ H Q => ∀ (s : Shared) (H' : Hp) (C : Addr) (cl : List (Str × Addr)) (fp : List Addr), wpE (X.blk s H' scope (compEnvC scope cl C X.env) fp) elt σ H Q) hc hN p1 ok hg
    (fun s H C cl fp => ⟨fun pins s' σ H' Q I h => let ⟨t, a1, a2⟩ := h s H C cl fp; a1.run pins s' σ H' Q I a2⟩) (fun s H C cl fp => ⟨fun pins s' σ H' Q I h => pe_can.run pins s' σ H' Q I (h s H C cl fp)⟩) hs, fun Hd H σ E Q z => ?_⟩
  refine q1 Hd H σ E _ fun J Hd1 H1 g wk D hD => ?_
  have hd0 : Hd1 D = none := by
    cases e : Hd1 D with
    | none => rfl
    | some u =>
      have := g.h.s D u e
      rw [hD] at this
      cases this
  -- W: what is made so far
  refine ⟨fun i mm H' => mm = ys.length - i ∧ i ≤ ys.length ∧ ∃ Hd' vs, Gr Hd1 H1 Hd' H' ∧ Hd' D = none ∧ H' D = some (.lst vs) ∧ DpAll X.K Hd' vs (((ys.take i).filter p).map F), ⟨ys.length, by simp, Nat.zero_le _, Hd1, [], Gr.newOut g.h hD, hd0, upd_same, .nil⟩, ?_⟩
  rintro i mm H' ⟨rfl, him, Hd', vs, g', d0, hl, hv⟩
  have E' : Env X.K tb Hd' H' σ ds := (E.up g).up g'
  have W' : Env X.K tb Hd' H' (wipe σ [j]) (ds.set j .no) := ⟨by show (List.set σ j none).length = _; rw [List.length_set, List.length_set]; exact E'.len, E'.dh, E'.tb, fun k t e => by
      show ∃ o, (List.set σ j none)[k]? = some o ∧ _
      by_cases q : j = k
      · subst q
        have hj : j < ds.length := by
          have := (List.getElem?_eq_some_iff.mp e).1
          rw [List.length_set] at this
          exact this
        rw [List.getElem?_set_self hj] at e
        cases e
        exact ⟨none, List.getElem?_set_self (by rw [E'.len]; exact hj), trivial⟩
      · rw [List.getElem?_set_ne q] at e
        obtain ⟨oo, k1, k2⟩ := E'.sl k t e
        exact ⟨oo, by rw [List.getElem?_set_ne q]; exact k1, k2⟩, fun k l xs zs a n e1 e2 e3 e4 => by
      have nj : ∀ (m : Nat) (us : List PyData), (ds.set j .no)[m]? = some (.own us) → j ≠ m := fun m us e q => by
        subst q
        have hj : j < ds.length := by
          have := (List.getElem?_eq_some_iff.mp e).1
          rw [List.length_set] at this
          exact this
        rw [List.getElem?_set_self hj] at e
        cases e
      have n1 := nj k xs e1
      have n2 := nj l zs e2
      rw [List.getElem?_set_ne n1] at e1
      rw [List.getElem?_set_ne n2] at e2
      have e3' : (List.set σ j none)[k]? = some (some (V.ref a)) := e3
      have e4' : (List.set σ j none)[l]? = some (some (V.ref a)) := e4
      rw [List.getElem?_set_ne n1] at e3'
      rw [List.getElem?_set_ne n2] at e4'
      exact E'.ap k l xs zs a n e1 e2 e3' e4'⟩
  by_cases hlt : i < ys.length
  · have hil : i < (ys.map enc).length := by rw [List.length_map]; exact hlt
    have hy : ys[i] ∈ ys := List.getElem_mem hlt
    refine .inr ⟨wk.go i Hd' H' g'.d g'.h hil, fun H2 => i + 1 ≤ ys.length ∧ ∃ Hd2 vs, Gr Hd1 H1 Hd2 H2 ∧ Hd2 D = none ∧ H2 D = some (.lst vs) ∧ DpAll X.K Hd2 vs (((ys.take (i + 1)).filter p).map F), fun H2 z2 => ⟨ys.length - (i + 1), by omega, rfl, z2⟩, fun v H2 y => ?_⟩
    obtain ⟨Hd2, dd, e1, g2, dv⟩ := wk.yl i Hd' H' v H2 g'.d g'.h hil y
    have ed : dd = enc ys[i] := by
      rw [List.getElem?_map, List.getElem?_eq_getElem hlt] at e1
      exact (Option.some.inj e1).symm
    subst ed
    have hjσ : ∀ u : V, wipe ((wipe σ [j]).set j (some u)) [j] = wipe σ [j] := fun u => by
      show List.set (List.set (List.set σ j none) j (some u)) j none = List.set σ j none
      rw [List.set_set, List.set_set]
    refine ⟨hjσ v, fun s Hx C cl fp => ?_⟩
    have E2 : Env X.K tb Hd2 H2 ((wipe σ [j]).set j (some v)) (ds.set j (.dat (enc ys[i]))) := by
      have := (W'.up g2).set (i := j) (s := .dat (enc ys[i])) dv fun _ z => nomatch z
      rwa [List.set_set] at this
    obtain ⟨t, t1, t2⟩ := ht ys[i] hy s Hx C cl fp
    refine ⟨t, t1, t2 Hd2 H2 _ E2 _ fun Hd3 H3 g3 => ?_⟩
    have tk : ys.take (i + 1) = ys.take i ++ [ys[i]] := by rw [List.take_add_one, List.getElem?_eq_getElem hlt] <;> rfl
    have g13 : Gr Hd1 H1 Hd3 H3 := (g'.trans g2).trans g3
    have d3 : Hd3 D = none := (g2.trans g3).f D d0 (by rw [hl]; exact fun z => nomatch z)
    have l3 : H3 D = some (.lst vs) := (g2.trans g3).e.k D _ hl fun _ z => nomatch z
    cases hp : p ys[i] with
    | true =>
      refine iteT fun s Hx C cl fp => (he ys[i] hy hp s Hx C cl fp).can Hd3 H3 _ (E2.up g3) _ fun w Hd4 H4 g4 dw => ?_
      have d4 : Hd4 D = none := g4.f D d3 (by rw [l3]; exact fun z => nomatch z)
      have l4 : H4 D = some (.lst vs) := g4.e.k D _ l3 fun _ z => nomatch z
      have lv : vs.length ≤ ys.length := by
        rw [dpa_len hv, List.length_map]
        exact Nat.le_trans (List.length_filter_le _ _) (by rw [List.length_take]; exact Nat.min_le_right _ _)
      refine ⟨vs, l4, Nat.lt_of_le_of_lt (Nat.le_trans lv hlen) (by decide), hlt, Hd4, vs ++ [w], ?_, d4, upd_same, ?_⟩
      · have G := g13.trans g4
        exact ⟨G.d, ⟨fun b o q => by rw [upd_ne (ne_of_none q d4)]; exact G.h.s b o q, G.h.nt⟩, ⟨fun b o q n => by rw [upd_ne (ne_of_none q hD)]; exact G.e.k b o q n, fun P t => by
          obtain ⟨ps, e1, e2⟩ := G.e.t P t
          exact ⟨ps, by rw [upd_ne (not_tab l4 ⟨ps, e1, e2⟩)]; exact e1, e2⟩, fun b q => by
          by_cases q1 : b = D
          · rw [q1]; exact hD
          · rw [upd_ne q1] at q
            exact G.e.n b q⟩, G.f⟩
      · rw [tk, List.filter_append, List.map_append, List.filter_cons, if_pos hp]
        exact dpa_app (DpAll.up hv ((g2.trans g3).trans g4).d) (.cons dw .nil)
    | false =>
      refine iteF ⟨hlt, Hd3, vs, g13, d3, l3, ?_⟩
      rw [tk, List.filter_append, List.map_append, List.filter_cons, if_neg (by rw [hp]; exact Bool.false_ne_true)]
      show DpAll X.K Hd3 vs (_ ++ [])
      rw [List.append_nil]
      exact DpAll.up hv (g2.trans g3).d
  · have e : i = ys.length := by omega
    subst e
    refine .inl ⟨wk.st _ Hd' H' g'.d g'.h (by rw [List.length_map]; exact Nat.le_refl _), ?_⟩
    rw [List.take_length] at hv
    have s : Sub Hd' (upd Hd' D (.lst vs)) := fun b o q => by rw [upd_ne (ne_of_none q d0)]; exact q
    refine z (.ref D) (upd Hd' D (.lst vs)) H' ⟨(g.d.trans g'.d).trans s, ⟨fun b o q => ?_, fun b ps q => ?_⟩, (g.e.trans g'.e), fun b q n => ?_⟩ (.lst (.inl (.inl upd_same)) (DpAll.up hv s))
    · by_cases q1 : b = D
      · rw [q1, upd_same] at q
        rw [q1, hl, q]
      · rw [upd_ne q1] at q
        exact g'.h.s b o q
    · by_cases q1 : b = D
      · rw [q1, upd_same] at q
        cases q
      · rw [upd_ne q1] at q
        exact g'.h.nt b ps q
    · by_cases q1 : b = D
      · rw [q1] at n
        exact absurd (g.e.n D hD) n
      · rw [upd_ne q1]
        exact (g.trans g').f b q n
end
end DL
namespace DL
open PySem PySem.Spec PyProof.Rows L2

/-! ### defs over data -/
/-- called with data ds it hands back d -/
def spD (K : PySem.W.Frag) (tb : List Addr) (n : Nat) (R : List PyData → PyData → Prop) : Sp := fun vs H Q _ => ∃ (Hd : Hp) (ds : List PyData) (d : PyData), vs.length = n ∧ DH Hd H ∧ (∀ P ∈ tb, GxR.TabG H P) ∧ DpAll K Hd vs ds ∧ R ds d ∧ ∀ v Hd' H', Gr Hd H Hd' H' → (∀ P ∈ tb, GxR.TabG H' P) → Dp K Hd' v d → Q v H'
def W0 : WX' := fun _ _ _ _ => False
/-- the slots at a def's entry -/
def sd (N : List Str) (ds : List PyData) : List Sl := ds.map Sl.dat ++ List.replicate (N.length - ds.length) Sl.no
section
variable {P : Program} {w : World} {K : PySem.W.Frag} {mg : Str → Option Value} {base : Heap} {x qual : Str} {params : Arguments} {body : List Stmt} {scope : Scope} {dvs : List V} {kws : List (Str × V)} {f : Addr} {fd : FuncData} {tb : List Addr}
/-- the rule for a def, the code's object known -/
theorem fok {CX : CXT} {N ps : List Str} {k : Nat} {sp : Sp} (F : FunD K x qual params body scope dvs kws f fd) (S : FnScope N ps scope) (len : ∀ vs H Q E, sp vs H Q E → vs.length = ps.length)
    (hbody : ∀ (A : Around) (outer : List PySem.Env) (s : Shared) (H : Hp) (vs : List V) (Q : VK) (E : XK), Room k (A.deeper (envOfC qual scope s.heap.objs.size f fd.code)) → sp vs H Q E →
      ∃ t, PSs (cxOf CX P w K mg base N qual scope f fd.code A outer s H E) body t ∧ t { nx := fun _ H' => Q .non H', rt := Q } (L2.start N vs) H) : FnOk P w K mg base CX (k + 1) f fd ps sp := by
  obtain ⟨oc, od, dV, kV, doc, pm, an, cdv, ct, osl, rfl, lk, hcd, _, _⟩ := F.ex
  exact fn_of lk hcd S len fun A outer s H vs Q E hr hsp => hbody A outer s H vs Q E hr hsp
theorem start_env {N : List Str} {Hd H : Hp} {vs : List V} {ds : List PyData} (hl : vs.length ≤ N.length) (D : DH Hd H) (ht : ∀ P ∈ tb, GxR.TabG H P) (h : DpAll K Hd vs ds) : Env K tb Hd H (L2.start N vs) (sd N ds) := by
  have el := dpa_len h
  refine ⟨?_, D, ht, fun i s e => ?_, fun i j xs ys a n e1 e2 e3 e4 => ?_⟩
  · unfold L2.start sd
    rw [List.length_append, List.length_append, List.length_map, List.length_map, List.length_replicate, List.length_replicate, el]
  · unfold L2.start sd at *
    by_cases hi : i < ds.length
    · rw [List.getElem?_append_left (by rw [List.length_map]; exact hi), List.getElem?_map] at e
      rw [List.getElem?_append_left (by rw [List.length_map, el]; exact hi), List.getElem?_map]
      cases q : ds[i]? with
      | none =>
        rw [q] at e
        cases e
      | some d =>
        rw [q] at e
        obtain ⟨v, e1, e2⟩ := dpa_get h q
        rw [e1]
        cases e
        exact ⟨_, rfl, e2⟩
    · rw [List.getElem?_append_right (by rw [List.length_map]; omega), List.length_map] at e
      rw [List.getElem?_append_right (by rw [List.length_map]; omega), List.length_map, el]
      obtain ⟨h1, h2⟩ := List.getElem?_eq_some_iff.mp e
      rw [List.length_replicate] at h1
      rw [List.getElem_replicate] at h2
      subst h2
      rw [List.getElem?_replicate, if_pos h1]
      exact ⟨_, rfl, trivial⟩
  · unfold sd at e1
    by_cases hi : i < ds.length
    · rw [List.getElem?_append_left (by rw [List.length_map]; exact hi), List.getElem?_map] at e1
      cases q : ds[i]? with
      | none =>
        rw [q] at e1
        cases e1
      | some d =>
        rw [q] at e1
        cases e1
    · rw [List.getElem?_append_right (by rw [List.length_map]; omega), List.length_map] at e1
      obtain ⟨h1, h2⟩ := List.getElem?_eq_some_iff.mp e1
      rw [List.getElem_replicate] at h2
      cases h2
/-- a def of the text that raises nothing and hands back -/
theorem fn_ok {N ps : List Str} {k : Nat} {R : List PyData → PyData → Prop} (F : FunD K x qual params body scope [] [] f fd) (S : FnScope N ps scope) (hlen : ps.length ≤ N.length)
    (hb : ∀ (ds : List PyData) (d : PyData), R ds d → ∀ (A : Around) (outer : List PySem.Env) (s : Shared) (H : Hp) (E : XK), Room k (A.deeper (envOfC qual scope s.heap.objs.size f fd.code)) →
      PBd (cxOf CX0 P w K mg base N qual scope f fd.code A outer s H E).nox tb W0 body (sd N ds) (.rt d)) : FnOk P w K mg base CX0 (k + 1) f fd ps (spD K tb ps.length R) := by
  refine fok F S (fun vs H Q E h => ?_) fun A outer s H vs Q E hr h => ?_
  · obtain ⟨_, _, _, h, _⟩ := h
    exact h
  · obtain ⟨Hd, ds, d, hl, D, ht, hv, hR, q⟩ := h
    obtain ⟨t, p, r⟩ := hb ds d hR A outer s H E hr
    refine ⟨t, p.nox, r Hd H Hd H _ _ ⟨start_env (by rw [hl]; exact hlen) D ht hv, Gr.refl D, fun i xs a e1 e2 => ?_⟩ fun v Hd' H' g ht' dv => q v Hd' H' g ht' dv⟩
    have E0 := start_env (N := N) (by rw [hl]; exact hlen) D ht hv
    exfalso
    unfold sd at e1
    by_cases hi : i < ds.length
    · rw [List.getElem?_append_left (by rw [List.length_map]; exact hi), List.getElem?_map] at e1
      cases q : ds[i]? with
      | none =>
        rw [q] at e1
        cases e1
      | some d =>
        rw [q] at e1
        cases e1
    · rw [List.getElem?_append_right (by rw [List.length_map]; omega), List.length_map] at e1
      obtain ⟨h1, h2⟩ := List.getElem?_eq_some_iff.mp e1
      rw [List.getElem_replicate] at h2
      cases h2
/-- the call of such a def -/
structure FnG (P : Program) (w : World) (K : PySem.W.Frag) (mg : Str → Option Value) (base : Heap) (tb : List Addr) (x : Str) (ps : List Str) (k : Nat) (R : List PyData → PyData → Prop) : Prop where
  ex : ∃ (f : Addr) (fd : FuncData), FnOk P w K mg base CX0 k f fd ps (spD K tb ps.length R) ∧ mg x = some (.ref f) ∧ PySem.W.keepIn K (.ref f) = true ∧ Binds K fd ps []
end
section
variable {X : Cx} {tb : List Addr} {W : WX'} {ds es : List Sl} {d e f : PyData} {a b c : Expr} {pos p : Pos} {x : Str} {args : List Expr} {fs : List PyData} {ps : List Str} {k : Nat} {R : List PyData → PyData → Prop}
theorem ed_call (G : FnG X.prog X.w X.K X.mg X.base tb x ps k R) (hr : Room k X.A) (ha : PAd X tb (a :: args) ds fs) (hR : R fs d) (hl : fs.length = ps.length := by rfl) (hg : Gl X x := by rfl) (hdb : (x == ("__debug__" : Str)) = false := by decide)
    (he : starEach (a :: args) X.env = (false, eval a X.env) :: starEach args X.env := by rfl) (hpl : (backTo pos (starEach args X.env)).any (·.1) = false := by rfl) : PEd X tb (.Call (.Name x p) (a :: args) [] pos) ds d := by
  obtain ⟨fa, fd, F, hm, hk, hb⟩ := G.ex
  obtain ⟨t, p1, q1⟩ := ha
  refine ⟨_, pe_call F hr hg hm hk hb .nil (pass0 (X := X)) p1 hdb he hpl, fun Hd H σ E Q z => q1 Hd H σ E _ fun vs Hd1 H1 g dv => ?_⟩
  have E1 := E.up g
  refine ⟨Hd1, fs, d, by rw [List.append_nil, dpa_len dv]; exact hl, g.h, E1.tb, by rw [List.append_nil]; exact dv, hR, fun v Hd2 H2 g2 _ dv2 => z v Hd2 H2 (g.trans g2) dv2⟩
/-! ### texts -/
theorem rm_index {A B : Str} {i : Nat} {more : List Nat} (h : Builtin.Str.occurrences A B 0 A.length 1 = i :: more) : RmD X.K (fun x xs H Q => ∃ a b i rest, x = .str a ∧ xs = [.str b] ∧ Builtin.Str.occurrences a b 0 a.length 1 = i :: rest ∧ Q (.int (i : Nat)) H) (.str A) [.str B] (.int (i : Nat)) := fun Hd H x xs D dx dxs Q q => by
  cases dx
  cases dxs with
  | cons h1 h2 =>
    cases h2
    cases h1
    exact ⟨A, B, i, more, rfl, rfl, h, q _ Hd H (Gr.refl D) (.int _)⟩
/-- s.index(t), found -/
theorem ed_index {A B : Str} {i : Nat} {more : List Nat} {apos : Pos} (hb : PEd X tb b ds (.str A)) (ha : PEd X tb a ds (.str B)) (h : Builtin.Str.occurrences A B 0 A.length 1 = i :: more) (hs : starEach [a] X.env = (false, eval a X.env) :: starEach [] X.env := by rfl)
    (hbase : attributeBase b "index" X.env (eval b X.env) = eval b X.env := by rfl)
    (hfew : ((backTo pos (starEach [a] X.env)).all (fun x => !x.1) && (backToKw pos (keywordEach [] X.env)).all (fun x => x.1.isSome)
      && decide ([a].length + ([] : List Keyword).length + (if ([] : List Keyword).isEmpty then 0 else 1) < 30)) = true := by rfl)
    (hline : (apos.endLine == pos.line) = true := by rfl) (hplain : (backTo pos (starEach [] X.env)).any (·.1) = false := by rfl) : PEd X tb (.Call (.Attribute b "index" apos) [a] [] pos) ds (.int (i : Nat)) :=
  ed_bm PySem.F.plainAttrs_str PySem.F.slot_str_index PySem.F.type_str_index mt_sindex (rm_index h) rfl hb (ad_cons ha ad_nil hs) hbase hfew hline hs hplain
theorem dpa_strs {K : PySem.W.Frag} {Hd : Hp} : ∀ {vs : List V} {ys : List Str}, DpAll K Hd vs (ys.map PyData.str) → vs = ys.map V.str
  | _, [], h => by cases h; rfl
  | _, y :: ys, h => by
    cases h with
    | cons h1 h2 =>
      cases h1
      rw [dpa_strs h2] <;> rfl
theorem rm_join {A : Str} {ys : List Str} (h : (ys.map (·.length)).sum + ys.length * A.length ≤ 16777216) : RmD X.K (fun x xs H Q => ∃ a p, ∃ ys : List Str, x = .str a ∧ xs = [.ref p] ∧ (SqL X.K H p (ys.map V.str) ∨ SqT X.K H p (ys.map V.str)) ∧
    (ys.map (·.length)).sum + ys.length * a.length ≤ 16777216 ∧ Q (.str (Txt.join a ys)) H) (.str A) [.list (ys.map PyData.str)] (.str (Txt.join A ys)) := fun Hd H x xs D dx dxs Q q => by
  cases dx
  cases dxs with
  | cons h1 h2 =>
    cases h2
    cases h1 with
    | @lst p vs _ k1 k2 =>
      have e := dpa_strs k2
      subst e
      exact ⟨A, p, ys, rfl, rfl, .inl (sl_sub D.s k1), h, q _ Hd H (Gr.refl D) (.str _)⟩
/-- s.join(list of texts) -/
theorem ed_join {A : Str} {ys : List Str} {apos : Pos} (hb : PEd X tb b ds (.str A)) (ha : PEd X tb a ds (.list (ys.map PyData.str))) (h : (ys.map (·.length)).sum + ys.length * A.length ≤ 16777216) (hs : starEach [a] X.env = (false, eval a X.env) :: starEach [] X.env := by rfl)
    (hbase : attributeBase b "join" X.env (eval b X.env) = eval b X.env := by rfl)
    (hfew : ((backTo pos (starEach [a] X.env)).all (fun x => !x.1) && (backToKw pos (keywordEach [] X.env)).all (fun x => x.1.isSome)
      && decide ([a].length + ([] : List Keyword).length + (if ([] : List Keyword).isEmpty then 0 else 1) < 30)) = true := by rfl)
    (hline : (apos.endLine == pos.line) = true := by rfl) (hplain : (backTo pos (starEach [] X.env)).any (·.1) = false := by rfl) : PEd X tb (.Call (.Attribute b "join" apos) [a] [] pos) ds (.str (Txt.join A ys)) :=
  ed_bm PySem.F.plainAttrs_str PySem.F.slot_str_join PySem.F.type_str_join mt_join (rm_join h) rfl hb (ad_cons ha ad_nil hs) hbase hfew hline hs hplain
/-! ### all over the signs of a text -/
theorem ed_allS {C P : Addr} {elt iter : Expr} {y : Str} {py gpos : Pos} {scope : Scope} {pb : Nat → Bool} {A : Str} (hP : P ∈ tb) (hr : Room k X.A) (hm : X.mg "all" = none) (TB : GxR.TabB X.base X.mg C P) (hcode : X.env.code = .ref C) (S : GxR.GenS X.env scope y) (hi : PEd X tb iter ds (.str A)) (hel : GxR.EltP X.prog X.w scope y elt pb)
    (hb : bootBuiltins "all" = some (.builtin "all") := by decide +kernel) (hs : ∀ v, genFold iter X.env v = pure v := by intro _; rfl) (hg : Gl X "all" := by rfl)
    (he : starEach [.GeneratorExp elt [⟨.Name y py, iter, [], 0⟩] scope gpos] X.env = (false, eval (.GeneratorExp elt [⟨.Name y py, iter, [], 0⟩] scope gpos) X.env) :: starEach [] X.env := by rfl) :
    PEd X tb (.Call (.Name "all" p) [.GeneratorExp elt [⟨.Name y py, iter, [], 0⟩] scope gpos] [] pos) ds (.bool (A.cps.toList.all pb)) :=
  let ⟨_, p1, q1⟩ := hi; ⟨_, GxR.pe_allS hr hg hm hb TB hcode S p1 hel hs he, fun Hd H σ E Q z => q1 Hd H σ E _ fun v Hd1 H1 g dv => by
    cases dv
    have T := (E.up g).tb P hP
    exact ⟨A, rfl, T, fun H2 ht => z _ Hd1 H2 (g.trans (Gr.tab g.h ht T)) (.bl _)⟩⟩
end
end DL
namespace DL
open PySem PySem.Spec PyProof.Rows L2

section
variable {X : Cx} {tb : List Addr} {W : WX'} {ds es : List Sl} {d e f : PyData} {a b c : Expr} {pos p : Pos}
/-! ### operators, by what stands on both sides -/
structure BinD (X : Cx) (tb : List Addr) (op : Operator) (d e f : PyData) : Prop where
  ex : ∃ r, OpR X (binaryOp op) r ∧ RvD X.K tb r d e f
theorem ed_bin {op : Operator} (ha : PEd X tb a ds d) (hb : PEd X tb b ds e) (h : BinD X tb op d e f) : PEd X tb (.BinOp a op b pos) ds f := let ⟨_, h1, h2⟩ := h.ex; ed_op h1 h2 ha hb
theorem bin_add {i j : Int} : BinD X tb .Add (.int i) (.int j) (.int (i + j)) := ⟨⟨_, op_add, rv_I0 (h := fun i j => .int (i + j)) fun _ => .int _⟩⟩
theorem bin_sub {i j : Int} : BinD X tb .Sub (.int i) (.int j) (.int (i - j)) := ⟨⟨_, op_sub, rv_I0 (h := fun i j => .int (i - j)) fun _ => .int _⟩⟩
theorem bin_mul {i j : Int} (c : (-(2 ^ 64) < i ∧ i < 2 ^ 64) ∨ (-(2 ^ 64) < j ∧ j < 2 ^ 64)) : BinD X tb .Mult (.int i) (.int j) (.int (i * j)) := ⟨⟨_, op_mul, rv_I (h := fun i j => .int (i * j)) c fun _ => .int _⟩⟩
theorem bin_fdiv {i j : Int} (c : 0 < j ∧ j < 1073741824) : BinD X tb .FloorDiv (.int i) (.int j) (.int (i / j)) := ⟨⟨_, op_fdiv, rv_I (C := CDiv) (h := fun i j => .int (i / j)) c fun _ => .int _⟩⟩
theorem bin_mod {i j : Int} (c : 0 < j) : BinD X tb .Mod (.int i) (.int j) (.int (i % j)) := ⟨⟨_, op_mod, rv_I (C := fun _ j => 0 < j) (h := fun i j => .int (i % j)) c fun _ => .int _⟩⟩
theorem bin_cat {xs ys : List PyData} (h : xs.length + ys.length ≤ 16000000) : BinD X tb .Add (.list xs) (.list ys) (.list (xs ++ ys)) := ⟨⟨_, op_catS, rv_cat h⟩⟩
theorem bin_addS {i j : Str} (h : i.length + j.length ≤ 16000000) : BinD X tb .Add (.str i) (.str j) (.str (i ++ j)) := ⟨⟨_, op_add_str, rv_addS h⟩⟩
/-! ### comparisons -/
structure CmpD (X : Cx) (tb : List Addr) (op : CmpOp) (d e : PyData) (k : Bool) : Prop where
  ex : ∃ r, OpR X (compareOp op) r ∧ RvD X.K tb r d e (.bool k)
theorem ed_cmpD {op : CmpOp} {k : Bool} (ha : PEd X tb a ds d) (hb : PEd X tb b ds e) (h : CmpD X tb op d e k) (hm : behindInMarks op b = false := by first | exact nomark _ | rfl) : PEd X tb (.Compare a [op] [b] pos) ds (.bool k) := let ⟨_, h1, h2⟩ := h.ex; ed_cmp h1 h2 ha hb hm
theorem td_cmpD {op : CmpOp} {k : Bool} (ha : PEd X tb a ds d) (hb : PEd X tb b ds e) (h : CmpD X tb op d e k) (hm : behindInMarks op b = false := by first | exact nomark _ | rfl) : PTd X tb (.Compare a [op] [b] pos) ds k := let ⟨_, h1, h2⟩ := h.ex; td_cmp h1 h2 ha hb hm
theorem cmp_lt {i j : Int} : CmpD X tb .Lt (.int i) (.int j) (decide (i < j)) := ⟨⟨_, op_lt, rv_lt⟩⟩
theorem cmp_le {i j : Int} : CmpD X tb .LtE (.int i) (.int j) (decide (i ≤ j)) := ⟨⟨_, op_le, rv_le⟩⟩
theorem cmp_gt {i j : Int} : CmpD X tb .Gt (.int i) (.int j) (decide (j < i)) := ⟨⟨_, op_gt, rv_gt⟩⟩
theorem cmp_ge {i j : Int} : CmpD X tb .GtE (.int i) (.int j) (decide (j ≤ i)) := ⟨⟨_, op_ge, rv_ge⟩⟩
theorem cmp_eqI {i j : Int} : CmpD X tb .Eq (.int i) (.int j) (decide (i = j)) := ⟨⟨_, op_eq, rv_eqI⟩⟩
theorem cmp_neI {i j : Int} : CmpD X tb .NotEq (.int i) (.int j) (!decide (i = j)) := ⟨⟨_, op_ne, rv_neI⟩⟩
theorem cmp_eqS {i j : Str} : CmpD X tb .Eq (.str i) (.str j) (decide (i = j)) := ⟨⟨_, op_eq, rv_eqS⟩⟩
theorem cmp_neS {i j : Str} : CmpD X tb .NotEq (.str i) (.str j) (!decide (i = j)) := ⟨⟨_, op_ne, rv_neS⟩⟩
theorem cmp_eqB {i j : Bool} : CmpD X tb .Eq (.bool i) (.bool j) (decide (i = j)) := ⟨⟨_, op_eq, rv_eqB⟩⟩
theorem cmp_neB {i j : Bool} : CmpD X tb .NotEq (.bool i) (.bool j) (!decide (i = j)) := ⟨⟨_, op_ne, rv_neB⟩⟩
theorem cmp_eqD {k : Nat} (hr : Room k X.A) (sd : SeqAt.shaped d = true) (se : SeqAt.shaped e = true) : CmpD X tb .Eq d e (PyData.eqv d e) := ⟨⟨_, op_eqD hr.units, rv_eqD sd se⟩⟩
theorem cmp_neD {k : Nat} (hr : Room k X.A) (sd : SeqAt.shaped d = true) (se : SeqAt.shaped e = true) : CmpD X tb .NotEq d e (!PyData.eqv d e) := ⟨⟨_, op_neD hr.units, rv_neD sd se⟩⟩
theorem cmp_inD {k : Nat} {zs : List PyData} (hr : Room k X.A) (sd : SeqAt.shaped d = true) (se : SeqAt.shaped (.list zs) = true) : CmpD X tb .In d (.list zs) (zs.any fun z => PyData.eqv z d) := ⟨⟨_, op_inD (by have := hr.un; omega), rv_inD sd se⟩⟩
def isNo : PyData → Bool
  | .none => true
  | _ => false
theorem rv_isN : RvD X.K tb (fun x y H Q => y = .non ∧ Q (.bl (decide (x = .non))) H) d .none (.bool (isNo d)) := fun Hd H x y D _ dx dy Q q => by
  cases dy
  refine ⟨rfl, q _ Hd H (Gr.refl D) ?_⟩
  have e : decide (x = V.non) = isNo d := by
    cases d <;> cases dx <;> rfl
  rw [e]
  exact .bl _
theorem cmp_isN : CmpD X tb .Is d .none (isNo d) := ⟨⟨_, op_isN, rv_isN⟩⟩
theorem rv_notN : RvD X.K tb (fun x y H Q => y = .non ∧ Q (.bl (!decide (x = .non))) H) d .none (.bool (!isNo d)) := fun Hd H x y D _ dx dy Q q => by
  cases dy
  refine ⟨rfl, q _ Hd H (Gr.refl D) ?_⟩
  have e : decide (x = V.non) = isNo d := by
    cases d <;> cases dx <;> rfl
  rw [e]
  exact .bl _
theorem cmp_notN : CmpD X tb .IsNot d .none (!isNo d) := ⟨⟨_, op_notN, rv_notN⟩⟩
/-- one sign in a text -/
theorem cmp_inS {k : Nat} {z : Str} : CmpD X tb .In (.str ⟨#[k]⟩) (.str z) (decide (k ∈ z.cps.toList)) := ⟨⟨_, op_in_sign, fun Hd H x y D _ dx dy Q q => by
  cases dx
  cases dy
  exact ⟨k, z, rfl, rfl, q _ Hd H (Gr.refl D) (.bl _)⟩⟩⟩
theorem cmp_notInS {k : Nat} {z : Str} : CmpD X tb .NotIn (.str ⟨#[k]⟩) (.str z) (!decide (k ∈ z.cps.toList)) := ⟨⟨_, op_notIn_sign, fun Hd H x y D _ dx dy Q q => by
  cases dx
  cases dy
  exact ⟨k, z, rfl, rfl, q _ Hd H (Gr.refl D) (.bl _)⟩⟩⟩
/-! ### items, slices, len -/
structure ItemD (X : Cx) (tb : List Addr) (d e f : PyData) : Prop where
  ex : ∃ r, IxR X r ∧ RvD X.K tb r d e f
theorem ed_item (ha : PEd X tb a ds d) (hb : PEd X tb b ds e) (h : ItemD X tb d e f) (hs : PlainIx b := by exact fun _ _ => rfl) : PEd X tb (.Subscript a b pos) ds f := let ⟨_, h1, h2⟩ := h.ex; ed_ix h1 h2 ha hb hs
theorem item_l {xs : List PyData} {i : Int} (h : atI xs i = some f) : ItemD X tb (.list xs) (.int i) f := ⟨⟨_, ix_list, rv_ixL h⟩⟩
theorem item_t {xs : List PyData} {i : Int} (h : atI xs i = some f) : ItemD X tb (.tuple xs) (.int i) f := ⟨⟨_, ix_tup, rv_ixT h⟩⟩
theorem item_s {z : Str} {i : Int} {k : Nat} (hl : z.length ≤ 16000000) (h : atI z.cps.toList i = some k) : ItemD X tb (.str z) (.int i) (.str ⟨#[k]⟩) := ⟨⟨_, ix_str, rv_ixS hl h⟩⟩
structure SlcD (X : Cx) (d : PyData) (l u : Option Int) (f : PyData) : Prop where
  ex : ∃ r, SlR X r ∧ RsD X.K r d l u f
theorem ed_slc {lo hi : Option Expr} {l u : Option Int} {p2 : Pos} (ha : PEd X tb a ds d) (hl : POd X tb lo ds l) (hu : POd X tb hi ds u) (h : SlcD X d l u f) : PEd X tb (.Subscript a (.Slice lo hi none p2) pos) ds f := let ⟨_, h1, h2⟩ := h.ex; ed_slice h1 h2 ha hl hu
theorem slc_l {xs : List PyData} {l u : Option Int} : SlcD X (.list xs) l u (.list (cutD xs l u)) := ⟨⟨_, sl_list, rs_list⟩⟩
theorem slc_s {z : Str} {l u : Option Int} (h : z.length ≤ 16000000) : SlcD X (.str z) l u (.str (cutS z l u)) := ⟨⟨_, sl_str, rs_str h⟩⟩
structure LenD (X : Cx) (d : PyData) (n : Nat) : Prop where
  ex : ∃ r, CallR X (.builtin "len") r ∧ RcD X.K r [d] (.int n)
theorem ed_len {n : Nat} (hm : X.mg "len" = none) (ha : PEd X tb a ds d) (h : LenD X d n) (hg : Gl X "len" := by rfl) (hs : starEach [a] X.env = [(false, eval a X.env)] := by rfl) : PEd X tb (.Call (.Name "len" p) [a] [] pos) ds (.int n) :=
  let ⟨_, h1, h2⟩ := h.ex; ed_callB h1 h2 hm PySem.boot_len (ad_cons ha ad_nil hs) hg (by decide) (by decide) hs (by rfl)
theorem len_l {xs : List PyData} {n : Nat} (h : xs.length = n) : LenD X (.list xs) n := h ▸ ⟨⟨_, call_len_seq, rc_lenL⟩⟩
theorem len_t {xs : List PyData} {n : Nat} (h : xs.length = n) : LenD X (.tuple xs) n := h ▸ ⟨⟨_, call_len_seq, rc_lenT⟩⟩
theorem len_s {z : Str} (h : z.length ≤ 16000000) : LenD X (.str z) z.length := ⟨⟨_, call_len_str, rc_lenS h⟩⟩
/-! ### chains -/
variable {op op' : CmpOp} {k l : Bool}
theorem ed_chain (ha : PEd X tb a ds d) (hb : PEd X tb b ds e) (hc : PEd X tb c ds f) (h1 : CmpD X tb op d e k) (h2 : CmpD X tb op' e f l) (hm : lastMarks [op, op'] [b, c] = false := by with_unfolding_all rfl) : PEd X tb (.Compare a [op, op'] [b, c] pos) ds (.bool (k && l)) := by
  obtain ⟨r1, o1, v1⟩ := h1.ex
  obtain ⟨r2, o2, v2⟩ := h2.ex
  obtain ⟨t1, p1, q1⟩ := ha
  obtain ⟨t2, p2, q2⟩ := hb
  obtain ⟨t3, p3, q3⟩ := hc
  refine ⟨_, pe_chain o1 o2 p1 p2 p3 hm, fun Hd H σ E Q z => q1 Hd H σ E _ fun x Hd1 H1 g1 dx => q2 Hd1 H1 σ (E.up g1) _ fun y Hd2 H2 g2 dy => v1 Hd2 H2 x y g2.h ((E.up g1).up g2).tb (Dp.up dx g2.d) dy _ fun u Hd3 H3 g3 du => ?_⟩
  cases du
  refine ⟨k, rfl, ?_⟩
  cases k with
  | true =>
    refine iteT (q3 Hd3 H3 σ (((E.up g1).up g2).up g3) _ fun w Hd4 H4 g4 dw => v2 Hd4 H4 y w g4.h ((((E.up g1).up g2).up g3).up g4).tb (Dp.up dy (g3.trans g4).d) dw Q fun v Hd5 H5 g5 dv => z v Hd5 H5 ((((g1.trans g2).trans g3).trans g4).trans g5) dv)
  | false => exact iteF (z _ Hd3 H3 ((g1.trans g2).trans g3) (.bl false))
theorem td_chain (ha : PEd X tb a ds d) (hb : PEd X tb b ds e) (hc : PEd X tb c ds f) (h1 : CmpD X tb op d e k) (h2 : CmpD X tb op' e f l) (hm : lastMarks [op, op'] [b, c] = false := by with_unfolding_all rfl) : PTd X tb (.Compare a [op, op'] [b, c] pos) ds (k && l) := by
  obtain ⟨r1, o1, v1⟩ := h1.ex
  obtain ⟨r2, o2, v2⟩ := h2.ex
  obtain ⟨t1, p1, q1⟩ := ha
  obtain ⟨t2, p2, q2⟩ := hb
  obtain ⟨t3, p3, q3⟩ := hc
  refine ⟨_, pt_chain o1 o2 p1 p2 p3 hm, fun Hd H σ E Q z => q1 Hd H σ E _ fun x Hd1 H1 g1 dx => q2 Hd1 H1 σ (E.up g1) _ fun y Hd2 H2 g2 dy => v1 Hd2 H2 x y g2.h ((E.up g1).up g2).tb (Dp.up dx g2.d) dy _ fun u Hd3 H3 g3 du => ?_⟩
  cases du
  refine ⟨k, rfl, ?_⟩
  cases k with
  | true =>
    refine iteT (q3 Hd3 H3 σ (((E.up g1).up g2).up g3) _ fun w Hd4 H4 g4 dw => v2 Hd4 H4 y w g4.h ((((E.up g1).up g2).up g3).up g4).tb (Dp.up dy (g3.trans g4).d) dw _ fun v Hd5 H5 g5 dv => ?_)
    cases dv
    exact ⟨l, rfl, z Hd5 H5 ((((g1.trans g2).trans g3).trans g4).trans g5)⟩
  | false => exact iteF ⟨false, rfl, z Hd3 H3 ((g1.trans g2).trans g3)⟩
/-! ### truth -/
def TruD : PyData → Bool → Prop
  | .none, k => k = false
  | .bool b, k => k = b
  | .int i, k => k = (i != 0)
  | .list xs, k => k = !xs.isEmpty
  | .tuple xs, k => k = !xs.isEmpty
  | _, _ => False
/-! ### a module's whole number -/
theorem ed_gInt {x : Str} {i : Int} (h : ∃ t, X.mg x = some (.int i t)) (hg : Gl X x := by rfl) (hd : (x == ("__debug__" : Str)) = false := by decide) : PEd X tb (.Name x pos) ds (.int i) := let ⟨t, hm⟩ := h; ed_glob (v := .int i) hg hm ⟨t, rfl⟩ (fun _ => .int i) hd
/-- a module's tuple, list -/
theorem ed_gRef {x : Str} {A : Addr} (hm : X.mg x = some (.ref A)) (h : ∀ Hd, Dp X.K Hd (.ref A) d) (hg : Gl X x := by rfl) (hd : (x == ("__debug__" : Str)) = false := by decide) : PEd X tb (.Name x pos) ds d := ed_glob (v := .ref A) hg hm rfl h hd
end
end DL
namespace DL
open PySem PySem.Spec PyProof.Rows L2
section
variable {X : Cx} {tb : List Addr} {W : WX'} {ds es : List Sl} {d e f : PyData} {a b c iter elt : Expr} {pos p px : Pos} {x : Str}
theorem item_lo {xs : List PyData} {i : Int} (h0 : 0 ≤ i) (h1 : i < xs.length) : ItemD X tb (.list xs) (.int i) (xs.getD i.toNat .none) := item_l (by
  have e : i = ((i.toNat : Nat) : Int) := by omega
  have hi : i.toNat < xs.length := by omega
  have q : atI xs ((i.toNat : Nat) : Int) = some xs[i.toNat] := atI_nat (List.getElem?_eq_getElem hi)
  rw [← e] at q
  rw [q, List.getD_eq_getElem?_getD, List.getElem?_eq_getElem hi] <;> rfl)
theorem item_so {z : Str} {i : Int} (hl : z.length ≤ 16000000) (h0 : 0 ≤ i) (h1 : i < z.length) : ItemD X tb (.str z) (.int i) (.str ⟨#[z.cps.toList.getD i.toNat 0]⟩) := item_s hl (by
  have e : i = ((i.toNat : Nat) : Int) := by omega
  have hl : z.cps.toList.length = z.length := by rw [Array.length_toList] <;> rfl
  have hi : i.toNat < z.cps.toList.length := by omega
  have q : atI z.cps.toList ((i.toNat : Nat) : Int) = some z.cps.toList[i.toNat] := atI_nat (List.getElem?_eq_getElem hi)
  rw [← e] at q
  rw [q, List.getD_eq_getElem?_getD, List.getElem?_eq_getElem hi] <;> rfl)
/-- items of a list of one kind -/
theorem item_lm {α : Type} {xs : List α} {g : α → PyData} {i : Int} {y : α} (h : atI xs i = some y) : ItemD X tb (.list (xs.map g)) (.int i) (g y) := item_l (by
  unfold atI at *
  rw [List.length_map]
  cases q : ixN xs.length i with
  | none =>
    rw [q] at h
    cases h
  | some j =>
    rw [q] at h
    have h' : xs[j]? = some y := h
    show (xs.map g)[j]? = some (g y)
    rw [List.getElem?_map, h'] <;> rfl)
theorem cutD_map {α β : Type} (g : α → β) (xs : List α) (l u : Option Int) : cutD (xs.map g) l u = (cutD xs l u).map g := by
  unfold cutD
  rw [List.length_map, List.map_take, List.map_drop]
theorem slc_lm {α : Type} {xs : List α} {g : α → PyData} {l u : Option Int} : SlcD X (.list (xs.map g)) l u (.list ((cutD xs l u).map g)) := by
  rw [← cutD_map]
  exact slc_l
theorem bin_catm {α : Type} {xs ys : List α} {g : α → PyData} (h : xs.length + ys.length ≤ 16000000) : BinD X tb .Add (.list (xs.map g)) (.list (ys.map g)) (.list ((xs ++ ys).map g)) := by
  rw [List.map_append]
  exact bin_cat (by rw [List.length_map, List.length_map]; exact h)
theorem len_lm {α : Type} {xs : List α} {g : α → PyData} : LenD X (.list (xs.map g)) xs.length := len_l (List.length_map _)
theorem len_sn {z : Str} {n : Nat} (e : z.length = n) (h : n ≤ 16000000) : LenD X (.str z) n := e ▸ len_s (by rw [e]; exact h)
/-- the slices that one meets -/
theorem cut_init {α : Type} (xs : List α) : cutD xs none (some (-1)) = xs.dropLast := by
  unfold cutD
  rw [HT.sIx_none, List.drop_zero, Nat.sub_zero]
  cases xs with
  | nil => rfl
  | cons x r =>
    have e : HT.sIx (x :: r).length (x :: r).length (some (-1)) = (x :: r).length - 1 := by
      unfold HT.sIx
      simp only [List.length_cons]
      rw [if_pos (by decide)]
      omega
    rw [e, List.dropLast_eq_take]
theorem cut_init2 {α : Type} (xs : List α) : cutD xs none (some (-2)) = xs.take (xs.length - 2) := by
  unfold cutD
  rw [HT.sIx_none, List.drop_zero, Nat.sub_zero]
  have e : HT.sIx xs.length xs.length (some (-2)) = xs.length - 2 := by
    unfold HT.sIx
    simp only
    rw [if_pos (by decide)]
    omega
  rw [e]
theorem cut_nat {α : Type} (xs : List α) (i j : Nat) : cutD xs (some (i : Int)) (some (j : Int)) = (xs.drop i).take (j - i) := by
  unfold cutD
  rw [HT.sIx_nat, HT.sIx_nat]
  by_cases h : i ≤ xs.length
  · rw [Nat.min_eq_left h]
    by_cases h2 : j ≤ xs.length
    · rw [Nat.min_eq_left h2]
    · rw [Nat.min_eq_right (a := j) (by omega), List.take_of_length_le (by rw [List.length_drop]; exact Nat.le_refl _), List.take_of_length_le (by rw [List.length_drop]; omega)]
  · rw [Nat.min_eq_right (a := i) (by omega), List.drop_eq_nil_of_le (Nat.le_refl _), List.drop_eq_nil_of_le (by omega), List.take_nil, List.take_nil]
theorem cut_all {α : Type} (xs : List α) (i : Nat) : cutD xs (some (i : Int)) none = xs.drop i := by
  unfold cutD
  rw [HT.sIx_nat, HT.sIx_none]
  by_cases h : i ≤ xs.length
  · rw [Nat.min_eq_left h, List.take_of_length_le (by rw [List.length_drop]; omega)]
  · rw [Nat.min_eq_right (by omega), List.drop_eq_nil_of_le (Nat.le_refl _), List.drop_eq_nil_of_le (by omega), List.take_nil]
/-- .. of texts, by their signs -/
theorem cutS_cut (z : Str) (l u : Option Int) : (cutS z l u).cps.toList = cutD z.cps.toList l u := by
  unfold cutS cutD
  rw [show z.length = z.cps.toList.length by rw [Array.length_toList] <;> rfl]
theorem str_len (z : Str) : z.length = z.cps.toList.length := by rw [Array.length_toList] <;> rfl
theorem str_app (x y : Str) : (x ++ y).cps.toList = x.cps.toList ++ y.cps.toList := by
  show (⟨x.cps ++ y.cps⟩ : Str).cps.toList = _
  rw [Array.toList_append]
/-- a comprehension without a test -/
theorem ed_lcY {α : Type} {scope : Scope} (j : Nat) (ys : List α) (enc F : α → PyData) (hc : X.calm = true) (hN : X.N.Nodup) (hi : PId X tb (.Name x px) iter ds (ys.map enc)) (hlen : ys.length ≤ 1000000) (ok : BlkOk X.N X.env.scope scope [(x, j)])
    (hg : ∀ (s : Shared) (H : Hp) (C : Addr) (cl : List (Str × Addr)) (fp : List Addr), PG (X.blk s H scope (compEnvC scope cl C X.env) fp) (.Name x px) (gName j))
    (he : ∀ y ∈ ys, ∀ (s : Shared) (H : Hp) (C : Addr) (cl : List (Str × Addr)) (fp : List Addr), PEd (X.blk s H scope (compEnvC scope cl C X.env) fp) tb elt (ds.set j (.dat (enc y))) (F y))
    (hs : ∀ x, foldedSetIterable iter X.env x = pure x := by intro _; rfl) : PEd X tb (.ListComp elt [⟨.Name x px, iter, [], 0⟩] scope pos) ds (.list (ys.map F)) := by
  have z := ed_lcX (pos := pos) j ys enc F (fun _ => true) hc hN hi hlen ok hg (fun y hy s H C cl fp => ⟨tYes, pts_nil, fun Hd H σ E Q z => z Hd H (Gr.refl E.dh)⟩) (fun y hy _ => he y hy) hs
  rwa [List.filter_eq_self.mpr fun _ _ => rfl] at z
end
end DL
namespace DL
open PySem PySem.Spec PyProof.Rows L2
/-- es says no more than ds -/
inductive Wk : List Sl → List Sl → Prop where
  | nil : Wk [] []
  | same (s : Sl) {ds es : List Sl} : Wk ds es → Wk (s :: ds) (s :: es)
  | no (s : Sl) {ds es : List Sl} : Wk ds es → Wk (s :: ds) (.no :: es)
theorem Wk.len : ∀ {ds es : List Sl}, Wk ds es → ds.length = es.length
  | _, _, .nil => rfl
  | _, _, .same _ h => congrArg (· + 1) h.len
  | _, _, .no _ h => congrArg (· + 1) h.len
theorem Wk.get : ∀ {ds es : List Sl} {i : Nat} {s : Sl}, Wk ds es → es[i]? = some s → s = .no ∨ ds[i]? = some s
  | _, _, _, _, .nil, e => by simp at e
  | _, _, 0, _, .same s h, e => .inr e
  | _, _, 0, _, .no s h, e => .inl (by simpa using e.symm)
  | _, _, i + 1, _, .same s h, e => Wk.get (i := i) h (by simpa using e)
  | _, _, i + 1, _, .no s h, e => Wk.get (i := i) h (by simpa using e)
theorem Wk.lt {ds es : List Sl} (h : Wk ds es) {i : Nat} {s : Sl} (e : es[i]? = some s) : i < ds.length := by rw [h.len]; exact (List.getElem?_eq_some_iff.mp e).1
theorem State.wk {K : PySem.W.Frag} {tb : List Addr} {Hd0 H0 Hd H : Hp} {σ : L2.St} {ds es : List Sl} (S : State K tb Hd0 H0 Hd H σ ds) (h : Wk ds es) : State K tb Hd0 H0 Hd H σ es := by
  refine ⟨⟨S.env.len.trans h.len, S.env.dh, S.env.tb, fun i s e => ?_, fun i j xs ys a n e1 e2 e3 e4 => ?_⟩, S.gr, fun i xs a e1 e2 => ?_⟩
  · rcases h.get e with z | z
    · subst z
      have hi := h.lt e
      rw [← S.env.len] at hi
      refine ⟨_, List.getElem?_eq_getElem hi, ?_⟩
      cases σ[i] <;> trivial
    · exact S.env.sl i s z
  · rcases h.get e1 with z | z1
    · cases z
    · rcases h.get e2 with z | z2
      · cases z
      · exact S.env.ap i j xs ys a n z1 z2 e3 e4
  · rcases h.get e1 with z | z
    · cases z
    · exact S.fr i xs a z e2
section
variable {X : Cx} {tb : List Addr} {W : WX'} {ds es fs : List Sl} {st : Stmt} {body : List Stmt} {o : Out}
theorem bd_wk (h : PBd X tb W body ds (.nx es)) (w : Wk es fs) : PBd X tb W body ds (.nx fs) := let ⟨t, p, q⟩ := h; ⟨t, p, fun Hd0 H0 Hd H σ D S z => q Hd0 H0 Hd H σ D S fun σ' Hd' H' S' s => z σ' Hd' H' (S'.wk w) s⟩
theorem bd_wkPre (h : PBd X tb W body fs o) (w : Wk ds fs) : PBd X tb W body ds o := let ⟨t, p, q⟩ := h; ⟨t, p, fun Hd0 H0 Hd H σ D S z => q Hd0 H0 Hd H σ D (S.wk w) z⟩
theorem sd_wkPre (h : PSd X tb W st fs o) (w : Wk ds fs) : PSd X tb W st ds o := let ⟨t, p, q⟩ := h; ⟨t, p, fun Hd0 H0 Hd H σ D S z => q Hd0 H0 Hd H σ D (S.wk w) z⟩
end
end DL
/-! LM: what the helpers that all laws share compute, in plain Lean. -/
namespace LM
open PySem L2 DL
/-! ### names -/
def letters : Str := "abcdefghijklmnopqrstuvwxyz"
def letAt (i : Int) : Nat := letters.cps.toList.getD i.toNat 0
theorem letters_len : letters.length = 26 := by decide +kernel
def NmOk (w : Str) : Prop := 1 ≤ w.length ∧ w.length ≤ 8 ∧ ∀ c ∈ w.cps.toList, 97 ≤ c ∧ c ≤ 122
theorem let_ok : ∀ n : Nat, n < 26 → 97 ≤ letters.cps.toList.getD n 0 ∧ letters.cps.toList.getD n 0 ≤ 122 := by decide +kernel
theorem letAt_ok {i : Int} (h0 : 0 ≤ i) (h1 : i < 26) : 97 ≤ letAt i ∧ letAt i ≤ 122 := let_ok i.toNat (by omega)
theorem let_occ : ∀ n : Nat, n < 26 → Builtin.Str.occurrences letters ⟨#[letters.cps.toList.getD n 0]⟩ 0 letters.length 1 = [n] := by decide +kernel
def sizeN (seed : Int) : Int := 1 + seed % 8
theorem sizeN_lo (seed : Int) : 1 ≤ sizeN seed ∧ sizeN seed ≤ 8 := by unfold sizeN; omega
/-- the sign at place j ahead of the change -/
def sgnIx (seed : Int) (j : Nat) : Int := (seed / 8 + 5 * (j : Int) + (j : Int) * (j : Int)) % 26
def oneS (c : Nat) : Str := ⟨#[c]⟩
def wordParts (seed : Int) : List Str := (List.range (sizeN seed).toNat).map fun j => oneS (letAt (sgnIx seed j))
def word0 (seed : Int) : Str := Txt.join "" (wordParts seed)
theorem sjoin_empty : ∀ ys : List Str, (Str.join "" ys).cps.toList = (ys.map fun y => y.cps.toList).flatten
  | [] => rfl
  | [y] => by
    show y.cps.toList = _
    simp
  | y :: z :: r => by
    have ih := sjoin_empty (z :: r)
    have e : Str.join "" (y :: z :: r) = (y ++ ("" : Str)) ++ Str.join "" (z :: r) := rfl
    have e2 : ("" : Str).cps.toList = [] := rfl
    rw [e, str_app, str_app, ih, e2, List.append_nil]
    rfl
theorem join_empty (ys : List Str) : (Txt.join "" ys).cps.toList = (ys.map fun y => y.cps.toList).flatten := by
  rw [show Txt.join "" ys = Str.join "" ys from PySem.StrLaws.glued_eq_join "" ys, sjoin_empty]
theorem word0_list (seed : Int) : (word0 seed).cps.toList = (List.range (sizeN seed).toNat).map fun j => letAt (sgnIx seed j) := by
  unfold word0 wordParts
  rw [join_empty, List.map_map]
  show ((List.range (sizeN seed).toNat).map fun j => [letAt (sgnIx seed j)]).flatten = _
  rw [← List.flatMap_def]
  induction (List.range (sizeN seed).toNat) with
  | nil => rfl
  | cons x r ih => rw [List.flatMap_cons, ih, List.map_cons] <;> rfl
theorem word0_len (seed : Int) : (word0 seed).length = (sizeN seed).toNat := by
  rw [str_len, word0_list, List.length_map, List.length_range]
def spotN (seed : Int) : Int := seed / 208 % sizeN seed
theorem spotN_lo (seed : Int) : 0 ≤ spotN seed ∧ spotN seed < sizeN seed := by
  have h := sizeN_lo seed
  unfold spotN
  exact ⟨Int.emod_nonneg _ (by omega), Int.emod_lt_of_pos _ (by omega)⟩
def signN (seed k : Int) : Str := oneS (letAt ((sgnIx seed (spotN seed).toNat + k * (1 + seed / 1664 % 8)) % 26))
def nameBy (seed k : Int) : Str :=
  if k = 2 ∧ seed / 13312 % 2 = 1 ∧ sizeN seed < 8 then word0 seed ++ signN seed k
  else cutS (word0 seed) none (some (spotN seed)) ++ signN seed k ++ cutS (word0 seed) (some (spotN seed + 1)) none
theorem word0_ok (seed : Int) : ∀ c ∈ (word0 seed).cps.toList, 97 ≤ c ∧ c ≤ 122 := fun c hc => by
  rw [word0_list] at hc
  obtain ⟨j, _, rfl⟩ := List.mem_map.mp hc
  exact letAt_ok (Int.emod_nonneg _ (by decide)) (Int.emod_lt_of_pos _ (by decide))
theorem signN_ok (seed k : Int) : ∀ c ∈ (signN seed k).cps.toList, 97 ≤ c ∧ c ≤ 122 := fun c hc => by
  have e : c = letAt ((sgnIx seed (spotN seed).toNat + k * (1 + seed / 1664 % 8)) % 26) := by
    simpa [signN, oneS] using hc
  rw [e]
  exact letAt_ok (Int.emod_nonneg _ (by decide)) (Int.emod_lt_of_pos _ (by decide))
theorem mem_cut {α : Type} {xs : List α} {l u : Option Int} {x : α} (h : x ∈ cutD xs l u) : x ∈ xs := List.mem_of_mem_drop (List.mem_of_mem_take h)
theorem signN_len (seed k : Int) : (signN seed k).length = 1 := rfl
theorem app_len (x y : Str) : (x ++ y).length = x.length + y.length := by rw [str_len, str_len, str_len, str_app, List.length_append]
theorem nameBy_ok (seed k : Int) : NmOk (nameBy seed k) := by
  have hs := sizeN_lo seed
  have hp := spotN_lo seed
  unfold nameBy
  split
  · rename_i h
    refine ⟨?_, ?_, fun c hc => ?_⟩
    · rw [app_len, word0_len, signN_len]; omega
    · rw [app_len, word0_len, signN_len]; omega
    · rw [str_app] at hc
      rcases List.mem_append.mp hc with hc | hc
      · exact word0_ok seed c hc
      · exact signN_ok seed k c hc
  · have l1 : (cutS (word0 seed) none (some (spotN seed))).length = (spotN seed).toNat := by
      rw [str_len, cutS_cut]
      have e : spotN seed = (((spotN seed).toNat : Nat) : Int) := by omega
      have e2 : cutD (word0 seed).cps.toList none (some (spotN seed)) = (word0 seed).cps.toList.take (spotN seed).toNat := by
        rw [e]
        unfold cutD
        rw [HT.sIx_none, HT.sIx_nat, List.drop_zero, Nat.sub_zero]
        rw [Int.toNat_natCast, ← str_len, word0_len, Nat.min_eq_left (by omega)]
      rw [e2, List.length_take, ← str_len, word0_len]
      omega
    have l2 : (cutS (word0 seed) (some (spotN seed + 1)) none).length = (sizeN seed).toNat - ((spotN seed).toNat + 1) := by
      rw [str_len, cutS_cut]
      have e : spotN seed + 1 = (((spotN seed).toNat + 1 : Nat) : Int) := by omega
      rw [e, cut_all, List.length_drop, ← str_len, word0_len]
    refine ⟨?_, ?_, fun c hc => ?_⟩
    · rw [app_len, app_len, signN_len]; omega
    · rw [app_len, app_len, signN_len, l1, l2]; omega
    · rw [str_app, str_app] at hc
      rcases List.mem_append.mp hc with hc | hc
      · rcases List.mem_append.mp hc with hc | hc
        · rw [cutS_cut] at hc
          exact word0_ok seed c (mem_cut hc)
        · exact signN_ok seed k c hc
      · rw [cutS_cut] at hc
        exact word0_ok seed c (mem_cut hc)

/-! ### statements -/
inductive Op where
  | and | or | thn
  deriving DecidableEq
inductive S where
  | nm (w : Str)
  | fls
  | bin (o : Op) (a b : S)
  deriving DecidableEq
def Op.word : Op → Str
  | .and => "and"
  | .or => "or"
  | .thn => "then"
def enc : S → PyData
  | .nm w => .tuple [.str "name", .str w]
  | .fls => .tuple [.str "false"]
  | .bin o a b => .tuple [.str o.word, enc a, enc b]
def dep : S → Nat
  | .nm _ => 1
  | .fls => 1
  | .bin _ a b => max (dep a) (dep b) + 1
/-- all names in it are names -/
def Ok : S → Prop
  | .nm w => NmOk w
  | .fls => True
  | .bin _ a b => Ok a ∧ Ok b
def opAt (i : Int) : Op := match i % 4 with
  | 0 => .and
  | 1 => .or
  | _ => .thn
def joined (way : Int) (one other : S) : S := if way / 4 % 2 = 1 then .bin (opAt way) other one else .bin (opAt way) one other
def stepP (seed : Int) (pile : List S) (cell : Int) : List S :=
  if cell % 10 = 4 then pile ++ [.fls]
  else if cell % 10 = 5 ∧ 0 < pile.length then pile ++ [pile.getD (cell / 10 % (pile.length : Int)).toNat .fls]
  else if cell % 10 = 6 ∧ 0 < pile.length then pile.dropLast ++ [.bin .thn (pile.getLastD .fls) .fls]
  else if 6 < cell % 10 ∧ 1 < pile.length then pile.take (pile.length - 2) ++ [joined (cell / 10) (pile.getD (pile.length - 2) .fls) (pile.getLastD .fls)]
  else pile ++ [.nm (nameBy seed (cell / 10 % 4))]
def pileOf (seed : Int) (cells : List Int) : List S := cells.foldl (stepP seed) []
/-- the last two under a then -/
def fT (p : List S) : List S := p.take (p.length - 2) ++ [.bin .thn (p.getD (p.length - 2) .fls) (p.getLastD .fls)]
def thens : Nat → List S → List S
  | 0, p => p
  | n + 1, p => fT (thens n p)
def stBy (cells : List Int) (seed : Int) : S :=
  let p := pileOf seed cells
  match thens (p.length - 1) p with
  | [] => .nm (nameBy seed 0)
  | s :: _ => s
theorem op_item (way : Int) : ([.str "and", .str "or", .str "then", .str "then"] : List PyData).getD (way % 4).toNat .none = .str (opAt way).word := by
  have h0 : 0 ≤ way % 4 := Int.emod_nonneg _ (by decide)
  have h1 : way % 4 < 4 := Int.emod_lt_of_pos _ (by decide)
  unfold opAt
  generalize way % 4 = i at h0 h1
  have h : i = 0 ∨ i = 1 ∨ i = 2 ∨ i = 3 := by omega
  rcases h with rfl | rfl | rfl | rfl <;> rfl
theorem stepP_len (seed : Int) (p : List S) (c : Int) : (stepP seed p c).length ≤ p.length + 1 := by
  unfold stepP
  split
  · simp
  · split
    · simp
    · split
      · rw [List.length_append, List.length_dropLast]; simp
      · split
        · rw [List.length_append, List.length_take]; simp <;> omega
        · simp
theorem fold_len (seed : Int) : ∀ (cs : List Int) (p : List S), (cs.foldl (stepP seed) p).length ≤ p.length + cs.length
  | [], p => Nat.le_refl _
  | c :: cs, p => by
    have h1 := fold_len seed cs (stepP seed p c)
    have h2 := stepP_len seed p c
    show (cs.foldl (stepP seed) (stepP seed p c)).length ≤ _
    rw [List.length_cons]
    omega
theorem pileOf_len (seed : Int) (cs : List Int) : (pileOf seed cs).length ≤ cs.length := by
  have h := fold_len seed cs []
  rw [List.length_nil, Nat.zero_add] at h
  exact h
theorem getLastD_last {p : List S} (h : 0 < p.length) : atI p (-1) = some (p.getLastD .fls) := by
  obtain ⟨q, x, rfl⟩ : ∃ q x, p = q ++ [x] := ⟨p.dropLast, p.getLast (List.ne_nil_of_length_pos h), (List.dropLast_concat_getLast _).symm⟩
  rw [atI_last]
  simp
theorem atI_two {p : List S} (h : 1 < p.length) : atI p (-2) = some (p.getD (p.length - 2) .fls) := by
  unfold atI ixN
  rw [if_neg (by decide), if_pos (by omega)]
  have e : (-2 + (p.length : Int)).toNat = p.length - 2 := by omega
  show p[(-2 + (p.length : Int)).toNat]? = _
  rw [e, List.getD_eq_getElem?_getD, List.getElem?_eq_getElem (by omega)] <;> rfl
theorem atI_pos {α : Type} {p : List α} {i : Int} (d : α) (h0 : 0 ≤ i) (h1 : i < p.length) : atI p i = some (p.getD i.toNat d) := by
  have e : i = ((i.toNat : Nat) : Int) := by omega
  have hi : i.toNat < p.length := by omega
  have q : atI p ((i.toNat : Nat) : Int) = some p[i.toNat] := atI_nat (List.getElem?_eq_getElem hi)
  rw [← e] at q
  rw [q, List.getD_eq_getElem?_getD, List.getElem?_eq_getElem hi] <;> rfl
theorem fT_len {p : List S} (h : 1 < p.length) : (fT p).length = p.length - 1 := by
  unfold fT
  rw [List.length_append, List.length_take]
  simp <;> omega
theorem thens_len (p : List S) : ∀ n : Nat, n < p.length → (thens n p).length = p.length - n
  | 0, _ => rfl
  | n + 1, h => by
    have ih := thens_len p n (by omega)
    show (fT (thens n p)).length = _
    rw [fT_len (by omega), ih]
    omega
/-! ### depth: at most one a cell -/
def deps : List S → Nat
  | [] => 0
  | s :: r => max (dep s) (deps r)
theorem dep_pos : ∀ s : S, 1 ≤ dep s
  | .nm _ => Nat.le_refl _
  | .fls => Nat.le_refl _
  | .bin _ _ _ => Nat.le_add_left _ _
theorem deps_le {p : List S} {n : Nat} : deps p ≤ n ↔ ∀ s ∈ p, dep s ≤ n := by
  induction p with
  | nil => simp [deps]
  | cons x r ih => simp only [deps, List.mem_cons, forall_eq_or_imp, Nat.max_le, ih]
theorem mem_getD {p : List S} {i : Nat} (h : i < p.length) : p.getD i .fls ∈ p := by
  rw [List.getD_eq_getElem?_getD, List.getElem?_eq_getElem h]
  exact List.getElem_mem h
theorem mem_last {p : List S} (h : 0 < p.length) : p.getLastD .fls ∈ p := by
  obtain ⟨q, x, rfl⟩ : ∃ q x, p = q ++ [x] := ⟨p.dropLast, p.getLast (List.ne_nil_of_length_pos h), (List.dropLast_concat_getLast _).symm⟩
  simp
/-- a pile whose length and depth together stay below n + 1, all of it well named -/
def Pl (n : Nat) (p : List S) : Prop := p.length + deps p ≤ n + 1 ∧ ∀ s ∈ p, Ok s
theorem joined_dep (way : Int) (a b : S) : dep (joined way a b) = max (dep a) (dep b) + 1 := by
  unfold joined
  split
  · show max (dep b) (dep a) + 1 = _
    rw [Nat.max_comm]
  · rfl
theorem joined_ok {way : Int} {a b : S} (ha : Ok a) (hb : Ok b) : Ok (joined way a b) := by
  unfold joined
  split
  · exact ⟨hb, ha⟩
  · exact ⟨ha, hb⟩
theorem stepP_pl (seed : Int) {n : Nat} {p : List S} (c : Int) (h : Pl n p) : Pl (n + 1) (stepP seed p c) := by
  obtain ⟨hl, ho⟩ := h
  have hd : ∀ s ∈ p, dep s ≤ deps p := deps_le.mp (Nat.le_refl _)
  have e0 : p = [] → deps p = 0 := fun e => by rw [e] <;> rfl
  have pos : 0 < p.length → 1 ≤ deps p := fun hp => Nat.le_trans (dep_pos _) (hd _ (mem_last hp))
  have push : ∀ s : S, dep s ≤ max 1 (deps p) → Ok s → Pl (n + 1) (p ++ [s]) := fun s h1 h2 => by
    refine ⟨?_, fun t ht => ?_⟩
    · have : deps (p ++ [s]) ≤ max 1 (deps p) := deps_le.mpr fun t ht => by
        rcases List.mem_append.mp ht with ht | ht
        · exact Nat.le_trans (hd t ht) (Nat.le_max_right _ _)
        · rw [List.mem_singleton.mp ht]; exact h1
      rw [List.length_append, List.length_singleton]
      by_cases z : 0 < p.length
      · have := pos z
        omega
      · have := e0 (List.eq_nil_of_length_eq_zero (by omega))
        omega
    · rcases List.mem_append.mp ht with ht | ht
      · exact ho t ht
      · rw [List.mem_singleton.mp ht]; exact h2
  unfold stepP
  split
  · exact push _ (Nat.le_max_left _ _) trivial
  · split
    · rename_i z
      have r0 : 0 ≤ c / 10 % (p.length : Int) := Int.emod_nonneg _ (by omega)
      have r1 : c / 10 % (p.length : Int) < p.length := Int.emod_lt_of_pos _ (by omega)
      have m := mem_getD (p := p) (i := (c / 10 % (p.length : Int)).toNat) (by omega)
      exact push _ (Nat.le_trans (hd _ m) (Nat.le_max_right _ _)) (ho _ m)
    · split
      · rename_i z
        have hp := pos z.2
        have m := mem_last z.2
        refine ⟨?_, fun t ht => ?_⟩
        · have : deps (p.dropLast ++ [.bin .thn (p.getLastD .fls) .fls]) ≤ deps p + 1 := deps_le.mpr fun t ht => by
            rcases List.mem_append.mp ht with ht | ht
            · exact Nat.le_succ_of_le (hd t (List.dropLast_subset _ ht))
            · rw [List.mem_singleton.mp ht]
              show max (dep _) 1 + 1 ≤ _
              have := hd _ m
              omega
          rw [List.length_append, List.length_dropLast, List.length_singleton]
          omega
        · rcases List.mem_append.mp ht with ht | ht
          · exact ho t (List.dropLast_subset _ ht)
          · rw [List.mem_singleton.mp ht]
            exact ⟨ho _ m, trivial⟩
      · split
        · rename_i z
          have m1 := mem_last (p := p) (by omega)
          have m2 := mem_getD (p := p) (i := p.length - 2) (by omega)
          refine ⟨?_, fun t ht => ?_⟩
          · have : deps (p.take (p.length - 2) ++ [joined (c / 10) (p.getD (p.length - 2) .fls) (p.getLastD .fls)]) ≤ deps p + 1 := deps_le.mpr fun t ht => by
              rcases List.mem_append.mp ht with ht | ht
              · exact Nat.le_succ_of_le (hd t (List.mem_of_mem_take ht))
              · rw [List.mem_singleton.mp ht, joined_dep]
                have q1 := hd _ m1
                have q2 := hd _ m2
                omega
            rw [List.length_append, List.length_take, List.length_singleton]
            omega
          · rcases List.mem_append.mp ht with ht | ht
            · exact ho t (List.mem_of_mem_take ht)
            · rw [List.mem_singleton.mp ht]
              exact joined_ok (ho _ m2) (ho _ m1)
        · exact push _ (Nat.le_max_left _ _) (nameBy_ok _ _)
theorem fold_pl (seed : Int) : ∀ (cs : List Int) (n : Nat) (p : List S), Pl n p → Pl (n + cs.length) (cs.foldl (stepP seed) p)
  | [], n, p, h => h
  | c :: cs, n, p, h => by
    have q := fold_pl seed cs (n + 1) (stepP seed p c) (stepP_pl seed c h)
    have e : n + (c :: cs).length = n + 1 + cs.length := by
      rw [List.length_cons]; omega
    rw [e]
    exact q
theorem pileOf_pl (seed : Int) (cs : List Int) : Pl cs.length (pileOf seed cs) := by
  have h := fold_pl seed cs 0 [] ⟨Nat.zero_le _, fun _ h => absurd h (by simp)⟩
  rw [Nat.zero_add] at h
  exact h
theorem fT_pl {n : Nat} {p : List S} (hl : 1 < p.length) (h : Pl n p) : Pl n (fT p) := by
  obtain ⟨h1, ho⟩ := h
  have hd : ∀ s ∈ p, dep s ≤ deps p := deps_le.mp (Nat.le_refl _)
  have m1 := mem_last (p := p) (by omega)
  have m2 := mem_getD (p := p) (i := p.length - 2) (by omega)
  refine ⟨?_, fun t ht => ?_⟩
  · have : deps (fT p) ≤ deps p + 1 := deps_le.mpr fun t ht => by
      rcases List.mem_append.mp ht with ht | ht
      · exact Nat.le_succ_of_le (hd t (List.mem_of_mem_take ht))
      · rw [List.mem_singleton.mp ht]
        show max _ _ + 1 ≤ _
        have q1 := hd _ m1
        have q2 := hd _ m2
        omega
    rw [fT_len hl]
    omega
  · rcases List.mem_append.mp ht with ht | ht
    · exact ho t (List.mem_of_mem_take ht)
    · rw [List.mem_singleton.mp ht]
      exact ⟨ho _ m2, ho _ m1⟩
theorem thens_pl {n : Nat} {p : List S} (h : Pl n p) : ∀ k : Nat, k < p.length → Pl n (thens k p)
  | 0, _ => h
  | k + 1, hk => fT_pl (by rw [thens_len p k (by omega)]; omega) (thens_pl h k (by omega))
theorem stBy_ok (cs : List Int) (seed : Int) : Ok (stBy cs seed) ∧ dep (stBy cs seed) ≤ max 1 cs.length := by
  unfold stBy
  by_cases hp : 0 < (pileOf seed cs).length
  · have q := thens_pl (pileOf_pl seed cs) ((pileOf seed cs).length - 1) (by omega)
    have l := thens_len (pileOf seed cs) ((pileOf seed cs).length - 1) (by omega)
    simp only
    split
    · rename_i e
      rw [e] at l
      simp at l
      omega
    · rename_i s r e
      rw [e] at q
      obtain ⟨q1, q2⟩ := q
      refine ⟨q2 s List.mem_cons_self, ?_⟩
      have : dep s ≤ deps (s :: r) := Nat.le_max_left _ _
      rw [List.length_cons] at q1
      omega
  · have e : pileOf seed cs = [] := List.eq_nil_of_length_eq_zero (by omega)
    rw [e]
    exact ⟨nameBy_ok _ _, Nat.le_max_left _ _⟩
/-! ### what == takes -/
theorem nm_strOk {w : Str} (h : NmOk w) : PyData.strOk w = true := by
  unfold PyData.strOk
  rw [← Array.all_toList, List.all_eq_true]
  intro c hc
  have := (h.2.2 c hc).2
  exact decide_eq_true (by omega)
theorem op_strOk (o : Op) : PyData.strOk o.word = true := by cases o <;> decide +kernel
theorem enc_lay : ∀ s : S, Ok s → (enc s).canLay0 = true
  | .nm w, h => by
    have z := nm_strOk h
    show PyData.canLay0 (.tuple [.str "name", .str w]) = true
    simp only [PyData.canLay0, PyData.canLayAll0, z, Bool.and_true]
    decide +kernel
  | .fls, _ => by decide +kernel
  | .bin o a b, h => by
    have z := op_strOk o
    show PyData.canLay0 (.tuple [.str o.word, enc a, enc b]) = true
    simp only [PyData.canLay0, PyData.canLayAll0, z, enc_lay a h.1, enc_lay b h.2, Bool.and_true]
theorem enc_depth : ∀ s : S, (enc s).depth ≤ dep s
  | .nm _ => Nat.le_refl _
  | .fls => Nat.le_refl _
  | .bin o a b => by
    have ha := enc_depth a
    have hb := enc_depth b
    show PyData.depth (.tuple [.str o.word, enc a, enc b]) ≤ max (dep a) (dep b) + 1
    simp only [PyData.depth, PyData.depthAll]
    omega
theorem enc_shaped {s : S} (h : Ok s) (hd : dep s ≤ 64) : SeqAt.shaped (enc s) = true := by
  unfold SeqAt.shaped
  rw [enc_lay s h, decide_eq_true (Nat.le_trans (enc_depth s) hd)] <;> rfl
theorem encs_lay : ∀ p : List S, (∀ s ∈ p, Ok s) → PyData.canLayAll0 (p.map enc) = true
  | [], _ => rfl
  | s :: r, h => by
    show (PyData.canLay0 (enc s) && PyData.canLayAll0 (r.map enc)) = true
    rw [enc_lay s (h s List.mem_cons_self), encs_lay r fun t ht => h t (List.mem_cons_of_mem _ ht)] <;> rfl
theorem encs_depth : ∀ p : List S, PyData.depthAll (p.map enc) ≤ deps p
  | [] => Nat.le_refl _
  | s :: r => by
    have h1 := enc_depth s
    have h2 := encs_depth r
    show max (PyData.depth (enc s)) (PyData.depthAll (r.map enc)) ≤ max (dep s) (deps r)
    omega
theorem encs_shaped {p : List S} (h : ∀ s ∈ p, Ok s) (hd : deps p ≤ 63) : SeqAt.shaped (.list (p.map enc)) = true := by
  unfold SeqAt.shaped
  have e1 : PyData.canLay0 (.list (p.map enc)) = true := encs_lay p h
  have e2 : PyData.depth (.list (p.map enc)) ≤ 64 := by
    have := encs_depth p
    show PyData.depthAll (p.map enc) + 1 ≤ 64
    omega
  rw [e1, decide_eq_true e2] <;> rfl
theorem eqv_nil (xs : List PyData) : PyData.eqv (.list xs) (.list []) = xs.isEmpty := by
  cases xs <;> rfl
end LM
namespace DL
open PySem PySem.Spec PyProof.Rows L2

section
variable {X : Cx} {tb : List Addr} {W : WX'} {ds es : List Sl} {d e f : PyData} {a b : Expr} {pos pos' pos1 p px py : Pos} {x y : Str}
theorem ItemD.is {g : PyData} (h : ItemD X tb d e f) (q : f = g) : ItemD X tb d e g := q ▸ h
theorem CmpD.is {op : CmpOp} {k l : Bool} (h : CmpD X tb op d e k) (q : k = l) : CmpD X tb op d e l := q ▸ h
/-! ### a, b = a pair -/
theorem sd_unpack (i j : Nat) {kk : Nat} {d1 d2 : PyData} (h : PEd X tb a ds (.tuple [d1, d2])) (hc : X.calm = true) (hN : X.N.Nodup) (hi : X.N[i]? = some x := by rfl) (hj : X.N[j]? = some y := by rfl) (hx : locB X.env.scope x = true := by rfl) (hy : locB X.env.scope y = true := by rfl)
    (hfx : X.fn x = true ∨ X.env.scope.names.lookup x = some .local := by first | exact .inl rfl | exact .inr rfl) (hfy : X.fn y = true ∨ X.env.scope.names.lookup y = some .local := by first | exact .inl rfl | exact .inr rfl)
    (h1 : (assignEach [.Name x px, .Name y py] X.env).length = 2 := by rfl) (h2 : (assignEach [.Name x px, .Name y py] X.env).findIdx? (·.1) = none := by rfl)
    (h3 : (assignEach [.Name x px, .Name y py] X.env).map (·.2) = assign (.Name x px) X.env :: (assignEach [.Name y py] X.env).map (·.2) := by rfl) (h4 : (assignEach [.Name y py] X.env).map (·.2) = assign (.Name y py) X.env :: (assignEach [] X.env).map (·.2) := by rfl)
    (hs : swapsWithSole [.Tuple [.Name x px, .Name y py] kk pos1] a pos.line X.env = pure false := by rfl) (hw : swappedStores [.Tuple [.Name x px, .Name y py] kk pos1] a X.env = pure none := by rfl)
    (h5 : (assignEach [.Tuple [.Name x px, .Name y py] kk pos1] X.env).map (·.2) = [assign (.Tuple [.Name x px, .Name y py] kk pos1) X.env] := by rfl) :
    PSd X tb W (.Assign [.Tuple [.Name x px, .Name y py] kk pos1] a pos) ds (.nx ((ds.set i (.dat d1)).set j (.dat d2))) :=
  let ⟨_, p1, q1⟩ := h; ⟨_, ps_asg p1 (pg_tup hc (pgs_cons (pg_name hN hi (locB_ok hx) hfx) (pgs_cons (pg_name hN hj (locB_ok hy) hfy) pgs_nil h4) h3) h1 h2) hs hw h5, fun Hd0 H0 Hd H σ D S z => q1 Hd H σ S.env _ fun v Hd1 H1 g dv => by
    cases dv with
    | @tup A vs _ k1 k2 =>
      cases k2 with
      | cons m1 m2 =>
        cases m2 with
        | cons m3 m4 =>
          cases m4
          have S1 := (S.up g).set (i := i) (s := .dat d1) m1 fun _ z => nomatch z
          have S2 := S1.set (i := j) (s := .dat d2) m3 fun _ z => nomatch z
          exact ⟨A, _, rfl, st_sub g.h.s k1, rfl, _, _, rfl, _, _, rfl, rfl, z _ Hd1 H1 S2 g.d⟩⟩
/-! ### x += e, whole numbers -/
theorem sd_augAdd (i : Nat) {m n : Int} (h : PEd X tb a ds (.int n)) (hd : ds[i]? = some (.dat (.int m))) (hN : X.N.Nodup) (hi : X.N[i]? = some x := by rfl) (hx : locB X.env.scope x = true := by rfl) (hf : X.fn x = true ∨ X.env.scope.names.lookup x = some .local := by first | exact .inl rfl | exact .inr rfl) :
    PSd X tb W (.AugAssign (.Name x pos') .Add a pos) ds (.nx (ds.set i (.dat (.int (m + n))))) :=
  let ⟨_, p1, q1⟩ := h; ⟨_, ps_aug hN hi (locB_ok hx) p1 ip_add hf, fun Hd0 H0 Hd H σ D S z => by
    obtain ⟨v, e1, e2⟩ := S.env.dat hd
    cases e2
    refine ⟨.int m, e1, q1 Hd H σ S.env _ fun v Hd1 H1 g dv => ?_⟩
    cases dv
    exact ⟨m, n, rfl, rfl, z _ Hd1 H1 ((S.up g).set (i := i) (s := .dat (.int (m + n))) (.int _) fun _ z => nomatch z) g.d⟩⟩
/-! ### f-strings -/
theorem ed_fmt {z : Str} (h : PEd X tb a ds (.str z)) (hl : z.length ≤ 16000000) : PEd X tb (.FormattedValue a (-1) none pos) ds (.str z) := let ⟨_, p1, q1⟩ := h; ⟨_, pe_fmt p1, fun Hd H σ E Q k => q1 Hd H σ E _ fun v Hd1 H1 g dv => by
  cases dv
  exact .inl ⟨z, rfl, Nat.le_trans hl (by decide), k _ Hd1 H1 g (.str z)⟩⟩
theorem ed_fmtI {i : Int} (h : PEd X tb a ds (.int i)) (hl : i.natAbs.log2 < 1920) : PEd X tb (.FormattedValue a (-1) none pos) ds (.str (toString i)) := let ⟨_, p1, q1⟩ := h; ⟨_, pe_fmt p1, fun Hd H σ E Q k => q1 Hd H σ E _ fun v Hd1 H1 g dv => by
  cases dv
  exact .inr ⟨i, rfl, hl, k _ Hd1 H1 g (.str _)⟩⟩
inductive PJd (X : Cx) (tb : List Addr) (ds : List Sl) : List Expr → Str → Str → Prop where
  | nil (acc : Str) : PJd X tb ds [] acc acc
  | cons {a : Expr} {z acc out : Str} {r : List Expr} (h : PEd X tb a ds (.str z)) (hl : (acc ++ z).length ≤ 16000000) (k : PJd X tb ds r (acc ++ z) out) : PJd X tb ds (a :: r) acc out
theorem pjd_ts : ∀ {es : List Expr} {acc out : Str}, PJd X tb ds es acc out → ∃ ts, PJ X es ts ∧ ∀ (Hd H : Hp) (σ : L2.St), Env X.K tb Hd H σ ds → ∀ Q : Str → Hp → Prop, (∀ Hd' H', Gr Hd H Hd' H' → Q out H') → tJs ts acc σ H Q
  | _, _, _, .nil acc => ⟨[], .nil, fun Hd H σ E Q q => q Hd H (Gr.refl E.dh)⟩
  | _, _, _, .cons h hl k => by
    obtain ⟨t, p1, q1⟩ := h
    obtain ⟨ts, p2, q2⟩ := pjd_ts k
    refine ⟨t :: ts, .cons p1 p2, fun Hd H σ E Q q => q1 Hd H σ E _ fun v Hd1 H1 g dv => ?_⟩
    cases dv
    exact ⟨_, rfl, Nat.le_trans hl (by decide), q2 Hd1 H1 σ (E.up g) Q fun Hd2 H2 g2 => q Hd2 H2 (g.trans g2)⟩
theorem ed_fs {v1 v2 : Expr} {r : List Expr} {out : Str} (h : PJd X tb ds (v1 :: v2 :: r) Str.empty out) : PEd X tb (.JoinedStr (v1 :: v2 :: r) pos) ds (.str out) := by
  obtain ⟨ts, p1, q1⟩ := pjd_ts h
  exact ⟨_, pe_joined p1, fun Hd H σ E Q q => q1 Hd H σ E _ fun Hd1 H1 g => q _ Hd1 H1 g (.str out)⟩
/-! ### a dict of the module with text keys -/
theorem ix_kd {A : Addr} {es : Array DictEntry} {n : Nat} (D : KDict X.K X.w A es n) : IxR X (fun x y H Q => ∃ (z : Str) (u0 : Value) (v0 : V), x = .ref A ∧ y = .str z ∧ PySem.W.nsIn X.K A z = some (some u0) ∧ RelV v0 u0 ∧ Q v0 H) := by
  intro value slice pins s σ H x y v u Q I rx ry h hs
  have ex : v = .ref A := by
    obtain ⟨z, u0, v0, e1, _⟩ := h
    subst e1
    exact rx
  subst ex
  exact tail_any (kd_type D I) PySem.F.slot_dict_getitem.lookup (op_item_kd D pins s σ H x y _ u Q I rx ry h) hs
/-- SIGNS[word] -/
theorem ed_kdGet {A : Addr} {z : Str} {u : Value} {v : V} {xs : Array DictEntry} {n : Nat} (D : KDict X.K X.w A xs n) (hm : X.mg x = some (.ref A)) (hv : PySem.W.nsIn X.K A z = some (some u)) (r : RelV v u) (hd : ∀ Hd, Dp X.K Hd v d) (ha : PEd X tb a ds (.str z)) (hg : Gl X x := by rfl) (hdb : (x == ("__debug__" : Str)) = false := by decide) (hs : PlainIx a := by exact fun _ _ => rfl) :
    PEd X tb (.Subscript (.Name x px) a pos) ds d :=
  let ⟨_, p1, q1⟩ := ha; ⟨_, pe_ix (ix_kd D) (pe_glob (v := .ref A) hg hm rfl hdb) p1 hs, fun Hd H σ E Q k => q1 Hd H σ E _ fun w Hd1 H1 g dw => by
    cases dw
    exact ⟨z, u, v, rfl, rfl, hv, r, k v Hd1 H1 g (hd Hd1)⟩⟩
/-- TABLE.get(key): there or not -/
theorem ed_kdGetM {A : Addr} {z : Str} {u : Option Value} {v : V} {xs : Array DictEntry} {n : Nat} {apos : Pos} (D : KDict X.K X.w A xs n) (hm : X.mg x = some (.ref A)) (hv : PySem.W.nsIn X.K A z = some u) (r : RelV v (u.getD .none)) (hd : ∀ Hd, Dp X.K Hd v d) (ha : PEd X tb a ds (.str z)) (hg : Gl X x := by rfl) (hdb : (x == ("__debug__" : Str)) = false := by decide)
    (hbase : attributeBase (.Name x px) "get" X.env (eval (.Name x px) X.env) = eval (.Name x px) X.env := by rfl)
    (hfew : ((backTo pos (starEach [a] X.env)).all (fun x => !x.1) && (backToKw pos (keywordEach [] X.env)).all (fun x => x.1.isSome)
      && decide (([a] : List Expr).length + ([] : List Keyword).length + (if ([] : List Keyword).isEmpty then 0 else 1) < 30)) = true := by rfl)
    (hline : (apos.endLine == pos.line) = true := by rfl) (htrees : backTo pos (starEach [a] X.env) = [(false, eval a X.env)] := by rfl) :
    PEd X tb (.Call (.Attribute (.Name x px) "get" apos) [a] [] pos) ds d := by
  obtain ⟨t, p1, q1⟩ := ha
  refine ⟨fun σ H Q => t σ H fun w H1 => w = .str z ∧ Q v H1, ⟨fun pins s σ H Q I h => ?_⟩, fun Hd H σ E Q k => q1 Hd H σ E _ fun w Hd1 H1 g dw => by
    cases dw
    exact ⟨rfl, k v Hd1 H1 g (hd Hd1)⟩⟩
  refine wpAny_Call_method hbase hfew hline PySem.F.plainAttrs_dict PySem.F.slot_dict_get PySem.F.type_dict_get (ld_glob I hg hm ?_ hdb)
  refine ⟨kd_type D I, fun b q => ?_, ?_⟩
  · cases q
    exact ⟨_, I.kIn _ _ D.at_, rfl⟩
  rw [htrees]
  refine Calls.callWith_builtin rfl (Calls.evalArgs_plain (Calls.spliced_cons (thn (p1.run pins s σ H _ I h) fun iv s2 ⟨y, H2, I2, ry, ey, q2⟩ => Calls.spliced_nil ?_)))
  subst ey
  obtain ⟨tk, rfl⟩ := ry
  refine call_meetsIn PySem.F.slot_dict_get (kd_type D I2) PySem.F.entry_dict_get (PySem.F.args_dict_get_2 _ _) (meets_dict_get (PySem.strKind X.prog X.w) A (PySem.strKind_is X.prog X.w z tk) D.low) ⟨_, PySem.W.mapOf_K (prog := X.prog) I2.kIn D.at_ D.lit, ?_⟩
  refine ⟨v, H2, I2.tok _, ?_, q2⟩
  rw [PySem.W.find_K D.at_ hv]
  exact r
end
end DL
namespace DL
open PySem PySem.Spec PyProof.Rows L2

/-! ### what raises -/
def PXd (X : Cx) (tb : List Addr) (W : WX') (e : Expr) (ds : List Sl) (c : Value) : Prop := ∃ t, PE X e t ∧ ∀ (Hd H : Hp) (σ : L2.St), Env X.K tb Hd H σ ds → ∀ Q : VK, (∀ Hd' H', Gr Hd H Hd' H' → (∀ P ∈ tb, GxR.TabG H' P) → W c none σ H') → t σ H Q
section
variable {X : Cx} {tb : List Addr} {W : WX'} {ds es : List Sl} {d e f : PyData} {a b : Expr} {pos pos' pos1 p px py : Pos} {x y : Str} {c : Value} {tg : Expr} {args : List Expr} {fs : List PyData}
theorem pg_nev : PG X tg (fun _ _ _ _ => False) := ⟨fun _ _ _ _ _ _ _ _ _ h => h.elim⟩
/-- the exception class at C of the program's own, over ValueError -/
structure ExC (X : Cx) (x : Str) (C : Addr) : Prop where
  q : PySem.W.excIn X.K C [.type "ValueError", .type "Exception", .type "BaseException", .type "object"] "ValueError.__new__" = true
  g : X.mg x = some (.ref C)
  k : PySem.W.keepIn X.K (.ref C) = true
  s : PySem.W.subIn X.K (.ref C) (.type "BaseException") = some true
  t : PySem.W.typeIn X.K (.ref C) = some (.type "type")
theorem sd_raise {C : Addr} (T : ExC X x C) (hc : X.calm = true) (tk : Takes X W) (h : PEd X tb a ds d) (hg : Gl X x := by rfl) (hs : starEach [a] X.env = (false, eval a X.env) :: starEach [] X.env := by rfl) (hdb : (x == ("__debug__" : Str)) = false := by decide) :
    PSd X tb W (.Raise (some (.Call (.Name x p) [a] [] pos')) none pos) ds (.ex (.ref C)) :=
  let ⟨_, p1, q1⟩ := h; ⟨_, ps_raise hc tk (SkE.pmk_own1 PySem.F.excBase_ValueError T.q T.g T.k (raises_own T.s T.t) hg p1 hs hdb), fun Hd0 H0 Hd H σ D S z => q1 Hd H σ S.env _ fun v Hd' H' g dv => z σ Hd' H' (S.gr.trans g) (S.env.up g).tb⟩
theorem sd_retX (h : PXd X tb W a ds c) : PSd X tb W (.Return (some a) pos) ds (.ex c) := let ⟨_, p1, q1⟩ := h; ⟨_, ps_ret p1, fun Hd0 H0 Hd H σ D S z => q1 Hd H σ S.env _ fun Hd' H' g t => z σ Hd' H' (S.gr.trans g) t⟩
theorem sd_asgX (h : PXd X tb W a ds c) (hs : swapsWithSole [tg] a pos.line X.env = pure false := by rfl) (hw : swappedStores [tg] a X.env = pure none := by rfl) (h1 : (assignEach [tg] X.env).map (·.2) = [assign tg X.env] := by rfl) : PSd X tb W (.Assign [tg] a pos) ds (.ex c) :=
  let ⟨_, p1, q1⟩ := h; ⟨_, ps_asg p1 pg_nev hs hw h1, fun Hd0 H0 Hd H σ D S z => q1 Hd H σ S.env _ fun Hd' H' g t => z σ Hd' H' (S.gr.trans g) t⟩
/-- the first of a display's, of a call's arguments raises -/
theorem xd_tup1 {k : Nat} (h : PXd X tb W a ds c) (hs : starEach [a] X.env = (false, eval a X.env) :: starEach [] X.env := by rfl) : PXd X tb W (.Tuple [a] k pos) ds c :=
  let ⟨_, p1, q1⟩ := h; ⟨_, pe_tup (pa_cons p1 pa_nil hs), fun Hd H σ E Q z => q1 Hd H σ E _ z⟩
end
/-! ### defs that may raise -/
/-- called with data ds it hands back d (R), or raises c (Rx) -/
def spX (K : PySem.W.Frag) (tb : List Addr) (n : Nat) (R : List PyData → PyData → Prop) (Rx : List PyData → Value → Prop) : Sp := fun vs H Q E => ∃ (Hd : Hp) (ds : List PyData), vs.length = n ∧ DH Hd H ∧ (∀ P ∈ tb, GxR.TabG H P) ∧ DpAll K Hd vs ds ∧
  ((∃ d, R ds d ∧ ∀ v Hd' H', Gr Hd H Hd' H' → (∀ P ∈ tb, GxR.TabG H' P) → Dp K Hd' v d → Q v H') ∨ ∃ c, Rx ds c ∧ ∀ Hd' H', Gr Hd H Hd' H' → (∀ P ∈ tb, GxR.TabG H' P) → E c none H')
section
variable {P : Program} {w : World} {K : PySem.W.Frag} {mg : Str → Option Value} {base : Heap} {x qual : Str} {params : Arguments} {body : List Stmt} {scope : Scope} {f : Addr} {fd : FuncData} {tb : List Addr}
theorem sd_noOwn {N : List Str} {ds : List PyData} {i : Nat} {xs : List PyData} (e1 : (sd N ds)[i]? = some (.own xs)) : False := by
  unfold sd at e1
  by_cases hi : i < ds.length
  · rw [List.getElem?_append_left (by rw [List.length_map]; exact hi), List.getElem?_map] at e1
    cases q : ds[i]? with
    | none =>
      rw [q] at e1
      cases e1
    | some d =>
      rw [q] at e1
      cases e1
  · rw [List.getElem?_append_right (by rw [List.length_map]; omega), List.length_map] at e1
    obtain ⟨h1, h2⟩ := List.getElem?_eq_some_iff.mp e1
    rw [List.getElem_replicate] at h2
    cases h2
theorem fnx_ok {N ps : List Str} {k : Nat} {R : List PyData → PyData → Prop} {Rx : List PyData → Value → Prop} (F : FunD K x qual params body scope [] [] f fd) (S : FnScope N ps scope) (hlen : ps.length ≤ N.length)
    (hb : ∀ (ds : List PyData) (d : PyData), R ds d → ∀ (A : Around) (outer : List PySem.Env) (s : Shared) (H : Hp) (E : XK), Room k (A.deeper (envOfC qual scope s.heap.objs.size f fd.code)) →
      PBd (cxOf (L2.CX P w) P w K mg base N qual scope f fd.code A outer s H E) tb (fun c d _ H => E c d H) body (sd N ds) (.rt d))
    (hx : ∀ (ds : List PyData) (c : Value), Rx ds c → ∀ (A : Around) (outer : List PySem.Env) (s : Shared) (H : Hp) (E : XK), Room k (A.deeper (envOfC qual scope s.heap.objs.size f fd.code)) →
      PBd (cxOf (L2.CX P w) P w K mg base N qual scope f fd.code A outer s H E) tb (fun c d _ H => E c d H) body (sd N ds) (.ex c)) : FnOk P w K mg base (L2.CX P w) (k + 1) f fd ps (spX K tb ps.length R Rx) := by
  refine fok F S (fun vs H Q E h => ?_) fun A outer s H vs Q E hr h => ?_
  · obtain ⟨_, _, h, _⟩ := h
    exact h
  · obtain ⟨Hd, ds, hl, D, ht, hv, hh⟩ := h
    have St : State K tb Hd H Hd H (L2.start N vs) (sd N ds) := ⟨start_env (by rw [hl]; exact hlen) D ht hv, Gr.refl D, fun i xs a e1 _ => (sd_noOwn e1).elim⟩
    rcases hh with ⟨d, hR, q⟩ | ⟨c, hR, q⟩
    · obtain ⟨t, p, r⟩ := hb ds d hR A outer s H E hr
      exact ⟨t, p, r Hd H Hd H _ _ St fun v Hd' H' g ht' dv => q v Hd' H' g ht' dv⟩
    · obtain ⟨t, p, r⟩ := hx ds c hR A outer s H E hr
      exact ⟨t, p, r Hd H Hd H _ _ St fun _ Hd' H' g ht' => q Hd' H' g ht'⟩
structure FnX (P : Program) (w : World) (K : PySem.W.Frag) (mg : Str → Option Value) (base : Heap) (tb : List Addr) (x : Str) (ps : List Str) (k : Nat) (R : List PyData → PyData → Prop) (Rx : List PyData → Value → Prop) : Prop where
  ex : ∃ (f : Addr) (fd : FuncData), FnOk P w K mg base (L2.CX P w) k f fd ps (spX K tb ps.length R Rx) ∧ mg x = some (.ref f) ∧ PySem.W.keepIn K (.ref f) = true ∧ Binds K fd ps []
end
section
variable {X : Cx} {tb : List Addr} {W : WX'} {ds es : List Sl} {d e f : PyData} {a b : Expr} {pos p : Pos} {x : Str} {args : List Expr} {fs : List PyData} {ps : List Str} {k : Nat} {R : List PyData → PyData → Prop} {Rx : List PyData → Value → Prop} {c : Value}
/-- it hands back -/
theorem ed_callX (G : FnX X.prog X.w X.K X.mg X.base tb x ps k R Rx) (hr : Room k X.A) (ha : PAd X tb (a :: args) ds fs) (hR : R fs d) (hl : fs.length = ps.length := by rfl) (hg : Gl X x := by rfl) (hdb : (x == ("__debug__" : Str)) = false := by decide)
    (he : starEach (a :: args) X.env = (false, eval a X.env) :: starEach args X.env := by rfl) (hpl : (backTo pos (starEach args X.env)).any (·.1) = false := by rfl) : PEd X tb (.Call (.Name x p) (a :: args) [] pos) ds d := by
  obtain ⟨fa, fd, F, hm, hk, hb⟩ := G.ex
  obtain ⟨t, p1, q1⟩ := ha
  refine ⟨_, pe_call F hr hg hm hk hb .nil (passL (X := X)) p1 hdb he hpl, fun Hd H σ E Q z => q1 Hd H σ E _ fun vs Hd1 H1 g dv => ?_⟩
  have E1 := E.up g
  exact ⟨Hd1, fs, by rw [List.append_nil, dpa_len dv]; exact hl, g.h, E1.tb, by rw [List.append_nil]; exact dv, .inl ⟨d, hR, fun v Hd2 H2 g2 _ dv2 => z v Hd2 H2 (g.trans g2) dv2⟩⟩
/-- it raises -/
theorem xd_call {E1 : XK} (G : FnX X.prog X.w X.K X.mg X.base tb x ps k R Rx) (hr : Room k X.A) (tk : Takes X (fun c d _ H => E1 c d H)) (ha : PAd X tb (a :: args) ds fs) (hR : Rx fs c) (hl : fs.length = ps.length := by rfl) (hg : Gl X x := by rfl) (hdb : (x == ("__debug__" : Str)) = false := by decide)
    (he : starEach (a :: args) X.env = (false, eval a X.env) :: starEach args X.env := by rfl) (hpl : (backTo pos (starEach args X.env)).any (·.1) = false := by rfl) : PXd X tb (fun c d _ H => E1 c d H) (.Call (.Name x p) (a :: args) [] pos) ds c := by
  obtain ⟨fa, fd, F, hm, hk, hb⟩ := G.ex
  obtain ⟨t, p1, q1⟩ := ha
  refine ⟨_, pe_call (E := E1) F hr hg hm hk hb .nil (passes_call tk fun _ _ _ _ h => h) p1 hdb he hpl, fun Hd H σ E Q z => q1 Hd H σ E _ fun vs Hd1 H1 g dv => ?_⟩
  have E2 := E.up g
  exact ⟨Hd1, fs, by rw [List.append_nil, dpa_len dv]; exact hl, g.h, E2.tb, by rw [List.append_nil]; exact dv, .inr ⟨c, hR, fun Hd2 H2 g2 t2 => z Hd2 H2 (g.trans g2) t2⟩⟩
/-- .. within a try's body: the wish knows the slots -/
theorem xd_callS (G : FnX X.prog X.w X.K X.mg X.base tb x ps k R Rx) (hr : Room k X.A) (tk : Takes X W) (ha : PAd X tb (a :: args) ds fs) (hR : Rx fs c) (hl : fs.length = ps.length := by rfl) (hg : Gl X x := by rfl) (hdb : (x == ("__debug__" : Str)) = false := by decide)
    (he : starEach (a :: args) X.env = (false, eval a X.env) :: starEach args X.env := by rfl) (hpl : (backTo pos (starEach args X.env)).any (·.1) = false := by rfl) : PXd X tb W (.Call (.Name x p) (a :: args) [] pos) ds c := by
  obtain ⟨fa, fd, F, hm, hk, hb⟩ := G.ex
  obtain ⟨t, p1, q1⟩ := ha
  refine ⟨_, pe_callS F hr hg hm hk hb (fun σ => passAt tk σ) p1 hdb he hpl, fun Hd H σ E Q z => q1 Hd H σ E _ fun vs Hd1 H1 g dv => ?_⟩
  have E2 := E.up g
  exact ⟨Hd1, fs, by rw [dpa_len dv]; exact hl, g.h, E2.tb, dv, .inr ⟨c, hR, fun Hd2 H2 g2 t2 => z Hd2 H2 (g.trans g2) t2⟩⟩
end
end DL
/-! RM: statements as texts, in plain Lean (lists of signs). -/
namespace RM
open PySem L2 DL LM
def low (c : Nat) : Bool := decide (97 ≤ c) && decide (c ≤ 122)
def Op.sgn : Op → Nat
  | .and => 38
  | .or => 124
  | .thn => 62
def wrL : S → List Nat
  | .nm w => w.cps.toList
  | .fls => [35]
  | .bin o a b => 40 :: (wrL a ++ (32 :: Op.sgn o :: 32 :: (wrL b ++ [41])))
def ofL (l : List Nat) : Str := ⟨l.toArray⟩
theorem ofL_list (l : List Nat) : (ofL l).cps.toList = l := rfl
theorem ofL_len (l : List Nat) : (ofL l).length = l.length := by rw [str_len, ofL_list]
theorem ext_list {x y : Str} (h : x.cps.toList = y.cps.toList) : x = y := by
  obtain ⟨⟨x⟩⟩ := x
  obtain ⟨⟨y⟩⟩ := y
  have e : x = y := h
  rw [e]
def wr (s : S) : Str := ofL (wrL s)
def opOf (l : List Nat) : Option Op := if l = [32, 38, 32] then some .and else if l = [32, 124, 32] then some .or else if l = [32, 62, 32] then some .thn else none
/-- the length of the run of letters ahead -/
def runL : List Nat → Nat
  | [] => 0
  | c :: r => if low c = true then runL r + 1 else 0
theorem runL_le : ∀ l : List Nat, runL l ≤ l.length
  | [] => Nat.le_refl _
  | c :: r => by
    unfold runL
    split
    · exact Nat.succ_le_succ (runL_le r)
    · exact Nat.zero_le _
theorem runL_low : ∀ (l : List Nat) (i : Nat), i < runL l → ∃ c, l[i]? = some c ∧ low c = true
  | [], i, h => absurd h (Nat.not_lt_zero _)
  | c :: r, i, h => by
    unfold runL at h
    by_cases q : low c = true
    · rw [if_pos q] at h
      cases i with
      | zero => exact ⟨c, rfl, q⟩
      | succ i => exact runL_low r i (by omega)
    · rw [if_neg q] at h
      exact absurd h (Nat.not_lt_zero _)
theorem runL_end : ∀ (l : List Nat), (∃ c, l[runL l]? = some c ∧ low c = false) ∨ l.length ≤ runL l
  | [] => .inr (Nat.le_refl _)
  | c :: r => by
    unfold runL
    by_cases q : low c = true
    · rw [if_pos q]
      rcases runL_end r with h | h
      · exact .inl h
      · exact .inr (Nat.succ_le_succ h)
    · rw [if_neg q]
      exact .inl ⟨c, rfl, by simpa using q⟩
/-- the statement at the list's head, no more than room deep, and how many signs it takes -/
def parse : Nat → List Nat → Option (S × Nat)
  | 0, _ => none
  | room + 1, r =>
    if r.take 1 = [40] then
      (parse room (r.drop 1)).bind fun p => (opOf (((r.drop 1).drop p.2).take 3)).bind fun o =>
        (parse room ((r.drop 1).drop (p.2 + 3))).bind fun q =>
          if (((r.drop 1).drop (p.2 + 3)).drop q.2).take 1 = [41] then some (.bin o p.1 q.1, p.2 + q.2 + 5) else none
    else if r.take 1 = [35] then some (.fls, 1)
    else if 1 ≤ runL r ∧ runL r ≤ 8 then some (.nm (ofL (r.take (runL r))), runL r) else none
theorem parse_le : ∀ (room : Nat) (r : List Nat) (s : S) (n : Nat), parse room r = some (s, n) → n ≤ r.length ∧ 1 ≤ n
  | 0, _, _, _, h => by cases h
  | room + 1, r, s, n, h => by
    unfold parse at h
    split at h
    · rename_i h1
      obtain ⟨p, e1, h⟩ := Option.bind_eq_some_iff.mp h
      obtain ⟨o, e2, h⟩ := Option.bind_eq_some_iff.mp h
      obtain ⟨q, e3, h⟩ := Option.bind_eq_some_iff.mp h
      split at h
      · rename_i h4
        obtain ⟨a1, a2⟩ := p
        obtain ⟨b1, b2⟩ := q
        have l1 : a2 ≤ (r.drop 1).length := (parse_le room _ a1 a2 e1).1
        have l2 : b2 ≤ ((r.drop 1).drop (a2 + 3)).length := (parse_le room _ b1 b2 e3).1
        have l4 : 1 ≤ (((r.drop 1).drop (a2 + 3)).drop b2).length := by
          have := congrArg List.length h4
          rw [List.length_take, List.length_singleton] at this
          have z : 1 ≤ (List.drop (b1, b2).snd (List.drop ((a1, a2).snd + 3) (List.drop 1 r))).length := by omega
          exact z
        have e5 : a2 + b2 + 5 = n := congrArg Prod.snd (Option.some.inj h)
        rw [List.length_drop, List.length_drop, List.length_drop] at l4
        omega
      · cases h
    · split at h
      · rename_i h2
        cases h
        have := congrArg List.length h2
        rw [List.length_take, List.length_singleton] at this
        omega
      · split at h
        · rename_i h3
          cases h
          exact ⟨runL_le r, h3.1⟩
        · cases h
theorem take_len {l : List Nat} {k n : Nat} (h : (l.take k).length = n) : n ≤ l.length := by
  rw [List.length_take] at h
  omega
theorem opOf_len {l : List Nat} {o : Op} (h : opOf l = some o) : l = [32, Op.sgn o, 32] := by
  unfold opOf at h
  split at h
  · cases h; assumption
  · split at h
    · cases h; assumption
    · split at h
      · cases h; assumption
      · cases h
theorem opOf_sgn (o : Op) : opOf [32, Op.sgn o, 32] = some o := by cases o <;> rfl
/-- what follows a statement's text starts with no letter -/
def Stops (t : List Nat) : Prop := ∀ c, t.head? = some c → low c = false
theorem runL_app : ∀ (l t : List Nat), (∀ c ∈ l, low c = true) → Stops t → runL (l ++ t) = l.length
  | [], [], _, _ => rfl
  | [], c :: r, _, h => by
    have q := h c rfl
    show runL (c :: r) = 0
    unfold runL
    rw [if_neg (by rw [q]; exact Bool.false_ne_true)]
  | c :: l, t, h1, h2 => by
    have q := h1 c List.mem_cons_self
    show runL (c :: (l ++ t)) = _
    unfold runL
    rw [if_pos q, runL_app l t (fun d hd => h1 d (List.mem_cons_of_mem _ hd)) h2] <;> rfl
theorem nm_low {w : Str} (h : NmOk w) : ∀ c ∈ w.cps.toList, low c = true := fun c hc => by
  have := h.2.2 c hc
  unfold low
  rw [decide_eq_true this.1, decide_eq_true this.2] <;> rfl
theorem wrL_head {s : S} (h : Ok s) : ∃ c r, wrL s = c :: r ∧ (c = 40 ∨ c = 35 ∨ low c = true) := by
  cases s with
  | nm w =>
    cases e : w.cps.toList with
    | nil =>
      have := h.1
      rw [str_len, e] at this
      exact absurd this (by decide)
    | cons c r => exact ⟨c, r, e, .inr (.inr (nm_low h c (by rw [e]; exact List.mem_cons_self)))⟩
  | fls => exact ⟨35, [], rfl, .inr (.inl rfl)⟩
  | bin o a b => exact ⟨40, _, rfl, .inl rfl⟩
theorem parse_wr : ∀ (s : S) (room : Nat) (t : List Nat), Ok s → dep s ≤ room → Stops t → parse room (wrL s ++ t) = some (s, (wrL s).length)
  | s, 0, t, _, hd, _ => by
    have := dep_pos s
    omega
  | .nm w, room + 1, t, h, _, ht => by
    have hl := nm_low h
    have hr := runL_app _ t hl ht
    have h1 := h.1
    have h2 := h.2.1
    rw [str_len] at h1 h2
    have hh : ∀ k, low k = false → (w.cps.toList ++ t).take 1 ≠ [k] := fun k hk e => by
      cases q : w.cps.toList with
      | nil => rw [q] at h1; exact absurd h1 (by decide)
      | cons c r =>
        rw [q] at e
        have e2 : c = k := by simpa using e
        have := hl c (by rw [q]; exact List.mem_cons_self)
        rw [e2, hk] at this
        cases this
    show parse (room + 1) (w.cps.toList ++ t) = _
    unfold parse
    rw [if_neg (hh 40 rfl), if_neg (hh 35 rfl), hr, if_pos ⟨h1, h2⟩, List.take_left]
    exact congrArg some (Prod.ext (congrArg S.nm (ext_list rfl)) rfl)
  | .fls, room + 1, t, _, _, _ => rfl
  | .bin o a b, room + 1, t, h, hd, ht => by
    have hd' : max (dep a) (dep b) + 1 ≤ room + 1 := hd
    have ea := parse_wr a room (32 :: Op.sgn o :: 32 :: (wrL b ++ 41 :: t)) h.1 (by omega) (fun c hc => by
      have : c = 32 := by simpa using hc.symm
      rw [this] <;> rfl)
    have eb := parse_wr b room (41 :: t) h.2 (by omega) (fun c hc => by
      have : c = 41 := by simpa using hc.symm
      rw [this] <;> rfl)
    have e0 : wrL (.bin o a b) ++ t = 40 :: (wrL a ++ (32 :: Op.sgn o :: 32 :: (wrL b ++ 41 :: t))) := by
      show 40 :: (wrL a ++ (32 :: Op.sgn o :: 32 :: (wrL b ++ [41]))) ++ t = _
      simp
    rw [e0]
    unfold parse
    rw [if_pos (show List.take 1 (40 :: (wrL a ++ (32 :: Op.sgn o :: 32 :: (wrL b ++ 41 :: t)))) = [40] from rfl)]
    show (parse room (wrL a ++ (32 :: Op.sgn o :: 32 :: (wrL b ++ 41 :: t)))).bind _ = _
    rw [ea, Option.bind_some]
    show (opOf (((wrL a ++ (32 :: Op.sgn o :: 32 :: (wrL b ++ 41 :: t))).drop (wrL a).length).take 3)).bind _ = _
    rw [List.drop_left]
    show (opOf [32, Op.sgn o, 32]).bind _ = _
    rw [opOf_sgn, Option.bind_some]
    have e3 : (wrL a ++ (32 :: Op.sgn o :: 32 :: (wrL b ++ 41 :: t))).drop ((wrL a).length + 3) = wrL b ++ 41 :: t := by
      rw [← List.drop_drop, List.drop_left] <;> rfl
    show (parse room ((wrL a ++ (32 :: Op.sgn o :: 32 :: (wrL b ++ 41 :: t))).drop ((wrL a).length + 3))).bind _ = _
    rw [e3, eb, Option.bind_some]
    show (if (((wrL a ++ (32 :: Op.sgn o :: 32 :: (wrL b ++ 41 :: t))).drop ((wrL a).length + 3)).drop (wrL b).length).take 1 = [41] then _ else _) = _
    rw [e3, List.drop_left, if_pos (show List.take 1 (41 :: t) = [41] from rfl)]
    refine congrArg some (Prod.ext rfl ?_)
    show (wrL a).length + (wrL b).length + 5 = (40 :: (wrL a ++ (32 :: Op.sgn o :: 32 :: (wrL b ++ [41])))).length
    simp
    omega
/-! ### how long a text may be: the length and five are added up -/
def uN (s : S) : Nat := (wrL s).length + 5
theorem uN_bin (o : Op) (a b : S) : uN (.bin o a b) = uN a + uN b := by
  unfold uN
  show (40 :: (wrL a ++ (32 :: Op.sgn o :: 32 :: (wrL b ++ [41])))).length + 5 = _
  simp
  omega
def us : List S → Nat
  | [] => 0
  | s :: r => uN s + us r
theorem us_app : ∀ p q : List S, us (p ++ q) = us p + us q
  | [], q => (Nat.zero_add _).symm
  | s :: p, q => by
    show uN s + us (p ++ q) = _
    rw [us_app p q]
    show _ = uN s + us p + us q
    omega
theorem us_mem : ∀ {p : List S} {s : S}, s ∈ p → uN s ≤ us p
  | t :: p, s, h => by
    show uN s ≤ uN t + us p
    rcases List.mem_cons.mp h with rfl | h
    · omega
    · have := us_mem h
      omega
theorem nm_u {w : Str} (h : NmOk w) : uN (.nm w) ≤ 13 := by
  have := h.2.1
  rw [str_len] at this
  show w.cps.toList.length + 5 ≤ 13
  omega
theorem us_last {p : List S} (h : 0 < p.length) : us p = us p.dropLast + uN (p.getLastD .fls) := by
  obtain ⟨q, x, rfl⟩ : ∃ q x, p = q ++ [x] := ⟨p.dropLast, p.getLast (List.ne_nil_of_length_pos h), (List.dropLast_concat_getLast _).symm⟩
  rw [us_app]
  simp
  rfl
theorem us_two {p : List S} (h : 1 < p.length) : us p = us (p.take (p.length - 2)) + (uN (p.getD (p.length - 2) .fls) + uN (p.getLastD .fls)) := by
  have e := us_last (p := p) (by omega)
  have e1 : p.dropLast = p.take (p.length - 2) ++ [p.getD (p.length - 2) .fls] := by
    rw [List.dropLast_eq_take, show p.length - 1 = p.length - 2 + 1 by omega, List.take_add_one, List.getD_eq_getElem?_getD, List.getElem?_eq_getElem (by omega)] <;> rfl
  rw [e, e1, us_app]
  show _ + (uN _ + 0) + _ = _
  omega
theorem joined_u (way : Int) (a b : S) : uN (joined way a b) = uN a + uN b := by
  unfold joined
  split
  · rw [uN_bin]; omega
  · rw [uN_bin]
theorem stepP_u (seed : Int) (p : List S) (c : Int) {n : Nat} (h : us p ≤ 13 * n) (hn : 1 ≤ n) : us (stepP seed p c) ≤ 13 * (2 * n) := by
  unfold stepP
  split
  · rw [us_app]
    show _ + (6 + 0) ≤ _
    omega
  · split
    · rename_i z
      have r0 : 0 ≤ c / 10 % (p.length : Int) := Int.emod_nonneg _ (by omega)
      have r1 : c / 10 % (p.length : Int) < p.length := Int.emod_lt_of_pos _ (by omega)
      have m := us_mem (mem_getD (p := p) (i := (c / 10 % (p.length : Int)).toNat) (by omega))
      rw [us_app]
      show _ + (uN _ + 0) ≤ _
      omega
    · split
      · rename_i z
        have e := us_last (p := p) z.2
        rw [us_app]
        show _ + (uN _ + 0) ≤ _
        rw [uN_bin]
        show _ + (uN _ + 6 + 0) ≤ _
        omega
      · split
        · rename_i z
          have e := us_two (p := p) (by omega)
          rw [us_app]
          show _ + (uN _ + 0) ≤ _
          rw [joined_u]
          omega
        · have q := nm_u (nameBy_ok seed (c / 10 % 4))
          rw [us_app]
          show _ + (uN _ + 0) ≤ _
          omega
theorem fold_u (seed : Int) : ∀ (cs : List Int) (p : List S) (n : Nat), us p ≤ 13 * n → 1 ≤ n → us (cs.foldl (stepP seed) p) ≤ 13 * (n * 2 ^ cs.length)
  | [], p, n, h, _ => by simpa using h
  | c :: cs, p, n, h, hn => by
    have q := fold_u seed cs (stepP seed p c) (2 * n) (stepP_u seed p c h hn) (by omega)
    have e : 2 * n * 2 ^ cs.length = n * 2 ^ (c :: cs).length := by
      rw [List.length_cons, Nat.pow_succ, Nat.mul_comm 2 n, Nat.mul_assoc, Nat.mul_comm 2]
    rw [e] at q
    exact q
theorem fT_u {p : List S} (h : 1 < p.length) : us (fT p) = us p := by
  unfold fT
  rw [us_app, us_two h]
  show _ + (uN _ + 0) = _
  rw [uN_bin]
  omega
theorem thens_u (p : List S) : ∀ n : Nat, n < p.length → us (thens n p) = us p
  | 0, _ => rfl
  | n + 1, h => by
    have l := thens_len p n (by omega)
    show us (fT (thens n p)) = _
    rw [fT_u (by omega), thens_u p n (by omega)]
theorem stBy_u (cs : List Int) (seed : Int) : uN (stBy cs seed) ≤ 13 * 2 ^ cs.length := by
  have q := fold_u seed cs [] 1 (Nat.zero_le _) (Nat.le_refl _)
  rw [Nat.one_mul] at q
  have q : us (pileOf seed cs) ≤ 13 * 2 ^ cs.length := q
  have h1 : 1 ≤ 2 ^ cs.length := Nat.one_le_two_pow
  unfold stBy
  by_cases hp : 0 < (pileOf seed cs).length
  · have l := thens_len (pileOf seed cs) ((pileOf seed cs).length - 1) (by omega)
    have e := thens_u (pileOf seed cs) ((pileOf seed cs).length - 1) (by omega)
    simp only
    split
    · rename_i e2
      rw [e2] at l
      simp at l
      omega
    · rename_i s r e2
      rw [e2] at e
      have : uN s ≤ us (s :: r) := us_mem List.mem_cons_self
      omega
  · have e : pileOf seed cs = [] := List.eq_nil_of_length_eq_zero (by omega)
    rw [e]
    have := nm_u (nameBy_ok seed 0)
    show uN (.nm (nameBy seed 0)) ≤ _
    omega
end RM
namespace DL
open PySem PySem.Spec PyProof.Rows L2
/-- the written pairs of a display, texts -/
inductive PPd (X : Cx) : List (Option Expr) → List Expr → List (Str × Str) → Prop where
  | nil : PPd X [] [] []
  | cons {k v : Str} {i j : Nat} {p q : Pos} {ks : List (Option Expr)} {vs : List Expr} {r : List (Str × Str)} (h : PPd X ks vs r) : PPd X (some (.Constant (.str k) i p) :: ks) (.Constant (.str v) j q :: vs) ((k, v) :: r)
theorem ppd_ts {X : Cx} {pos : Pos} : ∀ {ks : List (Option Expr)} {vs : List Expr} {r : List (Str × Str)}, PPd X ks vs r → ∃ trs, PPs X pos ks vs trs ∧ ∀ (σ : L2.St) (H : Hp) (Q : List (V × V) → Hp → Prop), Q (r.map fun p => (V.str p.1, V.str p.2)) H → tPairs trs σ H Q
  | _, _, _, .nil => ⟨[], pps_nil, fun _ _ _ q => q⟩
  | _, _, _, .cons h => by
    obtain ⟨trs, p, q⟩ := ppd_ts (pos := pos) h
    exact ⟨_, pps_cons pe_str pe_str p, fun σ H Q z => q σ H _ z⟩
theorem ppd_all {X : Cx} : ∀ {ks : List (Option Expr)} {vs : List Expr} {r : List (Str × Str)}, PPd X ks vs r → ks.all (·.isSome) = true ∧ ks.length = vs.length ∧ ks.length = r.length
  | _, _, _, .nil => ⟨rfl, rfl, rfl⟩
  | _, _, _, .cons h => by
    obtain ⟨h1, h2, h3⟩ := ppd_all h
    exact ⟨by rw [List.all_cons, h1] <;> rfl, congrArg (· + 1) h2, congrArg (· + 1) h3⟩
def keyed (r : List (Str × Str)) : List (Key × V) := r.map fun p => (Sum.inr p.1, V.str p.2)
section
variable {X : Cx} {tb : List Addr} {W : WX'} {ds es : List Sl} {d e f : PyData} {a b : Expr} {pos pos' p : Pos}
/-- {written}[key] -/
theorem ed_dispGet {ks : List (Option Expr)} {vs : List Expr} {r : List (Str × Str)} {z v : Str} {k : Nat} (hr : Room k X.A) (h : PPd X ks vs r) (ha : PEd X tb a ds (.str z)) (hv : valV (mergeK [] (keyed r)) (Sum.inr z) = some (.str v)) (h0 : ks ≠ [] := by exact fun z => nomatch z) (h15 : ks.length ≤ 15 := by decide) (hs : NoSl a := by exact fun _ _ => rfl) :
    PEd X tb (.Subscript (.Dict ks vs pos') a pos) ds (.str v) := by
  obtain ⟨trs, p1, q1⟩ := ppd_ts (pos := pos') h
  obtain ⟨l1, l2, l3⟩ := ppd_all h
  obtain ⟨t, p2, q2⟩ := ha
  refine ⟨_, pe_dget (hu_of hr) (pe_disp p1 l1 l2 h0 h15) p2 hs, fun Hd H σ E Q q => ?_⟩
  intro c hc
  refine q1 σ _ _ ⟨upd_same, keyed r, ?_, ?_, ?_⟩
  · unfold keyed
    rw [List.map_map] <;> rfl
  · unfold keyed
    rw [List.length_map, ← l3]
    exact h15
  · rw [upd_upd]
    have g := Gr.newOut (o := .dK (mergeK [] (keyed r))) E.dh hc
    refine q2 Hd _ σ (E.up g) _ fun w Hd1 H1 g1 dw => ?_
    cases dw
    exact ⟨c, .str v, rfl, hv ▸ DGet.k (k := Sum.inr z) (g1.e.k c _ upd_same fun _ z => nomatch z), q _ Hd1 H1 (g.trans g1) (.str v)⟩
end
end DL
/-! RN: a name's signs; what the program's is_name tells. -/
namespace RM
open PySem PySem.Spec PyProof.Rows L2 DL LM GxR
theorem lt_one (a b : Nat) : decide (([a] : List Nat) < [b]) = decide (a < b) := by
  refine decide_eq_decide.mpr ⟨fun h => ?_, fun h => ?_⟩
  · rcases List.cons_lt_cons_iff.mp h with h | ⟨_, h⟩
    · exact h
    · exact absurd h (by simp)
  · exact List.cons_lt_cons_iff.mpr (.inl h)
theorem not_lt_le (a b : Nat) : (!decide (a < b)) = decide (b ≤ a) := by
  by_cases h : a < b
  · rw [decide_eq_true h, decide_eq_false (by omega)] <;> rfl
  · rw [decide_eq_false h, decide_eq_true (by omega)] <;> rfl
/-- 'a' <= x <= 'z' -/
theorem elt_low {prog : Program} {w : World} {scope : Scope} {x : Str} {i j : Nat} {p1 p2 p3 p4 : Pos} (hk : scope.kind = .function) (hl : scope.names.lookup x = some .local) (hd : (x == ("__debug__" : Str)) = false := by decide)
    (hm : lastMarks [.LtE, .LtE] [.Name x p2, .Constant (.str "z") j p3] = false := by with_unfolding_all rfl) : EltP prog w scope x (.Compare (.Constant (.str "a") i p1) [.LtE, .LtE] [.Name x p2, .Constant (.str "z") j p3] p4) low := by
  intro cenv A' E' c t s₂ m₂ hs hn hx
  refine Compare_chain (Calls.Constant_str (chain_link (wpAny_Name (wpAny_loadName_local (by rw [hs]; exact hk) (show cenv.scope.names.lookup x = some .local by rw [hs]; exact hl) hn hx ?_) hd))) hm
  refine PySem.P.le_str ?_
  refine wpAny_truthy_bool ?_
  have e1 : (!decide ((⟨#[c]⟩ : Str).cps.toList < ("a" : Str).cps.toList)) = decide (97 ≤ c) := by
    show (!decide (([c] : List Nat) < [97])) = _
    rw [lt_one, not_lt_le]
  rw [e1]
  by_cases h : 97 ≤ c
  · rw [decide_eq_true h, if_pos rfl]
    refine chain_last (Calls.Constant_str (PySem.P.le_str ?_))
    have e2 : (!decide (("z" : Str).cps.toList < (⟨#[c]⟩ : Str).cps.toList)) = decide (c ≤ 122) := by
      show (!decide (([122] : List Nat) < [c])) = _
      rw [lt_one, not_lt_le]
    rw [e2]
    refine ⟨?_, keeps_tok _ _⟩
    unfold low
    rw [decide_eq_true h] <;> rfl
  · rw [decide_eq_false h, if_neg Bool.false_ne_true]
    refine ⟨?_, keeps_tok _ _⟩
    unfold low
    rw [decide_eq_false h] <;> rfl
def isNm (z : Str) : Bool := (decide (1 ≤ z.length) && decide (z.length ≤ 8)) && z.cps.toList.all low
def isNmD : PyData → Bool
  | .str z => isNm z
  | _ => false
theorem isNm_ok {z : Str} : isNm z = true ↔ NmOk z := by
  unfold isNm NmOk
  rw [Bool.and_eq_true, Bool.and_eq_true, decide_eq_true_eq, decide_eq_true_eq, List.all_eq_true, and_assoc]
  refine and_congr_right fun _ => and_congr_right fun _ => forall_congr' fun c => imp_congr_right fun _ => ?_
  unfold low
  rw [Bool.and_eq_true, decide_eq_true_eq, decide_eq_true_eq]
/-! ### the signs and words -/
def sgnS : Op → Str
  | .and => "&"
  | .or => "|"
  | .thn => ">"
theorem sgnS_list (o : Op) : (sgnS o).cps.toList = [Op.sgn o] := by cases o <;> rfl
theorem word_ne (o : Op) : ¬ o.word = "name" ∧ ¬ o.word = "false" := by cases o <;> decide +kernel
theorem wr_bin (o : Op) (a b : S) : (((((Str.empty ++ "(" ++ wr a) ++ " ") ++ sgnS o) ++ " ") ++ wr b) ++ ")" = wr (.bin o a b) := by
  refine ext_list ?_
  simp only [str_app, sgnS_list]
  show [] ++ [40] ++ wrL a ++ [32] ++ [Op.sgn o] ++ [32] ++ wrL b ++ [41] = 40 :: (wrL a ++ (32 :: Op.sgn o :: 32 :: (wrL b ++ [41])))
  simp
theorem wr_bin2 (o : Op) (a b : S) : (((((("(" : Str) ++ wr a) ++ " ") ++ sgnS o) ++ " ") ++ wr b) ++ ")" = wr (.bin o a b) := by
  refine ext_list ?_
  simp only [str_app, sgnS_list]
  show [40] ++ wrL a ++ [32] ++ [Op.sgn o] ++ [32] ++ wrL b ++ [41] = 40 :: (wrL a ++ (32 :: Op.sgn o :: 32 :: (wrL b ++ [41])))
  simp
theorem wr_len (s : S) : (wr s).length = (wrL s).length := ofL_len _
theorem wr_nm (w : Str) : wr (.nm w) = w := ext_list rfl
theorem uN_eq (s : S) : uN s = (wr s).length + 5 := by
  rw [wr_len] <;> rfl
theorem sgnS_len (o : Op) : (sgnS o).length = 1 := by cases o <;> rfl
end RM
/-! RP: reading a text, in plain Lean. -/
namespace RM
open PySem PySem.Spec PyProof.Rows L2 DL LM GxR
theorem cut_nn (z : Str) (i j : Nat) : cutS z (some (i : Int)) (some (j : Int)) = ofL ((z.cps.toList.drop i).take (j - i)) := ext_list (by rw [cutS_cut, cut_nat, ofL_list])
theorem cut_1 (z : Str) (i : Nat) : cutS z (some (i : Int)) (some ((i : Int) + 1)) = ofL ((z.cps.toList.drop i).take 1) := by
  rw [show ((i : Int) + 1) = ((i + 1 : Nat) : Int) from rfl, cut_nn, show i + 1 - i = 1 by omega]
theorem cut_3 (z : Str) (i : Nat) : cutS z (some (i : Int)) (some ((i : Int) + 3)) = ofL ((z.cps.toList.drop i).take 3) := by
  rw [show ((i : Int) + 3) = ((i + 3 : Nat) : Int) from rfl, cut_nn, show i + 3 - i = 3 by omega]
theorem ofL_inj {l m : List Nat} (h : ofL l = ofL m) : l = m := by
  have := congrArg (fun z : Str => z.cps.toList) h
  exact this
theorem isNm_ofL (l : List Nat) : isNm (ofL l) = ((decide (1 ≤ l.length) && decide (l.length ≤ 8)) && l.all low) := by
  unfold isNm
  rw [ofL_len, ofL_list]
theorem isNm_one (c : Nat) : isNm (ofL [c]) = low c := by
  rw [isNm_ofL]
  show (true && (low c && true)) = low c
  cases low c <;> rfl
theorem isNm_nil : isNm (ofL []) = false := rfl
theorem drop_at {α : Type} {l : List α} {i : Nat} {c : α} (h : l[i]? = some c) : (l.drop i).take 1 = [c] := by
  obtain ⟨h1, h2⟩ := List.getElem?_eq_some_iff.mp h
  rw [List.drop_eq_getElem_cons h1, h2] <;> rfl
theorem run_on {l : List Nat} {st i : Nat} (h : i < runL (l.drop st)) : isNm (ofL ((l.drop (st + i)).take 1)) = true := by
  obtain ⟨c, h1, h2⟩ := runL_low _ i h
  rw [List.getElem?_drop] at h1
  rw [drop_at h1, isNm_one, h2]
theorem run_off (l : List Nat) (st : Nat) : isNm (ofL ((l.drop (st + runL (l.drop st))).take 1)) = false := by
  rcases runL_end (l.drop st) with ⟨c, h1, h2⟩ | h
  · rw [List.getElem?_drop] at h1
    rw [drop_at h1, isNm_one, h2]
  · rw [List.length_drop] at h
    rw [List.drop_eq_nil_of_le (by omega)]
    exact isNm_nil
theorem all_of_get {l : List Nat} (h : ∀ i, i < l.length → ∃ c, l[i]? = some c ∧ low c = true) : l.all low = true := by
  rw [List.all_eq_true]
  intro c hc
  obtain ⟨i, hi, e⟩ := List.mem_iff_getElem.mp hc
  obtain ⟨d, e1, e2⟩ := h i hi
  rw [List.getElem?_eq_getElem hi, e] at e1
  cases e1
  exact e2
theorem run_isNm (r : List Nat) : isNm (ofL (r.take (runL r))) = (decide (1 ≤ runL r) && decide (runL r ≤ 8)) := by
  have l := runL_le r
  have e : (r.take (runL r)).all low = true := all_of_get fun i hi => by
    rw [List.length_take] at hi
    obtain ⟨c, e1, e2⟩ := runL_low r i (by omega)
    exact ⟨c, by rw [List.getElem?_take, if_pos (by omega), e1], e2⟩
  rw [isNm_ofL, e, List.length_take, Nat.min_eq_left l, Bool.and_true]
/-- read in the way of the program's functions -/
theorem parse_zero (r : List Nat) : parse 0 r = none := rfl
theorem parse_br {room : Nat} {l : List Nat} {st n : Nat} {s : S} (h1 : (l.drop st).take 1 = [40]) (h : parse (room + 1) (l.drop st) = some (s, n)) :
    ∃ o a b na nb, s = .bin o a b ∧ n = na + nb + 5 ∧ parse room (l.drop (st + 1)) = some (a, na) ∧ (l.drop (st + 1 + na)).take 3 = [32, Op.sgn o, 32] ∧ parse room (l.drop (st + 1 + na + 3)) = some (b, nb) ∧ (l.drop (st + 1 + na + 3 + nb)).take 1 = [41] := by
  unfold parse at h
  rw [if_pos h1] at h
  obtain ⟨⟨a, na⟩, e1, h⟩ := Option.bind_eq_some_iff.mp h
  obtain ⟨o, e2, h⟩ := Option.bind_eq_some_iff.mp h
  obtain ⟨⟨b, nb⟩, e3, h⟩ := Option.bind_eq_some_iff.mp h
  split at h
  · rename_i h4
    cases h
    rw [List.drop_drop] at e1
    have e2 := opOf_len e2
    rw [List.drop_drop, List.drop_drop] at e2
    rw [List.drop_drop, List.drop_drop] at e3
    rw [List.drop_drop, List.drop_drop, List.drop_drop] at h4
    refine ⟨o, a, b, na, nb, rfl, rfl, e1, ?_, ?_, ?_⟩
    · rw [show st + 1 + na = st + (1 + na) by omega]; exact e2
    · rw [show st + 1 + na + 3 = st + (1 + (na + 3)) by omega]; exact e3
    · rw [show st + 1 + na + 3 + nb = st + (1 + (na + 3 + nb)) by omega]; exact h4
  · cases h
theorem parse_fls {room : Nat} {l : List Nat} {st n : Nat} {s : S} (h0 : ¬ (l.drop st).take 1 = [40]) (h1 : (l.drop st).take 1 = [35]) (h : parse (room + 1) (l.drop st) = some (s, n)) : s = .fls ∧ n = 1 := by
  unfold parse at h
  rw [if_neg h0, if_pos h1] at h
  cases h
  exact ⟨rfl, rfl⟩
theorem parse_nm {room : Nat} {l : List Nat} {st n : Nat} {s : S} (h0 : ¬ (l.drop st).take 1 = [40]) (h1 : ¬ (l.drop st).take 1 = [35]) (h : parse (room + 1) (l.drop st) = some (s, n)) :
    1 ≤ runL (l.drop st) ∧ runL (l.drop st) ≤ 8 ∧ s = .nm (ofL ((l.drop st).take (runL (l.drop st)))) ∧ n = runL (l.drop st) := by
  unfold parse at h
  rw [if_neg h0, if_neg h1] at h
  split at h
  · rename_i h2
    cases h
    exact ⟨h2.1, h2.2, rfl, rfl⟩
  · cases h
end RM
/-! DL16: the law's entry. -/
namespace DL
open PySem PySem.Spec PyProof.Rows L2
def noTab (H : Hp) : Hp := fun b => match H b with
  | some (.tbl _) => none
  | o => o
theorem noTab_dh (H : Hp) : DH (noTab H) H := by
  refine ⟨fun a o e => ?_, fun a ps e => ?_⟩
  · unfold noTab at e
    split at e
    · cases e
    · exact e
  · unfold noTab at e
    split at e
    · cases e
    · rename_i h
      exact h ps e
theorem noTab_at {H : Hp} {a : Addr} {o : HO} (h : H a = some o) (n : ∀ ps, o ≠ .tbl ps) : noTab H a = some o := by
  unfold noTab
  rw [h]
  cases o <;> first | rfl | exact absurd rfl (n _)
theorem sp_entry {K : PySem.W.Frag} {tb : List Addr} {R : List PyData → PyData → Prop} {H : Hp} {a : Addr} {ns : List Int} (hT : ∀ p ∈ tb, H p = some (.tbl #[])) (hS : SqL K H a (ns.map V.int)) (hR : R [.list (ns.map .int)] (.bool true)) :
    spD K tb 1 R [.ref a] H (fun v _ => v = .bl true) fun _ _ _ => False := by
  refine ⟨noTab H, [.list (ns.map .int)], .bool true, rfl, noTab_dh H, fun p hp => ⟨#[], hT p hp, ?_⟩, .cons (.lst (xs := ns.map V.int) ?_ (dpa_ints ns)) .nil, hR, fun v Hd' H' g ht dv => ?_⟩
  · exact trivial
  · rcases hS with h | h
    · refine .inl ?_
      rcases h with h | ⟨o, h⟩
      · exact .inl (noTab_at h fun _ z => nomatch z)
      · exact .inr ⟨o, noTab_at h fun _ z => nomatch z⟩
    · exact .inr h
  · cases dv
    rfl
end DL
/-! DL17: a text among texts; a list's index. -/
namespace DL
open PySem PySem.Spec PyProof.Rows L2
section
variable {X : Cx} {tb : List Addr} {W : WX'} {ds es : List Sl} {d e f : PyData} {a b : Expr} {pos p : Pos} {K : PySem.W.Frag}
theorem strs_flat : ∀ ys : List Str, (ys.map V.str).all flatV = true
  | [] => rfl
  | y :: r => strs_flat r
theorem inV_strs {z : Str} : ∀ ys : List Str, inV (.str z) (ys.map V.str) = decide (z ∈ ys)
  | [] => rfl
  | y :: r => by
    show (eqV (.str y) (.str z) || inV (.str z) (r.map V.str)) = _
    rw [inV_strs r]
    have e : eqV (.str y) (.str z) = decide (y = z) := by
      show (y == z) = _
      by_cases h : y = z
      · rw [h, decide_eq_true rfl]; exact beq_self_eq_true z
      · rw [decide_eq_false h]; exact beq_eq_false_iff_ne.mpr h
    rw [e]
    by_cases h : y = z
    · subst h
      simp
    · have h2 : ¬ z = y := fun q => h q.symm
      simp [h, h2]
theorem rv_inStr {neg : Bool} {z : Str} {ys : List Str} : RvD K tb (rIn K neg) (.str z) (.list (ys.map .str)) (.bool (if neg then !decide (z ∈ ys) else decide (z ∈ ys))) := fun Hd H x y D _ dx dy Q q => by
  cases dx
  cases dy with
  | @lst p vs _ k1 k2 =>
    have e := dpa_strs k2
    subst e
    refine ⟨p, _, rfl, .inl (sl_sub D.s k1), rfl, strs_flat ys, ?_⟩
    rw [inV_strs]
    exact q _ Hd H (Gr.refl D) (.bl _)
theorem cmp_inStr {z : Str} {ys : List Str} : CmpD X tb .In (.str z) (.list (ys.map .str)) (decide (z ∈ ys)) := ⟨⟨_, op_in_seq, rv_inStr (neg := false)⟩⟩
theorem cmp_notInStr {z : Str} {ys : List Str} : CmpD X tb .NotIn (.str z) (.list (ys.map .str)) (!decide (z ∈ ys)) := ⟨⟨_, op_notIn_seq, rv_inStr (neg := true)⟩⟩
theorem eqV_str (y z : Str) : eqV (.str y) (.str z) = decide (y = z) := by
  show (y == z) = _
  by_cases h : y = z
  · rw [h, decide_eq_true rfl]; exact beq_self_eq_true z
  · rw [decide_eq_false h]; exact beq_eq_false_iff_ne.mpr h
theorem rm_indexL {z : Str} {ys : List Str} {j : Nat} (hj : ys[j]? = some z) (hn : ∀ m, m < j → ys[m]? ≠ some z) : RmD K (rIndex K) (.list (ys.map .str)) [.str z] (.int (j : Nat)) := fun Hd H x xs D dx dxs Q q => by
  cases dx with
  | @lst p vs _ k1 k2 =>
    have e := dpa_strs k2
    subst e
    cases dxs with
    | cons m1 m2 =>
      cases m2
      cases m1
      refine ⟨p, ys.map V.str, .str z, j, .str z, rfl, rfl, sl_sub D.s k1, rfl, strs_flat ys, by rw [List.getElem?_map, hj] <;> rfl, by rw [eqV_str, decide_eq_true rfl], fun m z' hm hz => ?_, q _ Hd H (Gr.refl D) (.int _)⟩
      rw [List.getElem?_map] at hz
      cases e : ys[m]? with
      | none => rw [e] at hz; cases hz
      | some y =>
        rw [e] at hz
        cases hz
        rw [eqV_str, decide_eq_false fun h => hn m hm (by rw [e, h])]
/-- [texts].index(text), there -/
theorem ed_indexL {z : Str} {ys : List Str} {j : Nat} {apos : Pos} (hb : PEd X tb b ds (.list (ys.map .str))) (ha : PEd X tb a ds (.str z)) (hj : ys[j]? = some z) (hn : ∀ m, m < j → ys[m]? ≠ some z) (hs : starEach [a] X.env = (false, eval a X.env) :: starEach [] X.env := by rfl)
    (hbase : attributeBase b "index" X.env (eval b X.env) = eval b X.env := by rfl)
    (hfew : ((backTo pos (starEach [a] X.env)).all (fun x => !x.1) && (backToKw pos (keywordEach [] X.env)).all (fun x => x.1.isSome)
      && decide ([a].length + ([] : List Keyword).length + (if ([] : List Keyword).isEmpty then 0 else 1) < 30)) = true := by rfl)
    (hline : (apos.endLine == pos.line) = true := by rfl) (hplain : (backTo pos (starEach [] X.env)).any (·.1) = false := by rfl) : PEd X tb (.Call (.Attribute b "index" apos) [a] [] pos) ds (.int (j : Nat)) :=
  ed_bm PySem.F.plainAttrs_list PySem.F.slot_list_index PySem.F.type_list_index mt_index (rm_indexL hj hn) rfl hb (ad_cons ha ad_nil hs) hbase hfew hline hs hplain
theorem eqv_tnil (xs : List PyData) : PyData.eqv (.tuple xs) (.tuple []) = xs.isEmpty := by
  cases xs <;> rfl
end
end DL
/-! RQ: reading a text, the equations. -/
namespace RM
open PySem PySem.Spec PyProof.Rows L2 DL LM GxR
theorem parse_br_eq {room : Nat} {l : List Nat} {st : Nat} (h1 : (l.drop st).take 1 = [40]) : parse (room + 1) (l.drop st) = (parse room (l.drop (st + 1))).bind fun p => (opOf ((l.drop (st + 1 + p.2)).take 3)).bind fun o =>
    (parse room (l.drop (st + 1 + p.2 + 3))).bind fun q => if (l.drop (st + 1 + p.2 + 3 + q.2)).take 1 = [41] then some (.bin o p.1 q.1, p.2 + q.2 + 5) else none := by
  show (if (l.drop st).take 1 = [40] then _ else _) = _
  rw [if_pos h1]
  have e0 : (l.drop st).drop 1 = l.drop (st + 1) := by rw [List.drop_drop]
  rw [e0]
  cases parse room (l.drop (st + 1)) with
  | none => rfl
  | some p =>
    rw [Option.bind_some, Option.bind_some, List.drop_drop]
    cases opOf ((l.drop (st + 1 + p.2)).take 3) with
    | none => rfl
    | some o =>
      rw [Option.bind_some, Option.bind_some, List.drop_drop]
      have e3 : l.drop (st + 1 + (p.2 + 3)) = l.drop (st + 1 + p.2 + 3) := rfl
      rw [e3]
      cases parse room (l.drop (st + 1 + p.2 + 3)) with
      | none => rfl
      | some q => rw [Option.bind_some, Option.bind_some, List.drop_drop]
theorem parse_fls_eq {room : Nat} {l : List Nat} {st : Nat} (h1 : (l.drop st).take 1 = [35]) : parse (room + 1) (l.drop st) = some (.fls, 1) := by
  show (if (l.drop st).take 1 = [40] then _ else _) = _
  rw [if_neg (by rw [h1]; decide), if_pos h1]
theorem parse_nm_eq {room : Nat} {l : List Nat} {st : Nat} (h0 : ¬ (l.drop st).take 1 = [40]) (h1 : ¬ (l.drop st).take 1 = [35]) : parse (room + 1) (l.drop st) = if 1 ≤ runL (l.drop st) ∧ runL (l.drop st) ≤ 8 then some (.nm (ofL ((l.drop st).take (runL (l.drop st)))), runL (l.drop st)) else none := by
  show (if (l.drop st).take 1 = [40] then _ else _) = _
  rw [if_neg h0, if_neg h1]
theorem let_mem (c : Nat) : decide (c ∈ ("abcdefghijklmnopqrstuvwxyz" : Str).cps.toList) = low c := by
  have e : ("abcdefghijklmnopqrstuvwxyz" : Str).cps.toList = (List.range 26).map (· + 97) := by decide +kernel
  rw [e]
  unfold low
  rw [← Bool.decide_and]
  refine decide_eq_decide.mpr ⟨fun h => ?_, fun h => ?_⟩
  · obtain ⟨j, hj, e⟩ := List.mem_map.mp h
    have := List.mem_range.mp hj
    omega
  · exact List.mem_map.mpr ⟨c - 97, List.mem_range.mpr (by omega), by omega⟩
/-- what is read is made of names alone, no deeper than the room -/
theorem parse_ok : ∀ (room : Nat) (r : List Nat) (s : S) (n : Nat), parse room r = some (s, n) → Ok s ∧ dep s ≤ room
  | 0, _, _, _, h => by cases h
  | room + 1, r, s, n, h => by
    have e : r = r.drop 0 := rfl
    rw [e] at h
    by_cases h1 : (r.drop 0).take 1 = [40]
    · rw [parse_br_eq h1] at h
      obtain ⟨p, e1, h⟩ := Option.bind_eq_some_iff.mp h
      obtain ⟨o, e2, h⟩ := Option.bind_eq_some_iff.mp h
      obtain ⟨q, e3, h⟩ := Option.bind_eq_some_iff.mp h
      split at h
      · cases h
        obtain ⟨a1, a2⟩ := parse_ok room _ p.1 p.2 e1
        obtain ⟨b1, b2⟩ := parse_ok room _ q.1 q.2 e3
        refine ⟨⟨a1, b1⟩, ?_⟩
        show max (dep p.1) (dep q.1) + 1 ≤ room + 1
        omega
      · cases h
    · by_cases h2 : (r.drop 0).take 1 = [35]
      · rw [parse_fls_eq h2] at h
        cases h
        exact ⟨trivial, Nat.succ_le_succ (Nat.zero_le _)⟩
      · rw [parse_nm_eq h1 h2] at h
        split at h
        · rename_i h3
          cases h
          refine ⟨isNm_ok.mp ?_, Nat.succ_le_succ (Nat.zero_le _)⟩
          rw [run_isNm, decide_eq_true h3.1, decide_eq_true h3.2] <;> rfl
        · cases h
def lrOf (o : Option (S × Nat)) (st : Nat) : PyData := match o with
  | some (s, n) => .tuple [enc s, .int (st + n : Nat)]
  | none => .tuple []
theorem lr_shaped {room : Nat} {r : List Nat} (h : room ≤ 60) (st : Nat) : SeqAt.shaped (lrOf (parse room r) st) = true := by
  cases e : parse room r with
  | none =>
    show SeqAt.shaped (.tuple []) = true
    decide +kernel
  | some p =>
    obtain ⟨s, n⟩ := p
    obtain ⟨h1, h2⟩ := parse_ok room r s n e
    have h3 := enc_lay s h1
    have h4 := enc_depth s
    show SeqAt.shaped (.tuple [enc s, .int (st + n : Nat)]) = true
    unfold SeqAt.shaped
    have e1 : PyData.canLay0 (.tuple [enc s, .int (st + n : Nat)]) = true := by
      simp only [PyData.canLay0, PyData.canLayAll0, h3, Bool.and_true]
    have e2 : PyData.depth (.tuple [enc s, .int (st + n : Nat)]) ≤ 64 := by
      simp only [PyData.depth, PyData.depthAll]
      omega
    rw [e1, decide_eq_true e2] <;> rfl
theorem lr_nil (o : Option (S × Nat)) (st : Nat) : PyData.eqv (lrOf o st) (.tuple []) = o.isNone := by
  cases o with
  | none => rfl
  | some p => exact eqv_tnil _
def ops3 : List Str := [" & ", " | ", " > "]
theorem op_in (l : List Nat) : decide (ofL l ∈ ops3) = (opOf l).isSome := by
  have e : ops3 = [ofL [32, 38, 32], ofL [32, 124, 32], ofL [32, 62, 32]] := rfl
  rw [e]
  unfold opOf
  by_cases h1 : l = [32, 38, 32]
  · rw [if_pos h1, h1]; decide +kernel
  rw [if_neg h1]
  by_cases h2 : l = [32, 124, 32]
  · rw [if_pos h2, h2]; decide +kernel
  rw [if_neg h2]
  by_cases h3 : l = [32, 62, 32]
  · rw [if_pos h3, h3]; decide +kernel
  rw [if_neg h3]
  refine decide_eq_false fun h => ?_
  rcases List.mem_cons.mp h with h | h
  · exact h1 (ofL_inj h)
  · rcases List.mem_cons.mp h with h | h
    · exact h2 (ofL_inj h)
    · exact h3 (ofL_inj (List.mem_singleton.mp h))
def opIx : Op → Nat
  | .and => 0
  | .or => 1
  | .thn => 2
theorem op_at {l : List Nat} {o : Op} (h : opOf l = some o) : ops3[opIx o]? = some (ofL l) ∧ ∀ m, m < opIx o → ops3[m]? ≠ some (ofL l) := by
  have e := opOf_len h
  rw [e]
  cases o with
  | and => exact ⟨rfl, fun m hm => absurd hm (Nat.not_lt_zero _)⟩
  | or => exact ⟨rfl, fun m hm => by
      have hm : m < 1 := hm
      have : m = 0 := by omega
      subst this
      decide +kernel⟩
  | thn => exact ⟨rfl, fun m hm => by
      have hm : m < 2 := hm
      have : m = 0 ∨ m = 1 := by omega
      rcases this with rfl | rfl <;> decide +kernel⟩
theorem op_word (o : Op) : ([.str "and", .str "or", .str "then"] : List PyData)[opIx o]? = some (.str o.word) := by cases o <;> rfl
end RM
/-! PK: what is a statement, of any data, in plain Lean: by depth, and level by level with equal ones left out. -/
namespace PK
open PySem PySem.Spec PyProof.Rows L2 DL LM RM
def wordIs (d : PyData) (z : Str) : Bool := PyData.eqv d (.str z)
def joinD (d : PyData) : Bool := wordIs d "and" || (wordIs d "or" || wordIs d "then")
def formedD : PyData → Bool
  | .tuple [w] => wordIs w "false"
  | .tuple [w, x] => wordIs w "name" && isNmD x
  | .tuple [w, _, _] => joinD w
  | _ => false
def halvesD : PyData → List PyData
  | .tuple [_, a, b] => [a, b]
  | _ => []
def isD : Nat → PyData → Bool
  | 0, _ => false
  | _ + 1, .tuple [w] => wordIs w "false"
  | _ + 1, .tuple [w, x] => wordIs w "name" && isNmD x
  | n + 1, .tuple [w, a, b] => joinD w && (isD n a && isD n b)
  | _ + 1, _ => false
theorem isD_succ (n : Nat) (x : PyData) : isD (n + 1) x = (formedD x && (halvesD x).all (isD n)) := by
  cases x with
  | tuple xs =>
    match xs with
    | [] => rfl
    | [w] => exact (Bool.and_true _).symm
    | [w, x] => exact (Bool.and_true _).symm
    | [w, a, b] =>
      show (joinD w && (isD n a && isD n b)) = (joinD w && (isD n a && (isD n b && true)))
      rw [Bool.and_true]
    | _ :: _ :: _ :: _ :: _ => rfl
  | none => rfl
  | bool _ => rfl
  | int _ => rfl
  | str _ => rfl
  | list _ => rfl
  | dict _ => rfl
theorem eqv_str_l {d : PyData} {z : Str} : PyData.eqv d (.str z) = true ↔ d = .str z := by
  constructor
  · intro h
    cases d with
    | str x =>
      have h : (x == z) = true := h
      rw [beq_iff_eq.mp h]
    | _ => cases h
  · intro h
    rw [h]
    exact beq_self_eq_true z
theorem eqv_word {d e : PyData} (h : PyData.eqv d e = true) (z : Str) : wordIs d z = wordIs e z := by
  unfold wordIs
  rw [Bool.eq_iff_iff, eqv_str_l, eqv_str_l]
  constructor
  · intro q
    subst q
    cases e with
    | str x =>
      have h : (z == x) = true := h
      rw [beq_iff_eq.mp h]
    | _ => cases h
  · intro q
    subst q
    exact eqv_str_l.mp h
theorem eqv_join {d e : PyData} (h : PyData.eqv d e = true) : joinD d = joinD e := by
  unfold joinD
  rw [eqv_word h, eqv_word h, eqv_word h]
theorem eqv_nm {d e : PyData} (h : PyData.eqv d e = true) : isNmD d = isNmD e := by
  cases d with
  | str x =>
    cases e with
    | str y =>
      have h : (x == y) = true := h
      rw [beq_iff_eq.mp h]
    | _ => cases h
  | _ =>
    cases e with
    | str y => cases h
    | _ => rfl
theorem eqvAll_cons {x y : PyData} {xs ys : List PyData} (h : PyData.eqvAll (x :: xs) (y :: ys) = true) : PyData.eqv x y = true ∧ PyData.eqvAll xs ys = true := by
  have h : (PyData.eqv x y && PyData.eqvAll xs ys) = true := h
  exact Bool.and_eq_true_iff.mp h
theorem eqv_formed {d e : PyData} (h : PyData.eqv d e = true) : formedD d = formedD e := by
  cases d with
  | tuple xs =>
    cases e with
    | tuple ys =>
      have h : PyData.eqvAll xs ys = true := h
      match xs, ys, h with
      | [], [], _ => rfl
      | [], _ :: _, h => cases h
      | _ :: _, [], h => cases h
      | [a], [b], h => exact eqv_word (eqvAll_cons h).1 _
      | [a], _ :: _ :: _, h => cases (eqvAll_cons h).2
      | _ :: _ :: _, [b], h => cases (eqvAll_cons h).2
      | [a, b], [c, d], h =>
        obtain ⟨h1, h2⟩ := eqvAll_cons h
        show (wordIs a "name" && isNmD b) = (wordIs c "name" && isNmD d)
        rw [eqv_word h1, eqv_nm (eqvAll_cons h2).1]
      | [a, b], _ :: _ :: _ :: _, h => cases (eqvAll_cons (eqvAll_cons h).2).2
      | _ :: _ :: _ :: _, [c, d], h => cases (eqvAll_cons (eqvAll_cons h).2).2
      | [a, b, c], [d, e, f], h => exact eqv_join (eqvAll_cons h).1
      | [a, b, c], _ :: _ :: _ :: _ :: _, h => cases (eqvAll_cons (eqvAll_cons (eqvAll_cons h).2).2).2
      | _ :: _ :: _ :: _ :: _, [d, e, f], h => cases (eqvAll_cons (eqvAll_cons (eqvAll_cons h).2).2).2
      | _ :: _ :: _ :: _ :: _, _ :: _ :: _ :: _ :: _, _ => rfl
    | _ => cases h
  | _ =>
    cases e with
    | tuple ys => cases h
    | _ => rfl
theorem eqv_isD : ∀ (n : Nat) (d e : PyData), PyData.eqv d e = true → isD n d = isD n e
  | 0, _, _, _ => rfl
  | n + 1, d, e, h => by
    rw [isD_succ, isD_succ, eqv_formed h]
    refine congrArg _ ?_
    cases d with
    | tuple xs =>
      cases e with
      | tuple ys =>
        have h : PyData.eqvAll xs ys = true := h
        match xs, ys, h with
        | [], [], _ => rfl
        | [], _ :: _, h => cases h
        | _ :: _, [], h => cases h
        | [a], [b], h => rfl
        | [a], _ :: _ :: _, h => cases (eqvAll_cons h).2
        | _ :: _ :: _, [b], h => cases (eqvAll_cons h).2
        | [a, b], [c, d], h => rfl
        | [a, b], _ :: _ :: _ :: _, h => cases (eqvAll_cons (eqvAll_cons h).2).2
        | _ :: _ :: _ :: _, [c, d], h => cases (eqvAll_cons (eqvAll_cons h).2).2
        | [a, b, c], [d, e, f], h =>
          obtain ⟨h1, h2⟩ := eqvAll_cons h
          obtain ⟨h3, h4⟩ := eqvAll_cons h2
          show (isD n b && (isD n c && true)) = (isD n e && (isD n f && true))
          rw [eqv_isD n b e h3, eqv_isD n c f (eqvAll_cons h4).1]
        | [a, b, c], _ :: _ :: _ :: _ :: _, h => cases (eqvAll_cons (eqvAll_cons (eqvAll_cons h).2).2).2
        | _ :: _ :: _ :: _ :: _, [d, e, f], h => cases (eqvAll_cons (eqvAll_cons (eqvAll_cons h).2).2).2
        | _ :: _ :: _ :: _ :: _, _ :: _ :: _ :: _ :: _, _ => rfl
      | _ => cases h
    | _ =>
      cases e with
      | tuple ys => cases h
      | _ => rfl
/-- k holds of l what is left when equal ones go -/
structure Ded (l k : List PyData) : Prop where
  sub : ∀ x ∈ k, x ∈ l
  rep : ∀ x ∈ l, ∃ y ∈ k, PyData.eqv y x = true
theorem Ded.all {l k : List PyData} (h : Ded l k) (n : Nat) : k.all (isD n) = l.all (isD n) := by
  rw [Bool.eq_iff_iff, List.all_eq_true, List.all_eq_true]
  constructor
  · intro q x hx
    obtain ⟨y, hy, e⟩ := h.rep x hx
    rw [← eqv_isD n y x e]
    exact q y hy
  · exact fun q x hx => q x (h.sub x hx)
/-- level by level: below tells the next level of one that is all formed -/
def levels (below : List PyData → List PyData) : Nat → List PyData → Bool
  | 0, l => l.isEmpty
  | n + 1, l => l.all formedD && levels below n (below l)
theorem levels_isD {below : List PyData → List PyData} (hb : ∀ l, l.all formedD = true → Ded (l.flatMap halvesD) (below l)) : ∀ (n : Nat) (l : List PyData), levels below n l = l.all (isD n)
  | 0, l => by
    cases l with
    | nil => rfl
    | cons x r => rfl
  | n + 1, l => by
    show (l.all formedD && levels below n (below l)) = _
    rw [levels_isD hb n (below l)]
    have e : l.all (isD (n + 1)) = (l.all formedD && (l.flatMap halvesD).all (isD n)) := by
      have e1 : isD (n + 1) = fun x => formedD x && (halvesD x).all (isD n) := funext (isD_succ n)
      rw [e1]
      clear hb e1
      induction l with
      | nil => rfl
      | cons x r ih =>
        rw [List.all_cons, ih, List.all_cons, List.flatMap_cons, List.all_append]
        cases formedD x <;> cases (halvesD x).all (isD n) <;> cases r.all formedD <;> rfl
    rw [e]
    cases q : l.all formedD with
    | false => rfl
    | true => rw [(hb l q).all n]
end PK
namespace PK
open PySem PySem.Spec PyProof.Rows L2 DL LM RM
/-! ### what may be compared, measured -/
mutual
def fineD : PyData → Bool
  | .str x => decide (x.length ≤ 1000)
  | .list xs => fineAll xs
  | .tuple xs => fineAll xs
  | _ => true
def fineAll : List PyData → Bool
  | [] => true
  | x :: xs => fineD x && fineAll xs
end
structure Fn (n : Nat) (d : PyData) : Prop where
  lay : d.canLay0 = true
  dp : d.depth ≤ n
  fi : fineD d = true
theorem Fn.shaped {n : Nat} {d : PyData} (h : Fn n d) (hn : n ≤ 64) : SeqAt.shaped d = true := by
  unfold SeqAt.shaped
  rw [h.lay, decide_eq_true (Nat.le_trans h.dp hn)] <;> rfl
theorem lay_mem : ∀ {xs : List PyData}, PyData.canLayAll0 xs = true → ∀ x ∈ xs, x.canLay0 = true
  | y :: r, h, x, hx => by
    have h : (y.canLay0 && PyData.canLayAll0 r) = true := h
    obtain ⟨h1, h2⟩ := Bool.and_eq_true_iff.mp h
    rcases List.mem_cons.mp hx with rfl | hx
    · exact h1
    · exact lay_mem h2 x hx
theorem fine_mem : ∀ {xs : List PyData}, fineAll xs = true → ∀ x ∈ xs, fineD x = true
  | y :: r, h, x, hx => by
    have h : (fineD y && fineAll r) = true := by
      rw [fineAll] at h
      exact h
    obtain ⟨h1, h2⟩ := Bool.and_eq_true_iff.mp h
    rcases List.mem_cons.mp hx with rfl | hx
    · exact h1
    · exact fine_mem h2 x hx
theorem dep_mem : ∀ {xs : List PyData}, ∀ x ∈ xs, x.depth ≤ PyData.depthAll xs
  | y :: r, x, hx => by
    have e : PyData.depthAll (y :: r) = max y.depth (PyData.depthAll r) := by rw [PyData.depthAll]
    rw [e]
    rcases List.mem_cons.mp hx with rfl | hx
    · exact Nat.le_max_left _ _
    · exact Nat.le_trans (dep_mem x hx) (Nat.le_max_right _ _)
theorem Fn.mem {n : Nat} {xs : List PyData} (h : Fn (n + 1) (.tuple xs)) {x : PyData} (hx : x ∈ xs) : Fn n x := by
  have h1 : PyData.canLayAll0 xs = true := by
    have := h.lay
    rw [PyData.canLay0] at this
    exact this
  have h2 : PyData.depthAll xs + 1 ≤ n + 1 := by
    have := h.dp
    rw [PyData.depth] at this
    exact this
  have h3 : fineAll xs = true := by
    have := h.fi
    rw [fineD] at this
    exact this
  have := dep_mem x hx
  exact ⟨lay_mem h1 x hx, by omega, fine_mem h3 x hx⟩
theorem Fn.mono {n m : Nat} {d : PyData} (h : Fn n d) (hm : n ≤ m) : Fn m d := ⟨h.lay, Nat.le_trans h.dp hm, h.fi⟩
theorem Fn.pos {n : Nat} {xs : List PyData} (h : Fn n (.tuple xs)) : ∃ k, n = k + 1 := by
  have := h.dp
  rw [PyData.depth] at this
  exact ⟨n - 1, by omega⟩
theorem Fn.str {n : Nat} {z : Str} (h : Fn n (.str z)) : z.length ≤ 1000 := by
  have := h.fi
  rw [fineD] at this
  exact of_decide_eq_true this
theorem Fn.sz {n : Nat} {d : PyData} (h : Fn n d) : ∀ z, d = .str z → z.length ≤ 16000000 := fun z e => by
  subst e
  exact Nat.le_trans h.str (by decide)
end PK
namespace PK
open PySem PySem.Spec PyProof.Rows L2 DL LM RM
/-! ### the beginning of any datum -/
def isJ : PyData → Bool
  | .tuple [w, _, _] => joinD w
  | _ => false
def nxD : PyData → PyData
  | .tuple [_, a, _] => a
  | d => d
def hdS : PyData → Str
  | .tuple (.str z :: _) => z
  | _ => ""
def itD (d : PyData) : Nat → PyData
  | 0 => d
  | n + 1 => nxD (itD d n)
theorem itD_nx (d : PyData) : ∀ n : Nat, itD (nxD d) n = itD d (n + 1)
  | 0 => rfl
  | n + 1 => by
    show nxD (itD (nxD d) n) = nxD (itD d (n + 1))
    rw [itD_nx d n]
def stD : Nat → PyData → Nat
  | 0, _ => 0
  | n + 1, d => if isJ d = true then stD n (nxD d) + 1 else 0
theorem stD_le : ∀ (n : Nat) (d : PyData), stD n d ≤ n
  | 0, _ => Nat.le_refl _
  | n + 1, d => by
    unfold stD
    split
    · exact Nat.succ_le_succ (stD_le n _)
    · exact Nat.zero_le _
theorem stD_on : ∀ (n : Nat) (d : PyData) (i : Nat), i < stD n d → isJ (itD d i) = true
  | 0, _, i, h => absurd h (Nat.not_lt_zero _)
  | n + 1, d, i, h => by
    unfold stD at h
    split at h
    · rename_i hj
      cases i with
      | zero => exact hj
      | succ i =>
        have := stD_on n (nxD d) i (by omega)
        rw [itD_nx] at this
        exact this
    · exact absurd h (Nat.not_lt_zero _)
theorem isJ_some {d : PyData} (h : isJ d = true) : ∃ (z : Str) (a b : PyData), d = .tuple [.str z, a, b] ∧ (z = "and" ∨ z = "or" ∨ z = "then") := by
  unfold isJ at h
  split at h
  · rename_i w a b
    unfold joinD at h
    rw [Bool.or_eq_true, Bool.or_eq_true] at h
    rcases h with h | h | h
    · exact ⟨_, a, b, by rw [eqv_str_l.mp h], .inl rfl⟩
    · exact ⟨_, a, b, by rw [eqv_str_l.mp h], .inr (.inl rfl)⟩
    · exact ⟨_, a, b, by rw [eqv_str_l.mp h], .inr (.inr rfl)⟩
  · cases h
theorem nx_depth {d : PyData} (h : isJ d = true) : (nxD d).depth < d.depth := by
  obtain ⟨z, a, b, rfl, _⟩ := isJ_some h
  show a.depth < PyData.depth (.tuple [.str z, a, b])
  simp only [PyData.depth, PyData.depthAll]
  omega
theorem stD_off : ∀ (n : Nat) (d : PyData), d.depth ≤ n → isJ (itD d (stD n d)) = false
  | 0, d, h => by
    cases q : isJ (itD d (stD 0 d)) with
    | false => rfl
    | true =>
      have := nx_depth q
      have e : itD d (stD 0 d) = d := rfl
      rw [e] at this
      omega
  | n + 1, d, h => by
    unfold stD
    by_cases hj : isJ d = true
    · rw [if_pos hj]
      have l := nx_depth hj
      have := stD_off n (nxD d) (by omega)
      rw [itD_nx] at this
      exact this
    · rw [if_neg hj]
      cases q : isJ d with
      | false => exact q
      | true => exact absurd q hj
theorem Fn.nx {n : Nat} {d : PyData} (h : Fn n d) : Fn n (nxD d) := by
  unfold nxD
  split
  · rename_i w a b
    obtain ⟨k, rfl⟩ := h.pos
    exact (h.mem (.tail _ (.head _))).mono (Nat.le_succ _)
  · exact h
theorem Fn.it {n : Nat} {d : PyData} (h : Fn n d) : ∀ i : Nat, Fn n (itD d i)
  | 0 => h
  | i + 1 => (Fn.it h i).nx
theorem isJ_formed {d : PyData} (h : isJ d = true) : formedD d = true := by
  obtain ⟨z, a, b, rfl, _⟩ := isJ_some h
  exact h
/-- the texts in a datum that is formed and has no halves -/
def tailD : PyData → List Str
  | .tuple [.str z] => [z]
  | .tuple [.str z, .str y] => [z, y]
  | _ => []
def begWD (d : PyData) : List Str := (List.range (stD 64 d)).map (fun j => hdS (itD d j)) ++ (if formedD (itD d (stD 64 d)) = true then tailD (itD d (stD 64 d)) else [])
def begTD (d : PyData) : Str := Txt.join " " (begWD d)
end PK
/-! DL18: what a table has not; numbers in messages. -/
namespace DL
open PySem PySem.Spec PyProof.Rows L2
theorem find_no {P : Params} {z : Str} : ∀ {l : List DictEntry} {ks : List Str}, l.map He.keyOf = He.keysIn P ks → z ∉ ks → l.find? (·.key.isStr z) = none ∧ l.any (·.refKey) = false
  | [], _, _, _ => ⟨rfl, rfl⟩
  | e :: r, [], h, _ => by cases h
  | e :: r, k :: ks, h, hz => by
    have h1 : He.keyOf e :: r.map He.keyOf = some (k, PyData.keyHash P k) :: He.keysIn P ks := h
    injection h1 with h2 h3
    have hk : ¬ k = z := fun q => hz (by rw [q]; exact List.mem_cons_self)
    obtain ⟨i1, i2⟩ := find_no h3 fun q => hz (List.mem_cons_of_mem _ q)
    unfold He.keyOf at h2
    split at h2
    · rename_i x t q
      have h4 := (Prod.mk.inj (Option.some.inj h2)).1
      have e1 : e.key.isStr z = false := by
        rw [q, h4]
        exact beq_eq_false_iff_ne.mpr hk
      have e2 : e.refKey = false := by
        unfold DictEntry.refKey
        rw [q] <;> rfl
      refine ⟨?_, ?_⟩
      · rw [List.find?_cons, e1]
        exact i1
      · rw [List.any_cons, e2, i2] <;> rfl
    · cases h2
theorem ns_none {P : Params} {K : PySem.W.Frag} {a : Addr} {ks : List Str} {z : Str} (h : He.dicW K a = some (He.keysIn P ks)) (hz : z ∉ ks) : PySem.W.nsIn K a z = some none := by
  unfold He.dicW at h
  cases q : K.lookup a with
  | none =>
    rw [q] at h
    cases h
  | some o =>
    obtain ⟨oc, od, dt, osl⟩ := o
    rw [q] at h
    cases oc with
    | type c =>
      cases od with
      | none =>
        cases dt with
        | dict es n =>
          have h1 : (match decide (c = "dict") && (osl.isEmpty && !(a == sysModules)) with
            | true => some (es.toList.map He.keyOf)
            | false => none) = some (He.keysIn P ks) := h
          cases y : decide (c = "dict") && (osl.isEmpty && !(a == sysModules)) with
          | false =>
            rw [y] at h1
            cases h1
          | true =>
            rw [y] at h1
            obtain ⟨i1, i2⟩ := find_no (Option.some.inj h1) hz
            unfold PySem.W.nsIn
            rw [q]
            show (match es.toList.find? (·.key.isStr z) with
              | some e => some (some e.val)
              | none => if es.toList.any (·.refKey) then none else some none) = some none
            rw [i1]
            show (if es.toList.any (·.refKey) = true then none else some none) = some none
            rw [i2] <;> rfl
        | _ => cases h
      | some b => cases dt <;> cases h
    | _ => cases od <;> cases dt <;> cases h
theorem tab_keys {fa : List He.Fa} {fn : List He.DefD} {ts : List He.Tab} {w : World} {K : PySem.W.Frag} (c : He.SaysT fa fn ts w K) (i : Nat) {t : He.Tab} (h : ts[i]? = some t := by rfl) : He.dicW K (t.1 K) = some (He.keysIn w.params t.2) := by
  have e : ts.map (fun t => He.dicW K (t.1 K)) = ts.map fun t => some (He.keysIn w.params t.2) := congrArg (fun z : He.AlT => z.2) c
  have e2 : (ts.map fun t => He.dicW K (t.1 K))[i]? = (ts.map fun t => some (He.keysIn w.params t.2))[i]? := by rw [e]
  rw [List.getElem?_map, List.getElem?_map, h] at e2
  exact Option.some.inj e2
theorem log_small {n : Nat} (h : n < 10 ^ 10) : (n : Int).natAbs.log2 < 1920 := by
  rw [Int.natAbs_natCast]
  by_cases h0 : n = 0
  · subst h0
    decide
  · exact (Nat.log2_lt h0).mpr (Nat.lt_of_lt_of_le h (Nat.le_trans (by decide : 10 ^ 10 ≤ 2 ^ 64) (Nat.pow_le_pow_right (by decide) (by decide))))
theorem num_len {n : Nat} (h : n < 10 ^ 10) : (Str.ofString (toString (n : Int))).length ≤ 10 := PySem.W.KT.len_num (by omega) (by omega)
end DL
/-! DL19: try: return e, except C as n: return r. -/
namespace DL
open PySem PySem.Spec PyProof.Rows L2
section
variable {X : Cx} {tb : List Addr} {W : WX'} {ds es : List Sl} {d : PyData} {e r : Expr} {rp rp2 pos pos' np p pT pv : Pos} {x n y : Str} {C : Addr} {c : Value} {i : Nat}
def tbTry (X : Cx) (e : Expr) (W : WX') : TS := fun D σ H => ∀ (pn : List (Addr × Obj)) (xe : Value → Shared → Prop), Takes (X.tr pn xe) W → PassesOwn (model X.prog X.w) X.A X.env xe → ∃ t, PE (X.tr pn xe) e t ∧ t σ H D.rt
def tsTry (X : Cx) (r : Expr) (a : Addr) (cls : Value) (dd : Option Addr) : TS := fun D σ H => ∀ (oe : Obj) (pn : List (Addr × Obj)), Zc cls dd oe → (∃ vs, oe.data = .fields vs) → ∃ t, PE (X.suite a ((a, oe) :: pn)) r t ∧ t σ H D.rt
theorem ps_tryRet (tk : Takes X W) (hs : X.stack = X.env :: X.outer) (hf : X.env.frame = some X.env.locals) (hN : X.N.Nodup) (hi : X.N[i]? = some n) (hln : X.env.kindOf n = some .local) (hc : Names X x c) :
    PS X (.Try [.Return (some e) rp] [.ExceptHandler (some (.Name x np)) (some n) [.Return (some r) rp2] pos'] [] [] pos) (fun D σ H => tbTry X e (wAs X.K c i (tsTry X r) W D) D σ H) :=
  ps_try_as hs hf hN hi hln hc tk (fun W' pn xe tk' pa => ⟨fun pins s σ H D I h => by
    obtain ⟨t, p1, q⟩ := h pn xe tk' pa
    exact (pss_one (ps_ret p1)).run pins s σ H D I q⟩) fun a oe cls dd pn hz hv => ⟨fun pins s σ H D I h => by
    obtain ⟨t, p1, q⟩ := h oe pn hz hv
    exact (pss_one (ps_ret p1)).run pins s σ H D I q⟩
/-- it hands back -/
theorem sd_try_ok (i : Nat) (tk : Takes X W) (hN : X.N.Nodup) (hc : Names X x c) (h : ∀ (pn : List (Addr × Obj)) (xe : Value → Shared → Prop), PEd (X.tr pn xe) tb e ds d) (hi : X.N[i]? = some n := by rfl) (hln : X.env.kindOf n = some .local := by rfl) (hs : X.stack = X.env :: X.outer := by rfl) (hf : X.env.frame = some X.env.locals := by rfl) :
    PSd X tb W (.Try [.Return (some e) rp] [.ExceptHandler (some (.Name x np)) (some n) [.Return (some r) rp2] pos'] [] [] pos) ds (.rt d) :=
  ⟨_, ps_tryRet tk hs hf hN hi hln hc, fun Hd0 H0 Hd H σ D S z => fun pn xe _ _ => by
    obtain ⟨t, p1, q⟩ := h pn xe
    exact ⟨t, p1, q Hd H σ S.env _ fun v Hd' H' g dv => z v Hd' H' (S.gr.trans g) (S.env.up g).tb dv⟩⟩
/-- it raises, and is caught -/
theorem sd_try_ex (i : Nat) {ce : Value} (tk : Takes X W) (hN : X.N.Nodup) (hc : Names X x c) (h : ∀ (W' : WX') (pn : List (Addr × Obj)) (xe : Value → Shared → Prop), Takes (X.tr pn xe) W' → PXd (X.tr pn xe) tb W' e ds ce) (hm : PySem.W.exmOne X.K ce c = some true)
    (hr : ∀ (a : Addr) (oe : Obj) (pn : List (Addr × Obj)), Zc ce none oe → (∃ vs, oe.data = .fields vs) → PEd (X.suite a ((a, oe) :: pn)) tb r (ds.set i (.val (.ref a))) d) (hi : X.N[i]? = some n := by rfl) (hln : X.env.kindOf n = some .local := by rfl) (hs : X.stack = X.env :: X.outer := by rfl) (hf : X.env.frame = some X.env.locals := by rfl) :
    PSd X tb W (.Try [.Return (some e) rp] [.ExceptHandler (some (.Name x np)) (some n) [.Return (some r) rp2] pos'] [] [] pos) ds (.rt d) :=
  ⟨_, ps_tryRet tk hs hf hN hi hln hc, fun Hd0 H0 Hd H σ D S z => fun pn xe tk' _ => by
    obtain ⟨t, p1, q⟩ := h _ pn xe tk'
    refine ⟨t, p1, q Hd H σ S.env _ fun Hd1 H1 g ht => ⟨true, hm, fun _ a ha => fun oe pn2 hz hv => ?_, fun z => nomatch z⟩⟩
    obtain ⟨t2, p2, q2⟩ := hr a oe pn2 hz hv
    refine ⟨t2, p2, q2 Hd1 H1 _ ((S.env.up g).set (s := .val (.ref a)) rfl fun _ z => nomatch z) _ fun v Hd2 H2 g2 dv => z v Hd2 H2 ((S.gr.trans g).trans g2) (((S.env.up g).up g2).tb) dv⟩⟩
/-- isinstance(e, T): e the exception that the suite holds -/
theorem ed_isE {a D : Addr} {oe : Obj} {pn : List (Addr × Obj)} {b : Bool} {v : V} {cv : Value} {T : Str} (i : Nat) (E : ExcC X.K D) (hz : Zc (.ref D) none oe) (hf : ∃ vs, oe.data = .fields vs) (hk : PySem.W.kitOne X.K (.ref D) cv = some b) (hv : ∀ u, RelV v u → u = cv)
    (hT : ∃ t, PE (X.suite a ((a, oe) :: pn)) (.Name T pT) t ∧ t = tC v) (hm : X.mg "isinstance" = none) (hd : ds[i]? = some (.val (.ref a)) := by rfl) (hN : X.N[i]? = some x := by rfl) (hvis : visB X.env.scope x = true := by rfl) (h1 : (x == ("__debug__" : Str)) = false := by decide) (h2 : (x == ("__classdict__" : Str)) = false := by decide)
    (hg : Gl X "isinstance" := by rfl) (hi : bootBuiltins "isinstance" = some (.builtin "isinstance") := by decide +kernel)
    (hs : starEach [.Name x pv, .Name T pT] X.env = (false, eval (.Name x pv) X.env) :: starEach [.Name T pT] X.env := by rfl) (hs2 : starEach [.Name T pT] X.env = (false, eval (.Name T pT) X.env) :: starEach [] X.env := by rfl) (hpl : (backTo pos (starEach [.Name T pT] X.env)).any (·.1) = false := by rfl) :
    PEd (X.suite a ((a, oe) :: pn)) tb (.Call (.Name "isinstance" p) [.Name x pv, .Name T pT] [] pos) ds (.bool b) := by
  obtain ⟨t, pT', rfl⟩ := hT
  refine ⟨_, pe_callB (X := X.suite a ((a, oe) :: pn)) (call_isE E hz hf) hg hm hi (pa_cons (pe_var (X := X.suite a ((a, oe) :: pn)) hN (visB_ok hvis) h1 h2) (pa_cons pT' pa_nil hs2) hs) (by decide) (by decide) hs hpl, fun Hd H σ E' Q z => ?_⟩
  obtain ⟨o, e1, e2⟩ := E'.sl i _ hd
  cases o with
  | none => exact e2.elim
  | some w =>
    have ew : w = .ref a := e2
    subst ew
    exact ⟨_, e1, v, cv, b, rfl, hv, hk, z _ Hd H (Gr.refl E'.dh) (.bl b)⟩
end
end DL
/-! DL20: x.extend(a tuple), x one's own; a text in a tuple of texts. -/
namespace DL
open PySem PySem.Spec PyProof.Rows L2
section
variable {X : Cx} {tb : List Addr} {W : WX'} {ds es : List Sl} {d e f : PyData} {a b : Expr} {pos p : Pos} {K : PySem.W.Frag} {x : Str} {apos : Pos}
theorem extend_tup (l : Addr) (items : Array Value) (n : Nat) (b : Addr) (items2 : Array Value) (n2 : Nat) (od : Option Addr) (osl : Array (Option Value)) (hs0 : ¬(!items.isEmpty && Builtin.List.listTooLong (items.size + items2.size)) = true) (hs1 : items.size ≤ sizeLine) (hs2 : items.size + items2.size ≤ sizeLine + 1) :
    Meets (Builtin.«list.extend» ⟨[.ref l, .ref b], []⟩) (fun _ R s => s.heap.get? l = some { cls := .type "list", dict := none, data := .seq items n, slots := #[] } ∧ s.heap.get? b = some { cls := .type "tuple", dict := od, data := .seq items2 n2, slots := osl } ∧ R (.ok (.ret Value.none)) { s with heap := s.heap.update l (Obj.mapSeq fun x => x ++ items2), toks := s.toks }) :=
  .of_wp fun prog w A R s h => by
    obtain ⟨hp, g, d, tk, os⟩ := s
    obtain ⟨hl, hb, h⟩ := h
    have f1 := PySem.AutoSeq1.idx_int
    have f2 := PySem.AutoSeq1.sub_tuple_tuple
    have f3 := PySem.AutoSeq1.sub_list_list
    have f4 := PySem.AutoSeq1.sub_tuple_list
    have f5 := PySem.AutoSeq1.sub_list_tuple
    have hz' : (items ++ items2).size ≤ sizeLine + 1 := by
      rw [Array.size_append]
      exact hs2
    wp_walk using (wpAny_updateSeq hl rfl (hz := hs1) (_hz' := hz')), PySem.AutoSeq1.wpAny_loadPart' hl, PySem.AutoSeq1.wpAny_loadPart' hb
    exact ⟨_, rfl, h⟩
def rExtendT (K : PySem.W.Frag) : V → List V → Hp → VK → Prop := fun x vs H Q => ∃ l b xs zs, x = .ref l ∧ vs = [.ref b] ∧ H l = some (.lst xs) ∧ SqT K H b zs ∧ xs.length + zs.length ≤ sizeLine ∧ Q .non (upd H l (.lst (xs ++ zs)))
theorem mt_extendT : MtM X "list.extend" (rExtendT X.K) := by
  intro pins s σ H x vs v us Q I rx rv h
  obtain ⟨l, b, xs, zs, rfl, rfl, hH, hB, hz, q⟩ := h
  cases rx
  obtain ⟨u, rfl, ru⟩ := rv.one
  cases ru
  obtain ⟨z, its, n, r, hl, e⟩ := I.lstM hH
  obtain ⟨its2, r2, ⟨⟨oc, od, odt, osl⟩, e2, hc2, n2, hd2⟩, hl2⟩ := I.tuple hB
  have len2 := r2.length
  dsimp only at hc2 hd2
  subst hc2 hd2
  have hsz : its.toArray.size + its2.toArray.size ≤ sizeLine := by rw [List.size_toArray, List.size_toArray]; omega
  have hlong : ¬ (!its.toArray.isEmpty && Builtin.List.listTooLong (its.toArray.size + its2.toArray.size)) = true := by
    rw [notLongL hsz, Bool.and_false]
    exact Bool.false_ne_true
  refine call_meets PySem.F.slot_list_extend ⟨_, e, rfl⟩ PySem.F.entry_list_extend (PySem.F.args_list_extend_2 _ _)
    (extend_tup l its.toArray n b its2.toArray n2 od osl hlong (by rw [List.size_toArray]; omega) (by omega)) ⟨e, e2, ?_⟩
  refine ⟨.non, _, I.lset (its' := its ++ its2) hH e (by simp) (r.append r2) ?_, rfl, q⟩
  rw [List.length_append]
  omega
theorem sd_extendT (i : Nat) {xs zs : List PyData} {p1 p2 : Pos} (h : PEd X tb a ds (.tuple zs)) (hz : xs.length + zs.length ≤ 1000000) (e : ds[i]? = some (.own xs) := by rfl) (hN : X.N[i]? = some x := by rfl) (hv : visB X.env.scope x = true := by rfl) (h1 : (x == ("__debug__" : Str)) = false := by decide)
    (h2 : (x == ("__classdict__" : Str)) = false := by decide) (hbase : attributeBase (.Name x p1) "extend" X.env (eval (.Name x p1) X.env) = eval (.Name x p1) X.env := by rfl)
    (hfew : ((backTo p2 (starEach [a] X.env)).all (fun x => !x.1) && (backToKw p2 (keywordEach [] X.env)).all (fun x => x.1.isSome)
      && decide ([a].length + ([] : List Keyword).length + (if ([] : List Keyword).isEmpty then 0 else 1) < 30)) = true := by rfl)
    (hline : (apos.endLine == p2.line) = true := by rfl) (hs : starEach [a] X.env = (false, eval a X.env) :: starEach [] X.env := by rfl) (hplain : (backTo p2 (starEach [] X.env)).any (·.1) = false := by rfl) (hsw : swapsWith (.Call (.Attribute (.Name x p1) "extend" apos) [a] [] p2) none pos.line X.env = pure false := by rfl) :
    PSd X tb W (.Expr (.Call (.Attribute (.Name x p1) "extend" apos) [a] [] p2) pos) ds (.nx (ds.set i (.own (xs ++ zs)))) := by
  obtain ⟨t, p, q⟩ := h
  refine ⟨_, ps_expr (pe_bm PySem.F.plainAttrs_list PySem.F.slot_list_extend PySem.F.type_list_extend mt_extendT (pe_var hN (visB_ok hv) h1 h2) (pa_cons p pa_nil hs) hbase hfew hline hs hplain) hsw, fun Hd0 H0 Hd H σ D S z => ?_⟩
  obtain ⟨l, vs, ea, hl, hd, hx⟩ := S.env.own e
  refine ⟨.ref l, ea, .inl ⟨rfl, vs, .inl (.inl hl)⟩, q Hd H σ S.env _ fun v Hd' H' g dv => ?_⟩
  have S' := S.up g
  obtain ⟨l2, vs2, ea2, hl2, hd2, hx2⟩ := S'.env.own e
  have el : l2 = l := V.ref.inj (Option.some.inj (Option.some.inj (ea2.symm.trans ea)))
  subst el
  cases dv with
  | @tup A ws _ k1 k2 =>
    refine ⟨l2, A, vs2, ws, rfl, rfl, hl2, st_sub g.h.s k1, by rw [dpa_len hx2, dpa_len k2]; exact Nat.le_trans hz (by decide), ?_⟩
    exact z σ Hd' _ (S'.putOwn e ea2 hl2 hd2 (dpa_app hx2 k2)) g.d
theorem rv_inStrT {neg : Bool} {z : Str} {ys : List Str} : RvD K tb (rIn K neg) (.str z) (.tuple (ys.map .str)) (.bool (if neg then !decide (z ∈ ys) else decide (z ∈ ys))) := fun Hd H x y D _ dx dy Q q => by
  cases dx
  cases dy with
  | @tup p vs _ k1 k2 =>
    have e := dpa_strs k2
    subst e
    refine ⟨p, _, rfl, .inr (st_sub D.s k1), rfl, strs_flat ys, ?_⟩
    rw [inV_strs]
    exact q _ Hd H (Gr.refl D) (.bl _)
theorem cmp_inStrT {z : Str} {ys : List Str} : CmpD X tb .In (.str z) (.tuple (ys.map .str)) (decide (z ∈ ys)) := ⟨⟨_, op_in_seq, rv_inStrT (neg := false)⟩⟩
end
end DL
/-! PT: the parts of a statement, in plain Lean. -/
namespace PT
open PySem PySem.Spec PyProof.Rows L2 DL LM RM
/-! ### equality -/
theorem eqv_s (a b : Str) : PyData.eqv (.str a) (.str b) = decide (a = b) := by
  show (a == b) = _
  by_cases h : a = b
  · rw [h, decide_eq_true rfl]; exact beq_self_eq_true b
  · rw [decide_eq_false h]; exact beq_eq_false_iff_ne.mpr h
theorem eqv_enc : ∀ s t : S, PyData.eqv (enc s) (enc t) = decide (s = t)
  | .nm v, .nm u => by
    show (PyData.eqv (.str "name") (.str "name") && (PyData.eqv (.str v) (.str u) && true)) = _
    rw [eqv_s, eqv_s]
    by_cases h : v = u <;> simp [h]
  | .nm v, .fls => by
    show (PyData.eqv (.str "name") (.str "false") && false) = _
    simp
  | .nm v, .bin o a b => by
    show (PyData.eqv (.str "name") (.str o.word) && (PyData.eqv (.str v) (enc a) && false)) = _
    simp
  | .fls, .nm u => by
    show (PyData.eqv (.str "false") (.str "name") && false) = _
    simp
  | .fls, .fls => by decide +kernel
  | .fls, .bin o a b => by
    show (PyData.eqv (.str "false") (.str o.word) && false) = _
    simp
  | .bin o a b, .nm u => by
    show (PyData.eqv (.str o.word) (.str "name") && (PyData.eqv (enc a) (.str u) && false)) = _
    simp
  | .bin o a b, .fls => by
    show (PyData.eqv (.str o.word) (.str "false") && false) = _
    simp
  | .bin o a b, .bin p c d => by
    show (PyData.eqv (.str o.word) (.str p.word) && (PyData.eqv (enc a) (enc c) && (PyData.eqv (enc b) (enc d) && true))) = _
    rw [eqv_s, eqv_enc a c, eqv_enc b d]
    have e : decide (o.word = p.word) = decide (o = p) := by cases o <;> cases p <;> decide +kernel
    rw [e]
    by_cases h1 : o = p <;> by_cases h2 : a = c <;> by_cases h3 : b = d <;> simp [h1, h2, h3]
theorem any_enc (s : S) : ∀ l : List S, ((l.map enc).any fun z => PyData.eqv z (enc s)) = decide (s ∈ l)
  | [] => rfl
  | t :: l => by
    show (PyData.eqv (enc t) (enc s) || ((l.map enc).any fun z => PyData.eqv z (enc s))) = _
    rw [eqv_enc, any_enc s l]
    by_cases h : t = s
    · simp [h]
    · have h2 : ¬ s = t := fun q => h q.symm
      simp [h, h2]
theorem eqvAll_encs : ∀ l : List S, PyData.eqvAll (l.map enc) (l.map enc) = true
  | [] => rfl
  | t :: l => by
    show (PyData.eqv (enc t) (enc t) && PyData.eqvAll (l.map enc) (l.map enc)) = true
    rw [eqv_enc, eqvAll_encs l, decide_eq_true rfl] <;> rfl
theorem eqv_encs (l : List S) : PyData.eqv (.list (l.map enc)) (.list (l.map enc)) = true := by
  show PyData.eqvAll (l.map enc) (l.map enc) = true
  exact eqvAll_encs l
/-! ### the parts, as the law goes -/
def lp : S → List S → List S
  | .nm v, f => if S.nm v ∈ f then f else f ++ [.nm v]
  | .fls, f => if S.fls ∈ f then f else f ++ [.fls]
  | .bin o a b, f => if S.bin o a b ∈ f then f else lp b (lp a f) ++ [.bin o a b]
/-! ### .. and as the program does: what was seen, what was found -/
def coll : S → List S × List S → List S × List S
  | .nm v, p => if S.nm v ∈ p.1 then p else (p.1 ++ [.nm v], p.2 ++ [.nm v])
  | .fls, p => if S.fls ∈ p.1 then p else (p.1 ++ [.fls], p.2 ++ [.fls])
  | .bin o a b, p => if S.bin o a b ∈ p.1 then p else
    ((coll b (coll a (p.1 ++ [.bin o a b], p.2))).1, (coll b (coll a (p.1 ++ [.bin o a b], p.2))).2 ++ [.bin o a b])
/-- only what is no deeper comes in -/
theorem coll_low : ∀ (s : S) (p : List S × List S) (x : S), dep s < dep x → (x ∈ (coll s p).1 ↔ x ∈ p.1) ∧ (x ∈ (coll s p).2 ↔ x ∈ p.2)
  | .nm v, p, x, h => by
    have ne : x ≠ .nm v := fun q => by rw [q] at h; exact absurd h (Nat.lt_irrefl _)
    unfold coll
    split
    · exact ⟨Iff.rfl, Iff.rfl⟩
    · simp [ne]
  | .fls, p, x, h => by
    have ne : x ≠ .fls := fun q => by rw [q] at h; exact absurd h (Nat.lt_irrefl _)
    unfold coll
    split
    · exact ⟨Iff.rfl, Iff.rfl⟩
    · simp [ne]
  | .bin o a b, p, x, h => by
    have ne : x ≠ .bin o a b := fun q => by rw [q] at h; exact absurd h (Nat.lt_irrefl _)
    have hd : max (dep a) (dep b) + 1 < dep x := h
    unfold coll
    split
    · exact ⟨Iff.rfl, Iff.rfl⟩
    · have i1 := coll_low a (p.1 ++ [.bin o a b], p.2) x (by omega)
      have i2 := coll_low b (coll a (p.1 ++ [.bin o a b], p.2)) x (by omega)
      refine ⟨?_, ?_⟩
      · show x ∈ (coll b _).1 ↔ _
        rw [i2.1, i1.1]
        simp [ne]
      · show x ∈ (coll b _).2 ++ [_] ↔ _
        rw [List.mem_append, i2.2, i1.2]
        simp [ne]
def Agree (n : Nat) (p : List S × List S) : Prop := ∀ x, dep x < n → (x ∈ p.1 ↔ x ∈ p.2)
theorem coll_lp : ∀ (s : S) (p : List S × List S) (n : Nat), dep s < n → Agree n p → (coll s p).2 = lp s p.2 ∧ Agree n (coll s p)
  | .nm v, p, n, h, g => by
    have e := g (.nm v) h
    unfold coll lp
    by_cases q : S.nm v ∈ p.1
    · rw [if_pos q, if_pos (e.mp q)]
      exact ⟨rfl, g⟩
    · rw [if_neg q, if_neg fun z => q (e.mpr z)]
      refine ⟨rfl, fun x hx => ?_⟩
      show x ∈ p.1 ++ [_] ↔ x ∈ p.2 ++ [_]
      rw [List.mem_append, List.mem_append, g x hx]
  | .fls, p, n, h, g => by
    have e := g .fls h
    unfold coll lp
    by_cases q : S.fls ∈ p.1
    · rw [if_pos q, if_pos (e.mp q)]
      exact ⟨rfl, g⟩
    · rw [if_neg q, if_neg fun z => q (e.mpr z)]
      refine ⟨rfl, fun x hx => ?_⟩
      show x ∈ p.1 ++ [_] ↔ x ∈ p.2 ++ [_]
      rw [List.mem_append, List.mem_append, g x hx]
  | .bin o a b, p, n, h, g => by
    have e := g (.bin o a b) h
    have hd : dep (.bin o a b) = max (dep a) (dep b) + 1 := rfl
    unfold coll lp
    by_cases q : S.bin o a b ∈ p.1
    · rw [if_pos q, if_pos (e.mp q)]
      exact ⟨rfl, g⟩
    · rw [if_neg q, if_neg fun z => q (e.mpr z)]
      have g0 : Agree (dep (.bin o a b)) (p.1 ++ [.bin o a b], p.2) := fun x hx => by
        have ne : x ≠ .bin o a b := fun z => by rw [z] at hx; exact absurd hx (Nat.lt_irrefl _)
        have := g x (by omega)
        show x ∈ p.1 ++ [_] ↔ x ∈ p.2
        rw [List.mem_append, this]
        simp [ne]
      obtain ⟨e1, g1⟩ := coll_lp a (p.1 ++ [.bin o a b], p.2) (dep (.bin o a b)) (by omega) g0
      obtain ⟨e2, g2⟩ := coll_lp b (coll a (p.1 ++ [.bin o a b], p.2)) (dep (.bin o a b)) (by omega) g1
      rw [e1] at e2
      refine ⟨by show (coll b _).2 ++ [_] = _; rw [e2], fun x hx => ?_⟩
      show x ∈ (coll b _).1 ↔ x ∈ (coll b _).2 ++ [_]
      by_cases hx2 : dep x < dep (.bin o a b)
      · have ne : x ≠ .bin o a b := fun z => by rw [z] at hx2; exact absurd hx2 (Nat.lt_irrefl _)
        rw [List.mem_append, g2 x hx2]
        simp [ne]
      · have i1 := coll_low a (p.1 ++ [.bin o a b], p.2) x (by omega)
        have i2 := coll_low b (coll a (p.1 ++ [.bin o a b], p.2)) x (by omega)
        rw [List.mem_append, i2.1, i2.2, i1.1, i1.2, List.mem_append, g x hx]
theorem coll_parts (s : S) : (coll s ([], [])).2 = lp s [] := (coll_lp s ([], []) (dep s + 1) (by omega) fun x _ => Iff.rfl).1
/-- how much comes -/
def sz : S → Nat
  | .nm _ => 1
  | .fls => 1
  | .bin _ a b => sz a + sz b + 1
theorem sz_u : ∀ s : S, sz s + 1 ≤ uN s
  | .nm v => by
    show 2 ≤ (wrL (.nm v)).length + 5
    omega
  | .fls => by decide
  | .bin o a b => by
    have h1 := sz_u a
    have h2 := sz_u b
    rw [uN_bin]
    show sz a + sz b + 1 + 1 ≤ _
    omega
theorem lp_len : ∀ (s : S) (f : List S), (lp s f).length ≤ f.length + sz s
  | .nm v, f => by
    unfold lp
    split
    · omega
    · rw [List.length_append]
      exact Nat.le_refl _
  | .fls, f => by
    unfold lp
    split
    · omega
    · rw [List.length_append]
      exact Nat.le_refl _
  | .bin o a b, f => by
    unfold lp
    split
    · omega
    · have h1 := lp_len a f
      have h2 := lp_len b (lp a f)
      rw [List.length_append]
      show _ + 1 ≤ _ + (sz a + sz b + 1)
      omega
theorem coll_len : ∀ (s : S) (p : List S × List S), (coll s p).1.length ≤ p.1.length + sz s ∧ (coll s p).2.length ≤ p.2.length + sz s
  | .nm v, p => by
    unfold coll
    split
    · exact ⟨Nat.le_add_right _ _, Nat.le_add_right _ _⟩
    · exact ⟨by rw [List.length_append]; exact Nat.le_refl _, by rw [List.length_append]; exact Nat.le_refl _⟩
  | .fls, p => by
    unfold coll
    split
    · exact ⟨Nat.le_add_right _ _, Nat.le_add_right _ _⟩
    · exact ⟨by rw [List.length_append]; exact Nat.le_refl _, by rw [List.length_append]; exact Nat.le_refl _⟩
  | .bin o a b, p => by
    unfold coll
    split
    · exact ⟨Nat.le_add_right _ _, Nat.le_add_right _ _⟩
    · have h1 := coll_len a (p.1 ++ [.bin o a b], p.2)
      have h2 := coll_len b (coll a (p.1 ++ [.bin o a b], p.2))
      have e : (p.1 ++ [S.bin o a b]).length = p.1.length + 1 := by rw [List.length_append] <;> rfl
      have h0 : (coll a (p.1 ++ [.bin o a b], p.2)).1.length ≤ p.1.length + 1 + sz a ∧ (coll a (p.1 ++ [.bin o a b], p.2)).2.length ≤ p.2.length + sz a := by
        refine ⟨?_, h1.2⟩
        rw [← e]
        exact h1.1
      refine ⟨?_, ?_⟩
      · show (coll b _).1.length ≤ p.1.length + (sz a + sz b + 1)
        omega
      · show ((coll b _).2 ++ [_]).length ≤ p.2.length + (sz a + sz b + 1)
        rw [List.length_append]
        show _ + 1 ≤ _
        omega
/-- all that stands in the lists is well made, no deeper than n -/
def Good (n : Nat) (l : List S) : Prop := ∀ x ∈ l, Ok x ∧ dep x ≤ n
theorem Good.app {n : Nat} {l : List S} (h : Good n l) {s : S} (h1 : Ok s) (h2 : dep s ≤ n) : Good n (l ++ [s]) := fun x hx => by
  rcases List.mem_append.mp hx with hx | hx
  · exact h x hx
  · rw [List.mem_singleton.mp hx]
    exact ⟨h1, h2⟩
theorem lp_good {n : Nat} : ∀ (s : S) (f : List S), Ok s → dep s ≤ n → Good n f → Good n (lp s f)
  | .nm v, f, h1, h2, h3 => by
    unfold lp
    split
    · exact h3
    · exact h3.app h1 h2
  | .fls, f, h1, h2, h3 => by
    unfold lp
    split
    · exact h3
    · exact h3.app h1 h2
  | .bin o a b, f, h1, h2, h3 => by
    have hd : max (dep a) (dep b) + 1 ≤ n := h2
    unfold lp
    split
    · exact h3
    · exact (lp_good b _ h1.2 (by omega) (lp_good a f h1.1 (by omega) h3)).app h1 h2
theorem coll_good {n : Nat} : ∀ (s : S) (p : List S × List S), Ok s → dep s ≤ n → Good n p.1 → Good n p.2 → Good n (coll s p).1 ∧ Good n (coll s p).2
  | .nm v, p, h1, h2, h3, h4 => by
    unfold coll
    split
    · exact ⟨h3, h4⟩
    · exact ⟨h3.app h1 h2, h4.app h1 h2⟩
  | .fls, p, h1, h2, h3, h4 => by
    unfold coll
    split
    · exact ⟨h3, h4⟩
    · exact ⟨h3.app h1 h2, h4.app h1 h2⟩
  | .bin o a b, p, h1, h2, h3, h4 => by
    have hd : max (dep a) (dep b) + 1 ≤ n := h2
    unfold coll
    split
    · exact ⟨h3, h4⟩
    · obtain ⟨i1, i2⟩ := coll_good a (p.1 ++ [.bin o a b], p.2) h1.1 (by omega) (h3.app h1 h2) h4
      obtain ⟨j1, j2⟩ := coll_good b (coll a (p.1 ++ [.bin o a b], p.2)) h1.2 (by omega) i1 i2
      exact ⟨j1, j2.app h1 h2⟩
theorem deps_le {n : Nat} : ∀ {l : List S}, Good n l → deps l ≤ n
  | [], _ => Nat.zero_le _
  | s :: r, h => by
    have h1 := (h s List.mem_cons_self).2
    have h2 : deps r ≤ n := deps_le (fun x hx => h x (List.mem_cons_of_mem _ hx))
    show max (dep s) (deps r) ≤ n
    omega
theorem Good.shaped {n : Nat} {l : List S} (h : Good n l) (hn : n ≤ 60) : SeqAt.shaped (.list (l.map enc)) = true := encs_shaped (fun s hs => (h s hs).1) (Nat.le_trans (deps_le h) (by omega))
/-! ### the beginning of a statement: words along the first parts -/
def spW : S → List Str
  | .bin o a _ => o.word :: spW a
  | _ => []
def spE : S → S
  | .bin _ a _ => spE a
  | s => s
def tailW : S → List Str
  | .nm v => ["name", v]
  | .fls => ["false"]
  | .bin _ _ _ => []
def begW (s : S) : List Str := spW s ++ tailW (spE s)
def begT (s : S) : Str := Txt.join " " (begW s)
def nthA : S → Nat → S
  | s, 0 => s
  | .bin _ a _, n + 1 => nthA a n
  | s, _ + 1 => s
theorem spW_len : ∀ s : S, (spW s).length < dep s
  | .nm _ => Nat.zero_lt_one
  | .fls => Nat.zero_lt_one
  | .bin o a b => by
    have := spW_len a
    show (spW a).length + 1 < max (dep a) (dep b) + 1
    omega
theorem nthA_end : ∀ s : S, nthA s (spW s).length = spE s
  | .nm _ => rfl
  | .fls => rfl
  | .bin o a b => nthA_end a
theorem nthA_ok : ∀ (s : S) (n : Nat), Ok s → Ok (nthA s n)
  | s, 0, h => by cases s <;> exact h
  | .nm _, n + 1, h => h
  | .fls, n + 1, h => h
  | .bin o a b, n + 1, h => nthA_ok a n h.1
theorem nthA_at : ∀ (s : S) (i : Nat), i < (spW s).length → ∃ o a b, nthA s i = .bin o a b ∧ nthA s (i + 1) = a ∧ (spW s)[i]? = some o.word
  | .nm _, i, h => absurd h (Nat.not_lt_zero _)
  | .fls, i, h => absurd h (Nat.not_lt_zero _)
  | .bin o a b, 0, _ => ⟨o, a, b, rfl, by show nthA a 0 = a; cases a <;> rfl, rfl⟩
  | .bin o a b, i + 1, h => by
    have h' : i + 1 < (spW a).length + 1 := h
    obtain ⟨p, c, d, e1, e2, e3⟩ := nthA_at a i (by omega)
    exact ⟨p, c, d, e1, e2, e3⟩
theorem spE_no : ∀ s : S, (∃ v, spE s = .nm v) ∨ spE s = .fls
  | .nm v => .inl ⟨v, rfl⟩
  | .fls => .inr rfl
  | .bin _ a _ => spE_no a
theorem word_len (o : Op) : o.word.length ≤ 8 := by cases o <;> decide +kernel
theorem spW_small : ∀ s : S, ∀ w ∈ spW s, w.length ≤ 8
  | .nm _, w, h => by cases h
  | .fls, w, h => by cases h
  | .bin o a b, w, h => by
    rcases List.mem_cons.mp h with rfl | h
    · exact word_len o
    · exact spW_small a w h
theorem spE_ok : ∀ s : S, Ok s → Ok (spE s)
  | .nm _, h => h
  | .fls, h => h
  | .bin _ a _, h => spE_ok a h.1
theorem begW_small {s : S} (h : Ok s) : ∀ w ∈ begW s, w.length ≤ 8 := fun w hw => by
  rcases List.mem_append.mp hw with hw | hw
  · exact spW_small s w hw
  · have ho := spE_ok s h
    rcases spE_no s with ⟨v, e⟩ | e
    · rw [e] at hw ho
      rcases List.mem_cons.mp hw with rfl | hw
      · decide +kernel
      · rw [List.mem_singleton.mp hw]
        exact ho.2.1
    · rw [e] at hw
      rw [List.mem_singleton.mp hw]
      decide +kernel
theorem begW_len (s : S) : (begW s).length ≤ dep s + 2 := by
  have h := spW_len s
  unfold begW
  rw [List.length_append]
  rcases spE_no s with ⟨v, e⟩ | e
  · rw [e]
    show _ + 2 ≤ _
    omega
  · rw [e]
    show _ + 1 ≤ _
    omega
theorem sum_small : ∀ l : List Str, (∀ w ∈ l, w.length ≤ 8) → (l.map (·.length)).sum ≤ 8 * l.length
  | [], _ => Nat.le_refl _
  | w :: r, h => by
    have h1 := h w List.mem_cons_self
    have h2 := sum_small r fun x hx => h x (List.mem_cons_of_mem _ hx)
    rw [List.map_cons, List.sum_cons, List.length_cons]
    omega
end PT
/-! DW: a shelf of rows by key, and a list of what was found, in the heap. -/
namespace PT
open PySem PySem.Spec PyProof.Rows L2 DL LM RM
/-- the row of a key -/
def rowOf (seen : List S) (k : Str) : List S := seen.filter fun x => decide (begT x = k)
theorem mem_row {seen : List S} {s : S} : s ∈ rowOf seen (begT s) ↔ s ∈ seen := by
  unfold rowOf
  rw [List.mem_filter]
  simp
theorem row_app (seen : List S) (s : S) (k : Str) : rowOf (seen ++ [s]) k = if k = begT s then rowOf seen k ++ [s] else rowOf seen k := by
  unfold rowOf
  rw [List.filter_append]
  by_cases h : k = begT s
  · rw [if_pos h, h]
    simp
  · rw [if_neg h]
    have h2 : ¬ begT s = k := fun q => h q.symm
    simp [h2]
structure Rows (K : PySem.W.Frag) (H0 Hd H : Hp) (fo : Addr) (kvs : List (Key × V)) (seen : List S) : Prop where
  there : ∀ (k : Str) (v : V), valV kvs (Sum.inr k : Key) = some v → ∃ l vs, v = .ref l ∧ H l = some (.lst vs) ∧ Hd l = none ∧ l ≠ fo ∧ DpAll K Hd vs ((rowOf seen k).map enc) ∧ H0 l = none
  no : ∀ k : Str, valV kvs (Sum.inr k : Key) = none → rowOf seen k = []
  inj : ∀ (k1 k2 : Str) (l : Addr), valV kvs (Sum.inr k1 : Key) = some (.ref l) → valV kvs (Sum.inr k2 : Key) = some (.ref l) → k1 = k2
structure Wd (K : PySem.W.Frag) (tb : List Addr) (C sh r fo : Addr) (Hd0 H0 : Hp) (m : Nat) (Hd H : Hp) (seen found : List S) : Prop where
  gr : Gr Hd0 H0 Hd H
  tb : ∀ P ∈ tb, GxR.TabG H P
  ob : ∃ dx, H sh = some (.ins C dx [("rows", .ref r)])
  hfo : ∃ vs, H fo = some (.lst vs) ∧ DpAll K Hd vs (found.map enc)
  nfo : Hd fo = none
  nr : Hd r = none
  ffo : H0 fo = none
  fr : H0 r = none
  rows : ∃ kvs, H r = some (.dK kvs) ∧ kvs.length ≤ m ∧ Rows K H0 Hd H fo kvs seen
theorem Wd.dh {K : PySem.W.Frag} {tb : List Addr} {C sh r fo : Addr} {Hd0 H0 : Hp} {m : Nat} {Hd H : Hp} {seen found : List S} (h : Wd K tb C sh r fo Hd0 H0 m Hd H seen found) : DH Hd H := h.gr.h
/-- what a step may do -/
structure Ste (Hd H Hd' H' : Hp) : Prop where
  d : Sub Hd Hd'
  n : ∀ a, H' a = none → H a = none
theorem Ste.refl (Hd H : Hp) : Ste Hd H Hd H := ⟨Sub.refl _, fun _ h => h⟩
theorem Ste.trans {A a B b C c : Hp} (h : Ste A a B b) (k : Ste B b C c) : Ste A a C c := ⟨h.d.trans k.d, fun x e => h.n x (k.n x e)⟩
theorem Ste.of {Hd H Hd' H' : Hp} (g : Gr Hd H Hd' H') : Ste Hd H Hd' H' := ⟨g.d, g.e.n⟩
section
variable {K : PySem.W.Frag} {tb : List Addr} {C sh r fo : Addr} {Hd0 H0 : Hp} {m : Nat} {Hd H Hd' H' : Hp} {seen found : List S}
theorem Wd.up (h : Wd K tb C sh r fo Hd0 H0 m Hd H seen found) (g : Gr Hd H Hd' H') : Wd K tb C sh r fo Hd0 H0 m Hd' H' seen found := by
  obtain ⟨dx, h1⟩ := h.ob
  obtain ⟨vs, h2, h3⟩ := h.hfo
  obtain ⟨kvs, h4, h5, R⟩ := h.rows
  refine ⟨h.gr.trans g, fun P hp => g.e.t P (h.tb P hp), ⟨dx, g.e.k _ _ h1 (fun _ z => nomatch z)⟩, ⟨vs, g.e.k _ _ h2 (fun _ z => nomatch z), DpAll.up h3 g.d⟩, g.f _ h.nfo (by rw [h2]; exact fun z => nomatch z), g.f _ h.nr (by rw [h4]; exact fun z => nomatch z), h.ffo, h.fr, kvs, g.e.k _ _ h4 (fun _ z => nomatch z), h5, ⟨fun k v e => ?_, R.no, R.inj⟩⟩
  obtain ⟨l, us, e1, e2, e3, e4, e5, e6⟩ := R.there k v e
  exact ⟨l, us, e1, g.e.k _ _ e2 (fun _ z => nomatch z), g.f _ e3 (by rw [e2]; exact fun z => nomatch z), e4, DpAll.up e5 g.d, e6⟩
theorem Wd.more {n : Nat} (h : Wd K tb C sh r fo Hd0 H0 m Hd H seen found) (hn : m ≤ n) : Wd K tb C sh r fo Hd0 H0 n Hd H seen found :=
  ⟨h.gr, h.tb, h.ob, h.hfo, h.nfo, h.nr, h.ffo, h.fr, let ⟨kvs, h4, h5, R⟩ := h.rows; ⟨kvs, h4, Nat.le_trans h5 hn, R⟩⟩
theorem tab_upd {p : Addr} {o : HO} {P : Addr} (h : GxR.TabG H P) (hp : ∀ ps, H p ≠ some (.tbl ps)) : GxR.TabG (upd H p o) P := by
  obtain ⟨ps, e, t⟩ := h
  have n : P ≠ p := fun q => hp ps (by rw [← q]; exact e)
  exact ⟨ps, by rw [upd_ne n]; exact e, t⟩
theorem dh_upd {p : Addr} {o : HO} (h : DH Hd H) (hp : Hd p = none) : DH Hd (upd H p o) := ⟨fun b u e => by
  have n : b ≠ p := fun q => by rw [q, hp] at e; cases e
  rw [upd_ne n]
  exact h.s b u e, h.nt⟩
theorem gr_upd {Hd0 H0 Hd H : Hp} {p : Addr} {o : HO} (h : Gr Hd0 H0 Hd H) (h0 : H0 p = none) (hp : Hd p = none) : Gr Hd0 H0 Hd (upd H p o) where
  d := h.d
  h := dh_upd h.h hp
  e := ⟨fun a u e n => by
    rw [upd_ne (ne_of_none e h0)]
    exact h.e.k a u e n, fun a ⟨ps, e, t⟩ => by
    obtain ⟨qs, e1, t1⟩ := h.e.t a ⟨ps, e, t⟩
    exact ⟨qs, by rw [upd_ne (ne_of_none e h0)]; exact e1, t1⟩, fun a e => h.e.n a (by
    by_cases q : a = p
    · rw [q, upd_same] at e
      cases e
    · rw [upd_ne q] at e
      exact e)⟩
  f := h.f
theorem n_upd {p : Addr} {o : HO} {a : Addr} (h : upd H p o a = none) : H a = none := by
  by_cases q : a = p
  · rw [q, upd_same] at h
    cases h
  · rw [upd_ne q] at h
    exact h
/-- a new row of nothing -/
theorem Wd.addRow (h : Wd K tb C sh r fo Hd0 H0 m Hd H seen found) {p : Addr} {kvs : List (Key × V)} {k : Str} (hp : H p = some (.lst [])) (hd : Hd p = none) (h0 : H0 p = none) (hf : p ≠ fo) (hnew : ∀ j, valV kvs (Sum.inr j : Key) ≠ some (.ref p)) (hr : H r = some (.dK kvs)) (hk : valV kvs (Sum.inr k : Key) = none) :
    Wd K tb C sh r fo Hd0 H0 (m + 1) Hd (upd H r (.dK (putK kvs (Sum.inr k : Key) (.ref p)))) seen found := by
  obtain ⟨dx, h1⟩ := h.ob
  obtain ⟨vs, h2, h3⟩ := h.hfo
  obtain ⟨kvs', h4, h5, R⟩ := h.rows
  have ek : kvs' = kvs := by
    rw [h4] at hr
    cases hr
    rfl
  subst ek
  have ne : ∀ {a : Addr} {xs : List V}, H a = some (.lst xs) → a ≠ r := fun {a xs} e q => by rw [q, h4] at e; cases e
  have nsh : sh ≠ r := fun q => by rw [q, h4] at h1; cases h1
  refine ⟨gr_upd h.gr h.fr h.nr, fun P hP => tab_upd (h.tb P hP) (fun ps z => by rw [h4] at z; cases z), ⟨dx, by rw [upd_ne nsh]; exact h1⟩, ⟨vs, by rw [upd_ne (ne h2)]; exact h2, h3⟩, h.nfo, h.nr, h.ffo, h.fr, _, upd_same, Nat.le_trans (length_putK _ _ _) (by omega), ⟨fun j v e => ?_, fun j e => ?_, fun j1 j2 l e1 e2 => ?_⟩⟩
  · rw [valV_put] at e
    split at e
    · rename_i q
      have q : j = k := Sum.inr.inj q
      cases e
      refine ⟨p, [], rfl, by rw [upd_ne (ne hp)]; exact hp, hd, hf, ?_, h0⟩
      rw [q, R.no k hk]
      exact .nil
    · obtain ⟨l, us, e1, e2, e3, e4, e5, e6⟩ := R.there j v e
      exact ⟨l, us, e1, by rw [upd_ne (ne e2)]; exact e2, e3, e4, e5, e6⟩
  · rw [valV_put] at e
    split at e
    · cases e
    · exact R.no j e
  · rw [valV_put] at e1 e2
    split at e1
    · rename_i q1
      split at e2
      · rename_i q2
        exact (Sum.inr.inj q1).trans (Sum.inr.inj q2).symm
      · cases e1
        exact absurd e2 (hnew j2)
    · split at e2
      · cases e2
        exact absurd e1 (hnew j1)
      · exact R.inj j1 j2 l e1 e2
/-- one more in its row -/
theorem Wd.push (h : Wd K tb C sh r fo Hd0 H0 m Hd H seen found) {kvs : List (Key × V)} {l : Addr} {vs : List V} {s : S} {v : V} (hr : H r = some (.dK kvs)) (hk : valV kvs (Sum.inr (begT s) : Key) = some (.ref l)) (hl : H l = some (.lst vs)) (hv : Dp K Hd v (enc s)) :
    Wd K tb C sh r fo Hd0 H0 m Hd (upd H l (.lst (vs ++ [v]))) (seen ++ [s]) found := by
  obtain ⟨dx, h1⟩ := h.ob
  obtain ⟨ws, h2, h3⟩ := h.hfo
  obtain ⟨kvs', h4, h5, R⟩ := h.rows
  have ek : kvs' = kvs := by
    rw [h4] at hr
    cases hr
    rfl
  subst ek
  obtain ⟨l', us, e1, e2, e3, e4, e5, e6⟩ := R.there _ _ hk
  cases e1
  have eu : us = vs := by
    rw [e2] at hl
    cases hl
    rfl
  subst eu
  have nr : r ≠ l := fun q => by rw [q, e2] at h4; cases h4
  have nsh : sh ≠ l := fun q => by rw [q, e2] at h1; cases h1
  refine ⟨gr_upd h.gr e6 e3, fun P hP => tab_upd (h.tb P hP) (fun ps z => by rw [e2] at z; cases z), ⟨dx, by rw [upd_ne nsh]; exact h1⟩, ⟨ws, by rw [upd_ne e4.symm]; exact h2, h3⟩, h.nfo, h.nr, h.ffo, h.fr, kvs', by rw [upd_ne nr]; exact h4, h5, ⟨fun j u e => ?_, fun j e => ?_, R.inj⟩⟩
  · obtain ⟨l2, us2, g1, g2, g3, g4, g5, g6⟩ := R.there j u e
    by_cases q : l2 = l
    · rw [g1, q] at e
      have ej := R.inj j _ l e hk
      refine ⟨l2, us ++ [v], g1, by rw [q, upd_same], g3, g4, ?_, g6⟩
      rw [row_app, if_pos ej, List.map_append, ej]
      exact dpa_app e5 (.cons hv .nil)
    · refine ⟨l2, us2, g1, by rw [upd_ne q]; exact g2, g3, g4, ?_, g6⟩
      have nj : ¬ j = begT s := fun z => by
        rw [z, hk] at e
        rw [g1] at e
        cases e
        exact q rfl
      rw [row_app, if_neg nj]
      exact g5
  · have nj : ¬ j = begT s := fun z => by
      rw [z, hk] at e
      cases e
    rw [row_app, if_neg nj]
    exact R.no j e
/-- one more found -/
theorem Wd.find (h : Wd K tb C sh r fo Hd0 H0 m Hd H seen found) {vs : List V} {s : S} {v : V} (hf : H fo = some (.lst vs)) (hv : Dp K Hd v (enc s)) :
    Wd K tb C sh r fo Hd0 H0 m Hd (upd H fo (.lst (vs ++ [v]))) seen (found ++ [s]) := by
  obtain ⟨dx, h1⟩ := h.ob
  obtain ⟨ws, h2, h3⟩ := h.hfo
  obtain ⟨kvs, h4, h5, R⟩ := h.rows
  have ew : ws = vs := by
    rw [h2] at hf
    cases hf
    rfl
  subst ew
  have nr : r ≠ fo := fun q => by rw [q, h2] at h4; cases h4
  have nsh : sh ≠ fo := fun q => by rw [q, h2] at h1; cases h1
  refine ⟨gr_upd h.gr h.ffo h.nfo, fun P hP => tab_upd (h.tb P hP) (fun ps z => by rw [h2] at z; cases z), ⟨dx, by rw [upd_ne nsh]; exact h1⟩, ⟨ws ++ [v], upd_same, ?_⟩, h.nfo, h.nr, h.ffo, h.fr, kvs, by rw [upd_ne nr]; exact h4, h5, ⟨fun j u e => ?_, R.no, R.inj⟩⟩
  · rw [List.map_append]
    exact dpa_app h3 (.cons hv .nil)
  · obtain ⟨l, us, g1, g2, g3, g4, g5, g6⟩ := R.there j u e
    exact ⟨l, us, g1, by rw [upd_ne g4]; exact g2, g3, g4, g5, g6⟩
end
end PT
namespace PT
open PySem PySem.Spec PyProof.Rows L2 DL LM RM
def halvesS : S → List S
  | .bin _ a b => [a, b]
  | _ => []
def szs (l : List S) : Nat := (l.map sz).sum
def foldC (l : List S) (p : List S × List S) : List S × List S := l.foldl (fun p h => coll h p) p
theorem coll_in {s : S} {p : List S × List S} (h : s ∈ p.1) : coll s p = p := by cases s <;> (unfold coll; exact if_pos h)
theorem coll_out {s : S} {p : List S × List S} (h : s ∉ p.1) : coll s p = ((foldC (halvesS s) (p.1 ++ [s], p.2)).1, (foldC (halvesS s) (p.1 ++ [s], p.2)).2 ++ [s]) := by cases s <;> (unfold coll; exact if_neg h)
theorem szs_halves (s : S) : szs (halvesS s) + 1 = sz s := by
  cases s with
  | nm v => rfl
  | fls => rfl
  | bin o a b =>
    show (sz a + (sz b + 0)) + 1 = sz a + sz b + 1
    omega
theorem szs_snoc (l : List S) (h : S) : szs (l ++ [h]) = szs l + sz h := by
  unfold szs
  rw [List.map_append, List.sum_append]
  show _ + (sz h + 0) = _
  omega
theorem szs_app (l k : List S) : szs (l ++ k) = szs l + szs k := by
  unfold szs
  rw [List.map_append, List.sum_append]
theorem take_snoc {l : List S} {i : Nat} {h : S} (e : l[i]? = some h) : l.take (i + 1) = l.take i ++ [h] := by rw [List.take_add_one, e] <;> rfl
theorem szs_take (l : List S) (i : Nat) : szs (l.take i) ≤ szs l := by
  have e := szs_app (l.take i) (l.drop i)
  rw [List.take_append_drop] at e
  omega
theorem foldC_snoc (l : List S) (h : S) (p : List S × List S) : foldC (l ++ [h]) p = coll h (foldC l p) := by
  unfold foldC
  rw [List.foldl_append] <;> rfl
theorem foldC_len : ∀ (l : List S) (p : List S × List S), (foldC l p).1.length ≤ p.1.length + szs l ∧ (foldC l p).2.length ≤ p.2.length + szs l
  | [], p => ⟨Nat.le_add_right _ _, Nat.le_add_right _ _⟩
  | h :: l, p => by
    have h1 := coll_len h p
    have h2 := foldC_len l (coll h p)
    have e : szs (h :: l) = sz h + szs l := by
      unfold szs
      rw [List.map_cons, List.sum_cons]
    rw [e]
    show (foldC l (coll h p)).1.length ≤ _ ∧ (foldC l (coll h p)).2.length ≤ _
    omega
theorem foldC_good {n : Nat} : ∀ (l : List S) (p : List S × List S), (∀ x ∈ l, Ok x ∧ dep x ≤ n) → Good n p.1 → Good n p.2 → Good n (foldC l p).1 ∧ Good n (foldC l p).2
  | [], p, _, h1, h2 => ⟨h1, h2⟩
  | h :: l, p, hl, h1, h2 => by
    obtain ⟨a, b⟩ := hl h List.mem_cons_self
    obtain ⟨g1, g2⟩ := coll_good h p a b h1 h2
    exact foldC_good l (coll h p) (fun x hx => hl x (List.mem_cons_of_mem _ hx)) g1 g2
theorem halves_ok {s h : S} {n : Nat} (hs : h ∈ halvesS s) (hok : Ok s) (hd : dep s ≤ n + 1) : Ok h ∧ dep h ≤ n := by
  cases s with
  | nm v => cases hs
  | fls => cases hs
  | bin o a b =>
    have hd : max (dep a) (dep b) + 1 ≤ n + 1 := hd
    rcases List.mem_cons.mp hs with rfl | hs
    · exact ⟨hok.1, by omega⟩
    · rw [List.mem_singleton.mp hs]
      exact ⟨hok.2, by omega⟩
end PT
/-! DL21: one's own list looked at; reversed; got from a call. -/
namespace DL
open PySem PySem.Spec PyProof.Rows L2
section
variable {K : PySem.W.Frag} {tb : List Addr} {Hd0 H0 Hd H : Hp} {σ : L2.St} {ds : List Sl}
theorem Env.freeze (S : Env K tb Hd H σ ds) {i : Nat} {xs : List PyData} (e : ds[i]? = some (.own xs)) : ∃ (a : Addr) (vs : List V), σ[i]? = some (some (.ref a)) ∧ H a = some (.lst vs) ∧ Hd a = none ∧ Env K tb (upd Hd a (.lst vs)) H σ (ds.set i (.dat (.list xs))) := by
  obtain ⟨a, vs, ea, hl, hd, hx⟩ := S.own e
  have il : i < ds.length := (List.getElem?_eq_some_iff.mp e).1
  have s : Sub Hd (upd Hd a (.lst vs)) := fun b o q => by rw [upd_ne (ne_of_none q hd)]; exact q
  have D : DH (upd Hd a (.lst vs)) H := ⟨fun b o q => by
      by_cases z : b = a
      · rw [z, upd_same] at q
        rw [z, hl, q]
      · rw [upd_ne z] at q
        exact S.dh.s b o q, fun b ps q => by
      by_cases z : b = a
      · rw [z, upd_same] at q
        cases q
      · rw [upd_ne z] at q
        exact S.dh.nt b ps q⟩
  refine ⟨a, vs, ea, hl, hd, by rw [List.length_set]; exact S.len, D, S.tb, fun j t q => ?_, fun j k zs ws' b n e1 e2 e3 e4 => ?_⟩
  · by_cases q1 : i = j
    · subst q1
      rw [List.getElem?_set_self il] at q
      cases q
      exact ⟨_, ea, .lst (.inl (.inl upd_same)) (DpAll.up hx s)⟩
    · rw [List.getElem?_set_ne q1] at q
      obtain ⟨oo, k1, k2⟩ := S.sl j t q
      refine ⟨oo, k1, ?_⟩
      cases t with
      | no => cases oo <;> trivial
      | dat d =>
        cases oo with
        | none => exact k2.elim
        | some v => exact Dp.up k2 s
      | val w => cases oo <;> exact k2
      | hp φ st =>
        cases oo with
        | none => exact k2.elim
        | some v => exact st v _ _ s k2
      | own zs =>
        cases oo with
        | none => exact k2.elim
        | some v =>
          obtain ⟨b, us, f1, f2, f3, f4⟩ := k2
          have nb : b ≠ a := fun z => by
            rw [f1, z] at k1
            exact S.ap i j xs zs a q1 e q ea k1
          exact ⟨b, us, f1, f2, by rw [upd_ne nb]; exact f3, DpAll.up f4 s⟩
  · have n1 : i ≠ j := fun q => by
      subst q
      rw [List.getElem?_set_self il] at e1
      cases e1
    have n2 : i ≠ k := fun q => by
      subst q
      rw [List.getElem?_set_self il] at e2
      cases e2
    rw [List.getElem?_set_ne n1] at e1
    rw [List.getElem?_set_ne n2] at e2
    exact S.ap j k zs ws' b n e1 e2 e3 e4
def without (H : Hp) (a : Addr) : Hp := fun b => if b = a then none else H b
theorem Gr.unpeek {Hd' H' : Hp} {a : Addr} {o : HO} (hd : Hd a = none) (g : Gr (upd Hd a o) H Hd' H') : Gr Hd H (without Hd' a) H' where
  d := fun b u e => by
    have n := ne_of_none e hd
    show (if b = a then none else Hd' b) = some u
    rw [if_neg n]
    exact g.d b u (by rw [upd_ne n]; exact e)
  h := ⟨fun b u e => by
    have e : (if b = a then none else Hd' b) = some u := e
    split at e
    · cases e
    · exact g.h.s b u e, fun b ps e => by
    have e : (if b = a then none else Hd' b) = some (.tbl ps) := e
    split at e
    · cases e
    · exact g.h.nt b ps e⟩
  e := g.e
  f := fun b e n => by
    show (if b = a then none else Hd' b) = none
    by_cases q : b = a
    · rw [if_pos q]
    · rw [if_neg q]
      exact g.f b (by rw [upd_ne q]; exact e) n
theorem State.getOwn {Hd' H' : Hp} {fo : Addr} {ws : List V} {xs : List PyData} (S : State K tb Hd0 H0 Hd H σ ds) (i : Nat) (g : Gr Hd H Hd' H') (hf : H fo = none) (hn : Hd' fo = none) (hl : H' fo = some (.lst ws)) (hd : DpAll K Hd' ws xs) :
    State K tb Hd0 H0 Hd' H' (σ.set i (some (.ref fo))) (ds.set i (.own xs)) := by
  have E := S.env.up g
  have h00 : H0 fo = none := S.gr.e.n fo hf
  refine ⟨⟨by rw [List.length_set, List.length_set]; exact E.len, E.dh, E.tb, fun j t e => ?_, fun j k xs ys a n e1 e2 e3 e4 => ?_⟩, S.gr.trans g, fun j xs a e1 e2 => ?_⟩
  · by_cases qq : i = j
    · subst qq
      have hil : i < ds.length := by
        have := (List.getElem?_eq_some_iff.mp e).1
        rw [List.length_set] at this
        exact this
      rw [List.getElem?_set_self hil] at e
      cases e
      exact ⟨_, List.getElem?_set_self (by rw [E.len]; exact hil), fo, ws, rfl, hl, hn, hd⟩
    · rw [List.getElem?_set_ne qq] at e
      obtain ⟨oo, k1, k2⟩ := E.sl j t e
      exact ⟨oo, by rw [List.getElem?_set_ne qq]; exact k1, k2⟩
  · have fresh : ∀ (m : Nat) (zs : List PyData), i ≠ m → (ds.set i (.own xs))[m]? = some (.own zs) → (σ.set i (some (.ref fo)))[m]? = some (some (.ref fo)) → False := fun m zs hne f1 f2 => by
      rw [List.getElem?_set_ne hne] at f1 f2
      obtain ⟨b, vs, f3, f4, _, _⟩ := S.env.own f1
      rw [f2] at f3
      have eb : fo = b := V.ref.inj (Option.some.inj (Option.some.inj f3))
      rw [← eb, hf] at f4
      cases f4
    have fresh2 : ∀ (m : Nat) (zs : List PyData), i ≠ m → ds[m]? = some (.own zs) → σ[m]? = some (some (.ref fo)) → False := fun m zs hne f1 f2 => by
      obtain ⟨b, vs, f3, f4, _, _⟩ := S.env.own f1
      rw [f2] at f3
      have eb : fo = b := V.ref.inj (Option.some.inj (Option.some.inj f3))
      rw [← eb, hf] at f4
      cases f4
    have self : ∀ {t : Option V}, (σ.set i (some (V.ref fo)))[i]? = some t → t = some (.ref fo) := fun {t} f => by
      have hil : i < σ.length := by
        have := (List.getElem?_eq_some_iff.mp f).1
        rw [List.length_set] at this
        exact this
      rw [List.getElem?_set_self hil] at f
      exact (Option.some.inj f).symm
    by_cases q1 : i = j
    · subst q1
      have ea : a = fo := V.ref.inj (Option.some.inj (self e3))
      subst ea
      rw [List.getElem?_set_ne n] at e2 e4
      exact fresh2 k ys n e2 e4
    · by_cases q2 : i = k
      · subst q2
        have ea : a = fo := V.ref.inj (Option.some.inj (self e4))
        subst ea
        rw [List.getElem?_set_ne q1] at e1 e3
        exact fresh2 j _ q1 e1 e3
      · rw [List.getElem?_set_ne q1] at e1 e3
        rw [List.getElem?_set_ne q2] at e2 e4
        exact S.env.ap j k _ ys a n e1 e2 e3 e4
  · by_cases q1 : i = j
    · subst q1
      have hil : i < σ.length := by
        have := (List.getElem?_eq_some_iff.mp e2).1
        rw [List.length_set] at this
        exact this
      rw [List.getElem?_set_self hil] at e2
      have ea : fo = a := V.ref.inj (Option.some.inj (Option.some.inj e2))
      rw [← ea]
      exact h00
    · rw [List.getElem?_set_ne q1] at e1 e2
      exact S.fr j xs a e1 e2
end
/-- a def that hands back a new list, nobody else's -/
def spO (K : PySem.W.Frag) (tb : List Addr) (n : Nat) (R : List PyData → List PyData → Prop) : Sp := fun vs H Q _ => ∃ (Hd : Hp) (ds xs : List PyData), vs.length = n ∧ DH Hd H ∧ (∀ P ∈ tb, GxR.TabG H P) ∧ DpAll K Hd vs ds ∧ R ds xs ∧
  ∀ (fo : Addr) (ws : List V) (Hd' H' : Hp), Gr Hd H Hd' H' → (∀ P ∈ tb, GxR.TabG H' P) → H fo = none → Hd' fo = none → H' fo = some (.lst ws) → DpAll K Hd' ws xs → Q (.ref fo) H'
structure FnO (P : Program) (w : World) (K : PySem.W.Frag) (mg : Str → Option Value) (base : Heap) (tb : List Addr) (x : Str) (ps : List Str) (k : Nat) (R : List PyData → List PyData → Prop) : Prop where
  ex : ∃ (f : Addr) (fd : FuncData), FnOk P w K mg base CX0 k f fd ps (spO K tb ps.length R) ∧ mg x = some (.ref f) ∧ PySem.W.keepIn K (.ref f) = true ∧ Binds K fd ps []
section
variable {X : Cx} {tb : List Addr} {W : WX'} {ds es : List Sl} {d e f : PyData} {a b c : Expr} {pos pos' p p2 : Pos} {x y : Str} {apos : Pos} {args : List Expr} {fs : List PyData} {ps : List Str} {k : Nat}
/-- a test may look at one's own list -/
theorem td_peek (i : Nat) {xs : List PyData} {kk : Bool} (h : PTd X tb c (ds.set i (.dat (.list xs))) kk) (e : ds[i]? = some (.own xs) := by rfl) : PTd X tb c ds kk := by
  obtain ⟨t, p, q⟩ := h
  refine ⟨t, p, fun Hd H σ E Q z => ?_⟩
  obtain ⟨A, vs, ea, hl, hd, E2⟩ := E.freeze e
  exact q _ H σ E2 Q fun Hd' H' g => z _ H' (Gr.unpeek hd g)
/-- x.reverse(), x's list one's own -/
theorem sd_reverse (i : Nat) {xs : List PyData} {p1 : Pos} (e : ds[i]? = some (.own xs) := by rfl) (hN : X.N[i]? = some x := by rfl) (hv : visB X.env.scope x = true := by rfl) (h1 : (x == ("__debug__" : Str)) = false := by decide)
    (h2 : (x == ("__classdict__" : Str)) = false := by decide) (hbase : attributeBase (.Name x p1) "reverse" X.env (eval (.Name x p1) X.env) = eval (.Name x p1) X.env := by rfl)
    (hline : (apos.endLine == p2.line) = true := by rfl) (hsw : swapsWith (.Call (.Attribute (.Name x p1) "reverse" apos) [] [] p2) none pos.line X.env = pure false := by rfl) :
    PSd X tb W (.Expr (.Call (.Attribute (.Name x p1) "reverse" apos) [] [] p2) pos) ds (.nx (ds.set i (.own xs.reverse))) := by
  refine ⟨_, ps_expr (pe_bm0 PySem.F.plainAttrs_list PySem.F.slot_list_reverse PySem.F.type_list_reverse mt_reverse (pe_var hN (visB_ok hv) h1 h2) hbase hline) hsw, fun Hd0 H0 Hd H σ D S z => ?_⟩
  obtain ⟨l, vs, ea, hl, hd, hx⟩ := S.env.own e
  refine ⟨.ref l, ea, .inl ⟨rfl, vs, .inl (.inl hl)⟩, l, vs, rfl, rfl, hl, ?_⟩
  exact z σ Hd _ (S.putOwn e ea hl hd (dpa_rev hx)) (Sub.refl _)
/-- y = x(..), the list one's own from now on -/
theorem sd_setOwn (i : Nat) {R : List PyData → List PyData → Prop} {xs : List PyData} (G : FnO X.prog X.w X.K X.mg X.base tb x ps k R) (hr : Room k X.A) (ha : PAd X tb (a :: args) ds fs) (hR : R fs xs) (hN : X.N.Nodup) (hi : X.N[i]? = some y := by rfl) (hy : locB X.env.scope y = true := by rfl) (hl : fs.length = ps.length := by rfl) (hg : Gl X x := by rfl) (hdb : (x == ("__debug__" : Str)) = false := by decide)
    (he : starEach (a :: args) X.env = (false, eval a X.env) :: starEach args X.env := by rfl) (hpl : (backTo p2 (starEach args X.env)).any (·.1) = false := by rfl) (hs : swapsWith (.Call (.Name x p) (a :: args) [] p2) (some (.Name y pos')) pos.line X.env = pure false := by rfl)
    (hf : X.fn y = true ∨ X.env.scope.names.lookup y = some .local := by first | exact .inl rfl | exact .inr rfl) :
    PSd X tb W (.Assign [.Name y pos'] (.Call (.Name x p) (a :: args) [] p2) pos) ds (.nx (ds.set i (.own xs))) := by
  obtain ⟨fa, fd, F, hm, hk, hb⟩ := G.ex
  obtain ⟨t, p1, q1⟩ := ha
  refine ⟨_, ps_set hN hi (locB_ok hy) (pe_call F hr hg hm hk hb .nil (pass0 (X := X)) p1 hdb he hpl) hs hf, fun Hd0 H0 Hd H σ D S z => q1 Hd H σ S.env _ fun vs Hd1 H1 g dv => ?_⟩
  have S1 := S.up g
  refine ⟨Hd1, fs, xs, by rw [List.append_nil, dpa_len dv]; exact hl, g.h, S1.env.tb, by rw [List.append_nil]; exact dv, hR, fun fo ws Hd2 H2 g2 _ hf0 hn hl2 hd => ?_⟩
  exact z _ Hd2 H2 (S1.getOwn i g2 hf0 hn hl2 hd) (g.d.trans g2.d)
variable {a : Expr} {d : PyData}
/-- x.append(e), x's list one's own -/
theorem sd_appendB (i : Nat) {xs : List PyData} {p1 p2 : Pos} (h : PEd X tb a ds d) (hz : xs.length < 16000000) (e : ds[i]? = some (.own xs) := by rfl) (hN : X.N[i]? = some x := by rfl) (hv : visB X.env.scope x = true := by rfl) (h1 : (x == ("__debug__" : Str)) = false := by decide)
    (h2 : (x == ("__classdict__" : Str)) = false := by decide) (hbase : attributeBase (.Name x p1) "append" X.env (eval (.Name x p1) X.env) = eval (.Name x p1) X.env := by rfl)
    (hfew : ((backTo p2 (starEach [a] X.env)).all (fun x => !x.1) && (backToKw p2 (keywordEach [] X.env)).all (fun x => x.1.isSome)
      && decide ([a].length + ([] : List Keyword).length + (if ([] : List Keyword).isEmpty then 0 else 1) < 30)) = true := by rfl)
    (hline : (apos.endLine == p2.line) = true := by rfl) (hs : starEach [a] X.env = (false, eval a X.env) :: starEach [] X.env := by rfl) (hplain : (backTo p2 (starEach [] X.env)).any (·.1) = false := by rfl) (hsw : swapsWith (.Call (.Attribute (.Name x p1) "append" apos) [a] [] p2) none pos.line X.env = pure false := by rfl) :
    PSd X tb W (.Expr (.Call (.Attribute (.Name x p1) "append" apos) [a] [] p2) pos) ds (.nx (ds.set i (.own (xs ++ [d])))) := by
  obtain ⟨t, p, q⟩ := h
  refine ⟨_, ps_expr (pe_bm PySem.F.plainAttrs_list PySem.F.slot_list_append PySem.F.type_list_append mt_append (pe_var hN (visB_ok hv) h1 h2) (pa_cons p pa_nil hs) hbase hfew hline hs hplain) hsw, fun Hd0 H0 Hd H σ D S z => ?_⟩
  obtain ⟨l, vs, ea, hl, hd, hx⟩ := S.env.own e
  refine ⟨.ref l, ea, .inl ⟨rfl, vs, .inl (.inl hl)⟩, q Hd H σ S.env _ fun v Hd' H' g dv => ?_⟩
  have S' := S.up g
  obtain ⟨l2, vs2, ea2, hl2, hd2, hx2⟩ := S'.env.own e
  have el : l2 = l := V.ref.inj (Option.some.inj (Option.some.inj (ea2.symm.trans ea)))
  subst el
  refine ⟨l2, vs2, v, rfl, rfl, hl2, by rw [dpa_len hx2]; exact Nat.lt_of_lt_of_le hz (by decide), ?_⟩
  exact z σ Hd' _ (S'.putOwn e ea2 hl2 hd2 (dpa_app hx2 (.cons dv .nil))) g.d
end
end DL
/-! DL22: tuples of any data: in, +, slices; list(tuple). -/
namespace DL
open PySem PySem.Spec PyProof.Rows L2
section
variable {X : Cx} {tb : List Addr} {W : WX'} {ds es : List Sl} {d e f : PyData} {a b : Expr} {pos p : Pos} {K : PySem.W.Frag}
def rInDT (K : PySem.W.Frag) (neg : Bool) : R2 := fun x y H Q => ∃ d ds, Dp K H x d ∧ Dp K H y (.tuple ds) ∧ SeqAt.shaped d = true ∧ SeqAt.shaped (.tuple ds) = true ∧ Q (.bl (if neg then !ds.any fun z => PyData.eqv z d else ds.any fun z => PyData.eqv z d)) H
theorem op_inDT (hu : X.A.units + 65 < cLine) : OpR X (compareOp .In) (rInDT X.K false) := by
  intro pins s σ H x y v u Q I rx ry h
  obtain ⟨d, ds, hd, he, sd, se, q⟩ := h
  obtain ⟨as, r1⟩ := Dp.reads I d x v hd rx
  obtain ⟨bs, r2⟩ := Dp.reads I (.tuple ds) y u he ry
  exact SeqAt.in_tuple_reads r2 r1 (SeqAt.canLay_of_shaped se) (SeqAt.canLay_of_shaped sd) (room_in_shaped sd hu) ⟨.bl _, H, I, rfl, q⟩
theorem op_notInDT (hu : X.A.units + 65 < cLine) : OpR X (compareOp .NotIn) (rInDT X.K true) := by
  intro pins s σ H x y v u Q I rx ry h
  obtain ⟨d, ds, hd, he, sd, se, q⟩ := h
  obtain ⟨as, r1⟩ := Dp.reads I d x v hd rx
  obtain ⟨bs, r2⟩ := Dp.reads I (.tuple ds) y u he ry
  exact SeqAt.notIn_tuple_reads r2 r1 (SeqAt.canLay_of_shaped se) (SeqAt.canLay_of_shaped sd) (room_in_shaped sd hu) ⟨.bl _, H, I, rfl, q⟩
theorem rv_inDT {neg : Bool} {zs : List PyData} (sd : SeqAt.shaped d = true) (se : SeqAt.shaped (.tuple zs) = true) : RvD K tb (rInDT K neg) d (.tuple zs) (.bool (if neg then !zs.any fun z => PyData.eqv z d else zs.any fun z => PyData.eqv z d)) := fun Hd H x y D _ dx dy Q q =>
  ⟨d, zs, Dp.up dx D.s, Dp.up dy D.s, sd, se, q _ Hd H (Gr.refl D) (.bl _)⟩
theorem cmp_inDT {k : Nat} {zs : List PyData} (hr : Room k X.A) (sd : SeqAt.shaped d = true) (se : SeqAt.shaped (.tuple zs) = true) : CmpD X tb .In d (.tuple zs) (zs.any fun z => PyData.eqv z d) := ⟨⟨_, op_inDT (by have := hr.un; omega), rv_inDT (neg := false) sd se⟩⟩
theorem cmp_notInDT {k : Nat} {zs : List PyData} (hr : Room k X.A) (sd : SeqAt.shaped d = true) (se : SeqAt.shaped (.tuple zs) = true) : CmpD X tb .NotIn d (.tuple zs) (!zs.any fun z => PyData.eqv z d) := ⟨⟨_, op_notInDT (by have := hr.un; omega), rv_inDT (neg := true) sd se⟩⟩
theorem rv_notInD {zs : List PyData} (sd : SeqAt.shaped d = true) (se : SeqAt.shaped (.list zs) = true) : RvD K tb (rNotInD K) d (.list zs) (.bool (!zs.any fun z => PyData.eqv z d)) := fun Hd H x y D _ dx dy Q q =>
  ⟨d, zs, Dp.up dx D.s, Dp.up dy D.s, sd, se, q _ Hd H (Gr.refl D) (.bl _)⟩
theorem cmp_notInD {k : Nat} {zs : List PyData} (hr : Room k X.A) (sd : SeqAt.shaped d = true) (se : SeqAt.shaped (.list zs) = true) : CmpD X tb .NotIn d (.list zs) (!zs.any fun z => PyData.eqv z d) := ⟨⟨_, op_notInD (by have := hr.un; omega), rv_notInD sd se⟩⟩
/-! ### tuple + tuple -/
theorem rv_catA {xs ys : List PyData} (h : xs.length + ys.length ≤ 16000000) : RvD K tb (rCatA K) (.tuple xs) (.tuple ys) (.tuple (xs ++ ys)) := fun Hd H x y D _ dx dy Q q => by
  cases dx with
  | @tup A us _ h1 h2 =>
    cases dy with
    | @tup B ws _ k1 k2 =>
      have l1 := dpa_len h2
      have l2 := dpa_len k2
      refine ⟨A, B, us, ws, rfl, rfl, st_sub D.s h1, st_sub D.s k1, by rw [l1, l2]; exact Nat.le_trans h (by decide), fun e => ?_, fun e1 e2 => ?_, fun _ _ p hp => ?_⟩
      · rw [e] at l1
        have e3 : xs = [] := List.eq_nil_of_length_eq_zero l1.symm
        rw [e3] at q
        exact q _ Hd H (Gr.refl D) (.tup k1 k2)
      · rw [e2] at l2
        have e3 : ys = [] := List.eq_nil_of_length_eq_zero l2.symm
        rw [e3, List.append_nil] at q
        exact q _ Hd H (Gr.refl D) (.tup h1 h2)
      · exact q _ _ _ (Gr.new D hp fun _ z => HO.noConfusion z) (.tup (.inl (.inl upd_same)) (DpAll.up (dpa_app h2 k2) (Gr.new D hp fun _ z => HO.noConfusion z).d))
theorem bin_catA {xs ys : List PyData} (h : xs.length + ys.length ≤ 16000000) : BinD X tb .Add (.tuple xs) (.tuple ys) (.tuple (xs ++ ys)) := ⟨⟨_, op_catA, rv_catA h⟩⟩
/-! ### slices of tuples -/
theorem cutD_whole {α : Type} {xs : List α} {l u : Option Int} (h : HT.sIx xs.length 0 l = 0 ∧ HT.sIx xs.length xs.length u = xs.length) : DL.cutD xs l u = xs := by
  unfold DL.cutD
  rw [h.1, h.2, List.drop_zero, Nat.sub_zero, List.take_length]
theorem rs_tupA {xs : List PyData} {l u : Option Int} : RsD K (rSlA K) (.tuple xs) l u (.tuple (DL.cutD xs l u)) := fun Hd H x D dx Q q => by
  cases dx with
  | @tup A us _ h1 h2 =>
    have l1 := dpa_len h2
    refine ⟨A, us, rfl, st_sub D.s h1, fun e => ?_, fun e p hp => ?_⟩
    · rw [l1] at e
      rw [cutD_whole e] at q
      exact q _ Hd H (Gr.refl D) (.tup h1 h2)
    · exact q _ _ _ (Gr.new D hp fun _ z => HO.noConfusion z) (.tup (.inl (.inl upd_same)) (DpAll.up (dpa_cut l u h2) (Gr.new D hp fun _ z => HO.noConfusion z).d))
theorem slc_t {xs : List PyData} {l u : Option Int} : SlcD X (.tuple xs) l u (.tuple (DL.cutD xs l u)) := ⟨⟨_, sl_tupA, rs_tupA⟩⟩
end
end DL
/-! DL23: the signs of a text, one by one. -/
namespace DL
open PySem PySem.Spec PyProof.Rows L2
section
variable {X : Cx} {tb : List Addr} {ds : List Sl} {tg a b : Expr} {pos p : Pos}
def signsD (z : Str) : List PyData := z.cps.toList.map fun c => PyData.str ⟨#[c]⟩
theorem id_str {z : Str} (h : PEd X tb a ds (.str z)) : PId X tb tg a ds (signsD z) :=
  let ⟨_, p, q⟩ := h; ⟨_, pi_str p, fun Hd H σ E R y => q Hd H σ E _ fun v Hd1 H1 g dv => by
    cases dv
    have el : (signsD z).length = z.cps.size := by
      unfold signsD
      rw [List.length_map, Array.length_toList]
    refine ⟨z, rfl, y _ Hd1 H1 g ⟨fun i Hd' H' s D hi => ?_, fun i Hd' H' x H'' s D _ w => ?_, fun i Hd' H' s D hi => ?_⟩⟩
    · show i < z.cps.size
      omega
    · obtain ⟨rfl, c, hc, rfl⟩ := w
      refine ⟨Hd', _, ?_, Gr.refl D, .str ⟨#[c]⟩⟩
      unfold signsD
      rw [List.getElem?_map, Array.getElem?_toList, hc] <;> rfl
    · show z.cps.size ≤ i
      omega⟩
end
end DL
/-! GX1: a generator expression whose element may be any expression: its frame as a context. -/
namespace GX
open PySem PySem.Spec PyProof.Rows L2 GenW

/-- the expression's scope, seen from the def's; Ng: its names by slots; mp: which slot of the def's each free one is -/
structure GxOk (N : List Str) (sc scope : Scope) (Ng : List Str) (mp : List (Option Nat)) : Prop where
  kind : scope.kind = .function
  co : scope.isCoroutine = false
  cell : ∀ y ∈ scope.names, y.2 ≠ .cell
  dot : scope.names.lookup (".0" : Str) = some NameKind.local
  free : ∀ y ∈ scope.names, y.2 = .free → sc.names.lookup y.1 = some .cell ∨ sc.names.lookup y.1 = some .free
  len : mp.length = Ng.length
  map : ∀ (j i : Nat), mp[j]? = some (some i) → ∃ x, Ng[j]? = some x ∧ N[i]? = some x ∧ scope.names.lookup x = some .free
  nd : Ng.Nodup
def pick (σ : L2.St) (mp : List (Option Nat)) : L2.St := mp.map fun o => match o with
  | some i => (σ[i]?).join
  | none => none
theorem pick_some {σ : L2.St} {mp : List (Option Nat)} {j : Nat} {v : V} (h : (pick σ mp)[j]? = some (some v)) : ∃ i, mp[j]? = some (some i) ∧ σ[i]? = some (some v) := by
  unfold pick at h
  rw [List.getElem?_map] at h
  cases q : mp[j]? with
  | none => rw [q] at h; cases h
  | some o =>
    rw [q] at h
    cases o with
    | none => cases h
    | some i =>
      refine ⟨i, rfl, ?_⟩
      have h : some ((σ[i]?).join) = some (some v) := h
      have h : (σ[i]?).join = some v := Option.some.inj h
      cases q2 : σ[i]? with
      | none => rw [q2] at h; cases h
      | some o2 => rw [q2] at h; exact congrArg some h
abbrev _root_.L2.Cx.gx (X : Cx) (Ng : List Str) (s : Shared) (H : Hp) (scope : Scope) (code : Value) (fp : List Addr) : Cx :=
  { X with
    A := X.A.in1.in1.deeper (genEnv scope (cloFrom X.env.cells scope.names []) s.heap.objs.size code builtinsNs X.env)
    N := Ng, s_0 := s, H_0 := H, env := genEnv scope (cloFrom X.env.cells scope.names []) s.heap.objs.size code builtinsNs X.env,
    outer := X.stack, stack := genEnv scope (cloFrom X.env.cells scope.names []) s.heap.objs.size code builtinsNs X.env :: X.stack, ex := fp, fn := fun _ => false, calm := true, pn := [], xe := fun _ _ => False }
theorem room_gx {X : Cx} {k : Nat} (hr : Room (k + 1) X.A) (env : Env) : Room k (X.A.in1.in1.deeper env) :=
  ⟨hr.hd, by have := hr.dp; show X.A.depth + 1 + 3 * k + 5 < _; omega, by have := hr.un; show X.A.units + 1 + 1 + 3 + 16 * k + 200 < _; omega⟩
section
variable {X : Cx} {pins : List (Addr × Obj)} {σ : L2.St} {H : Hp} {s s5 : Shared} {scope : Scope} {Ng : List Str} {mp : List (Option Nat)} {fp : List Addr} {code : Value} {m : Str → Option Value}
theorem gx_free (I : Inv X pins σ H s) (ok : GxOk X.N X.env.scope scope Ng mp) : ∀ y ∈ scope.names, y.2 = .free → ∃ c, X.env.cells.lookup y.1 = some c := fun y hy e => by
  rcases ok.free y hy e with k | k
  · exact I.ok.has _ (.inl k)
  · exact I.ok.has _ (.inr k)
theorem gx_start (I : Inv X pins σ H s) (ok : GxOk X.N X.env.scope scope Ng mp) (hA : X.A.handled = none) (hfp : ∀ b ∈ fp, FpOk X pins H b ∧ b < s.heap.objs.size) (ho : s5.os = s.os) (hb : AllBare s5.gens)
    (kp : ∀ b o, s.heap.get? b = some o → s5.heap.get? b = some o) (hn : s5.heap.Ns s.heap.objs.size m) : Inv (X.gx Ng s H scope code fp) [] (pick σ mp) H s5 := by
  have hfree := gx_free I ok
  generalize hcl : cloFrom X.env.cells scope.names [] = cl
  have cm : ∀ {y c}, (y, c) ∈ cl → X.env.cells.lookup y = some c ∧ c < s.heap.objs.size := fun {y c} hm => by
    rw [← hcl] at hm
    rcases cloFrom_mem hm with hm | ⟨h1, rfl⟩
    · cases hm
    · obtain ⟨c, hc⟩ := hfree _ h1 rfl
      rw [hc]
      obtain ⟨w, z⟩ := I.cell _ _ hc
      exact ⟨rfl, z.lt⟩
  have mem : ∀ {y c}, cl.lookup y = some c → X.env.cells.lookup y = some c ∧ c < s.heap.objs.size := fun {y c} e => cm (PySem.mem_of_lookup e)
  have look : ∀ {y}, scope.names.lookup y = some .free → ∃ c, cl.lookup y = some c ∧ X.env.cells.lookup y = some c := fun {y} hl => by
    have hy : (y, NameKind.free) ∈ scope.names := PySem.mem_of_lookup hl
    obtain ⟨c', e'⟩ := mem_lookup (cloFrom_has (cells := X.env.cells) (acc := []) hy)
    rw [hcl] at e'
    exact ⟨c', e', (mem e').1⟩
  have hL : ∀ b, b < s.heap.objs.size → b ≠ s.heap.objs.size := fun b h => Nat.ne_of_lt h
  have okB : (X.gx Ng s H scope code fp).Ok := by
    show Cx.Ok { X with A := X.A.in1.in1.deeper (genEnv scope (cloFrom X.env.cells scope.names []) s.heap.objs.size code builtinsNs X.env), N := Ng, s_0 := s, H_0 := H, env := genEnv scope (cloFrom X.env.cells scope.names []) s.heap.objs.size code builtinsNs X.env, outer := X.stack, stack := genEnv scope (cloFrom X.env.cells scope.names []) s.heap.objs.size code builtinsNs X.env :: X.stack, ex := fp, fn := fun _ => false, calm := true, pn := [], xe := fun _ _ => False }
    rw [hcl]
    refine ⟨I.ok.mod, ok.kind, I.ok.glob, rfl, Nat.le_refl _, fun y z c e1 e2 => ?_, fun y hy => ?_, fun y c z e => (by cases z), fun _ => hA, ?_, .inr ⟨rfl, rfl⟩, fun b hb => ⟨hL b (hfp b hb).2, fun y c e z => ?_⟩, I.bs, Nat.le_trans I.ok.bsz I.sz, fun b o e hb => ?_, fun b hb z => ?_, I.stack, I.stkFree⟩
    · exact I.ok.inj y z c (mem e1).1 (mem e2).1
    · have hy : scope.names.lookup y = some .cell ∨ scope.names.lookup y = some .free := hy
      rcases hy with hy | hy
      · exact absurd rfl (ok.cell _ (PySem.mem_of_lookup hy))
      · obtain ⟨c, e, _⟩ := look hy
        exact ⟨c, e⟩
    · exact Around.frames_deeper (A := X.A.in1.in1) I.ok.frames
    · exact (hfp b hb).1.2.2.2.2.1 y c (mem e).1 z
    · rcases (hfp b hb).1.2.2.2.1 with z | z
      · exact I.ok.noex b o e z
      · exact absurd (Nat.lt_of_lt_of_le (Heap.lt_size e) (Nat.le_trans I.ok.bsz z)) (Nat.lt_irrefl _)
    · rcases List.mem_cons.mp (I.stkSub b z) with z | z
      · exact (hfp b hb).1.2.1 z
      · exact (hfp b hb).1.2.2.1 z
  refine ⟨okB, ho, hb, Un.kept kp, ⟨m, hn, fun i y av e1 e2 e3 => ?_⟩, fun y c e => ?_, I.hok.fresh (Nat.le_refl _), fun y c e => ?_, fun p hp => absurd (show p ∈ ([] : List (Addr × Obj)) ++ [] from hp) (by simp), I.hok.kept kp, ?_⟩
  · obtain ⟨i', h1, h2⟩ := pick_some e2
    obtain ⟨x, h3, h4, h5⟩ := ok.map i i' h1
    have e1 : Ng[i]? = some y := e1
    have exy : x = y := Option.some.inj (h3.symm.trans e1)
    subst exy
    obtain ⟨m', hn', hl⟩ := I.loc
    have hvis : Vis X.env.scope x := (ok.free _ (PySem.mem_of_lookup h5) rfl).elim (fun k => .inr (.inl k)) (fun k => .inr (.inr k))
    obtain ⟨w, r, q⟩ := hl i' x av h4 h2 hvis
    refine ⟨w, r, .inr ⟨.inr h5, ?_⟩⟩
    obtain ⟨c, h6, h7⟩ := look h5
    rcases q with ⟨k, _⟩ | ⟨_, c', e', z⟩
    · have k : X.env.scope.names.lookup x = some .local := k
      rcases ok.free _ (PySem.mem_of_lookup h5) rfl with k' | k' <;> rw [show X.env.scope.names.lookup x = _ from k'] at k <;> cases k
    · rw [h7] at e'
      cases e'
      refine ⟨c, ?_, z.keeps kp⟩
      show (cloFrom X.env.cells scope.names []).lookup x = some c
      rw [hcl]
      exact h6
  · have e : (cloFrom X.env.cells scope.names []).lookup y = some c := e
    rw [hcl] at e
    obtain ⟨w, z⟩ := I.cell y c (mem e).1
    exact ⟨w, z.keeps kp⟩
  · have e : (cloFrom X.env.cells scope.names []).lookup y = some c := e
    rw [hcl] at e
    exact I.freeC y c (mem e).1
  · show (pick σ mp).length = Ng.length
    unfold pick
    rw [List.length_map, ok.len]
/-- back in the def's context -/
theorem gx_back {H' : Hp} {σ' : L2.St} (I : Inv X pins σ H s) (hfp : ∀ b ∈ fp, FpOk X pins H b) (J : Inv (X.gx Ng s H scope code fp) [] σ' H' s5) : Inv X pins σ H' s5 :=
  I.call' (ch := fp) J.os J.base J.hok J.bare fun b hb => ⟨(hfp b hb).2.2.2.1, (hfp b hb).2.1, (hfp b hb).2.2.2.2.1, (hfp b hb).2.2.2.2.2⟩
end
end GX
/-! GX2: a generator expression is made. -/
namespace GX
open PySem PySem.Spec PyProof.Rows L2 GenW GxR
section
variable {X : Cx} {pins : List (Addr × Obj)} {σ : L2.St} {H : Hp} {s : Shared} {scope : Scope} {Ng : List Str} {mp : List (Option Nat)} {tg elt iter : Expr} {gpos : Pos} {wi : TI} {c P : Addr} {k : Nat} {Q' : Value → Shared → Prop} {R : It → Hp → Prop}
/-- made, not begun: s4, H4: the state at its making -/
structure Made (X : Cx) (pins : List (Addr × Obj)) (σ : L2.St) (tg elt iter : Expr) (scope : Scope) (gpos : Pos) (Ng : List Str) (mp : List (Option Nat)) (a : Addr) (s5 : Shared) (s4 : Shared) (H4 : Hp) (code : Value) (it : Addr) (fp : List Addr) (tn : Nat → Heap → Prop) (J : It) : Prop where
  i4 : Inv X pins σ H4 s4
  fp4 : ∀ b ∈ fp, FpOk X pins H4 b ∧ b < s4.heap.objs.size
  turn : Turn X.prog X.w X.K tg J fp it tn
  gen : s5.heap.IsGen a s4.gens.size
  ga : s4.heap.objs.size < a
  gs : s5.gens[s4.gens.size]? = some (.fresh (.compStart (.GeneratorExp elt [⟨tg, iter, [], 0⟩] scope gpos) 0 (.ref it) .none (genEnv scope (cloFrom X.env.cells scope.names []) s4.heap.objs.size code builtinsNs X.env)))
  i5 : Inv (X.gx Ng s4 H4 scope code fp) [] (pick σ mp) H4 s5
  t5 : tn 0 s5.heap
theorem gx_make (hr : Room k X.A) (TB : TabB X.base X.mg c P) (hcode : X.env.code = .ref c) (ok : GxOk X.N X.env.scope scope Ng mp) (hi : PI X tg iter wi) (hs : ∀ v, genFold iter X.env v = pure v) (I : Inv X pins σ H s)
    (h : wi σ H fun J H1 => TabG H1 P ∧ ∀ H2, Tabbed P H1 H2 → R J H2)
    (hQ : ∀ a s5 s4 H4 code it fp tn J, R J H4 → Made X pins σ tg elt iter scope gpos Ng mp a s5 s4 H4 code it fp tn J → Q' (.ref a) s5) :
    wpAny (model X.prog X.w) X.A (eval (.GeneratorExp elt [⟨tg, iter, [], 0⟩] scope gpos) X.env) Q' X.xe s := by
  refine wpAny_GeneratorExp_make ok.co (closure_ok (gx_free I ok)) ok.cell ok.dot ok.kind (by have := hr.dp; omega) ?_ hs
  refine thn (hi.run pins s σ H _ I h) fun xv s1 h1 => thn h1 fun itv s2 h2 => ?_
  obtain ⟨it, fp, tn, J, H2, e, I2, T, st2, f2, ⟨ps, hP, ht⟩, q⟩ := h2
  subst e
  have hPs : s2.heap.get? P = some { cls := .none, data := .fields ps } := I2.hok P _ hP
  have cd : PySem.W.CodeHd s2.heap c P := TB.code.keeps fun b u e => I2.bk b u e
  have hcP : cStatics ≠ P := fun e => by
    obtain ⟨_, hns, _⟩ := I2.nolimit
    obtain ⟨o', es, ep, ho, hd, _⟩ := hns
    rw [e, hPs] at ho
    cases ho
    cases hd
  have nfP : ∀ b ∈ fp, b ≠ P := fun b hb z => by
    have := (f2 b hb).1
    rw [z, hP] at this
    cases this
  have cont : ∀ (code : Value) (h3 : Heap) (tk : Nat) (ps' : Array Value), Heap.ExtBut P s2.heap h3 → s2.heap.objs.size ≤ h3.objs.size → h3.get? P = some { cls := .none, data := .fields ps' } → (∃ more, ps' = ps ++ more) → TriplesOk ps'.toList →
      wpAny (model X.prog X.w) X.A (builtinsFor X.env.globals X.env.builtins) (fun bi s₄ =>
        ∀ h', h'.Ns s₄.heap.objs.size (fun y => if y = ".0" then some (.ref it) else none) → Heap.SameBut s₄.heap.objs.size (s₄.heap.push { cls := .type "frame", data := .dict #[] }) h' →
          Q' (.ref h'.objs.size) { s₄ with
            gens := s₄.gens.push (.fresh (.compStart (.GeneratorExp elt [⟨tg, iter, [], 0⟩] scope gpos) 0 (.ref it) .none (genEnv scope (cloFrom X.env.cells scope.names []) s₄.heap.objs.size code bi X.env))),
            toks := s₄.toks + 1 + 1 + 1,
            heap := h'.push { cls := .type "generator", data := .fields #[.int s₄.gens.size 0, .str "<genexpr>" (s₄.toks + 1), .str (X.env.qual ++ "<genexpr>") (s₄.toks + 1 + 1)] } }) X.xe { s2 with heap := h3, toks := tk } := by
    intro code h3 tk ps' hx hsz hP3 hmore ht3
    obtain ⟨bm, ob, e1, e2, e3, e4, e5, e6, e7, e8⟩ := TB.bm
    have keep3 : ∀ b u, b ≠ P → s2.heap.get? b = some u → h3.get? b = some u := fun b u hb e => hx b u hb e
    obtain ⟨more, em⟩ := hmore
    subst em
    have I4 : Inv X pins σ (upd H2 P (.tbl (ps ++ more))) { s2 with heap := h3, toks := tk } := inv_tab (more := more) (h' := h3) (g' := s2.gens) (d' := s2.drawn) (t' := tk) I2 hP keep3 hP3 I2.bare
    refine wpAny_builtinsFor (m := X.mg) (by rw [I2.ok.glob]; exact (I2.mod.glob.keeps I2.bk).extBut hx TB.gP) e1 e2 (keep3 _ _ e4 (I2.bk _ _ e5)) e6 e7 e8 ?_
    intro h' hn' hs'
    have hsz' : h'.objs.size = h3.objs.size + 1 := by rw [hs'.1, Heap.size_push]
    have keep' : ∀ b o, h3.get? b = some o → h'.get? b = some o := fun b o e => hs'.extBut b o (Nat.ne_of_lt (Heap.lt_size e)) (Heap.get?_push_of_some _ e)
    have hfp4 : ∀ b ∈ fp, FpOk X pins (upd H2 P (.tbl (ps ++ more))) b ∧ b < h3.objs.size := fun b hb => by
      obtain ⟨o, e, _⟩ := T.obj _ _ st2 b hb
      exact ⟨⟨by rw [upd_ne (nfP b hb)]; exact (f2 b hb).1, (f2 b hb).2⟩, Heap.lt_size (keep3 b o (nfP b hb) e)⟩
    refine hQ _ _ { s2 with heap := h3, toks := tk } (upd H2 P (.tbl (ps ++ more))) code it fp tn J (q _ ⟨⟨ps ++ more, upd_same, ht3⟩, fun b hb => upd_ne hb⟩) ⟨I4, hfp4, T, ⟨_, _, _, Heap.get?_push_size _ rfl, rfl, rfl, rfl⟩, ?_, Array.getElem?_push_size .., ?_, ?_⟩
    · show h3.objs.size < h'.objs.size
      omega
    · exact gx_start I4 ok hr.hd hfp4 rfl (I2.bare.push rfl) (fun b o e => Heap.get?_push_of_some _ (keep' b o e)) (hn'.push _)
    · exact T.keep _ _ _ st2 fun b hb o e => Heap.get?_push_of_some _ (keep' b o (keep3 b o (nfP b hb) e))
  refine ⟨I2.nolimit, ?_⟩
  cases hf : codeAmong gpos ps.toList with
  | none =>
    refine wpAny_genexprCodeX hcode (cd.code hPs ht) (cd.tab hPs) hf fun c' h' tk hx hge hlt hco' _ htab' _ => ?_
    obtain ⟨o1, vs, f1, tf, fl, tg', inF, tx, tt, op, _, _, _, _, _, _, _, _, _, htr, _⟩ := hco'
    exact cont _ h' tk _ hx (Nat.le_trans hge (Nat.le_of_lt hlt)) htab'.2 ⟨_, rfl⟩ htr
  | some cv =>
    refine wpAny_genexprCode_hit hcode (cd.code hPs ht) hf ?_
    exact cont cv s2.heap s2.toks ps (Heap.ExtBut.refl _ _) (Nat.le_refl _) hPs ⟨#[], by simp⟩ ht
end
end GX
/-! GX3: a generator expression's turns. -/
namespace GX
open PySem PySem.Spec PyProof.Rows L2 GenW GxR
theorem over_loopG {A : Around} {elt tg iter : Expr} {scope : Scope} {pos : Pos} {it acc : Value} {env : Env} : A.over (.compLoop (.GeneratorExp elt [⟨tg, iter, [], 0⟩] scope pos) 0 it acc env) [] = A.deeper env := by
  first
    | rfl
    | (obtain ⟨hd, d, fr, gs, u⟩ := A; simp [Around.over, Around.deeper, marksOver, frameCount, unitsOf, envsOf, guardsOf, pushEnvs, pushGuards, Code.envs, Code.env?, Code.isFrame, Code.guards, Code.isGuard, Code.weight, Code.frames, Code.isCreation, Code.isCaller, Code.cUnits])
theorem over_startG {A : Around} {elt tg iter : Expr} {scope : Scope} {pos : Pos} {it acc : Value} {env : Env} : A.over (.compStart (.GeneratorExp elt [⟨tg, iter, [], 0⟩] scope pos) 0 it acc env) [] = A.deeper env := by
  first
    | rfl
    | (obtain ⟨hd, d, fr, gs, u⟩ := A; simp [Around.over, Around.deeper, marksOver, frameCount, unitsOf, envsOf, guardsOf, pushEnvs, pushGuards, Code.envs, Code.env?, Code.isFrame, Code.guards, Code.isGuard, Code.weight, Code.frames, Code.isCreation, Code.isCaller, Code.cUnits])
/-- the slots of σ stay in σ2 -/
def Holds (σ σ2 : L2.St) : Prop := σ.length = σ2.length ∧ ∀ (j : Nat) v, σ[j]? = some (some v) → σ2[j]? = some (some v)
section
variable (X : Cx) (σ0 : L2.St) (fp : List Addr) (Ci : List V → List (Addr × Obj) → Prop) (Cn : V → Prop) (Yv : List V → V → Hp → Prop) (Fin : List V → Hp → Prop)
def RF : Shared → Prop := fun s => ∃ acc pins H, Ci acc pins ∧ Inv X pins σ0 H s ∧ Fin acc H
def YF : Protocol := fun n s₀ v s kap => ∃ acc y pins H, RelV y v ∧ Ci acc pins ∧ Inv X pins σ0 H s ∧ Yv acc y H ∧
  (Cn y → ∀ s'' pins'', Ci (acc ++ [y]) pins'' → Inv X pins'' σ0 H s'' → (∀ b ∈ fp, ∀ o, s.heap.get? b = some o → s''.heap.get? b = some o) → kap (.send .none) s'')
/-- the turns: W by the turn, a measure, what is out -/
structure Turns (J : It) (g : TG) (te : TE) (W : Nat → Nat → List V → Hp → Prop) : Prop where
  go : ∀ i m acc H, W i m acc H → (J.stop i H ∧ Fin acc H) ∨ (J.go i H ∧ ∀ x H', J.yld i H x H' → g x σ0 H' fun σ2 H2 => Holds σ0 σ2 ∧ te σ2 H2 fun y H4 => Yv acc y H4 ∧ (Cn y → ∃ m', m' < m ∧ W (i + 1) m' (acc ++ [y]) H4))
end
section
variable {X : Cx} {σ0 : L2.St} {fp : List Addr} {Ci : List V → List (Addr × Obj) → Prop} {Cn : V → Prop} {Yv : List V → V → Hp → Prop} {Fin : List V → Hp → Prop} {A : Around} {elt tg iter : Expr} {scope : Scope} {pos : Pos} {it : Addr} {tn : Nat → Heap → Prop} {J : It} {g : TG} {te : TE} {W : Nat → Nat → List V → Hp → Prop}
theorem gx_loop (hA : A.deeper X.env = X.A) (hx : X.xe = fun _ _ => False) (hex : X.ex = fp) (hpn : X.pn = []) (hc : X.calm = true) (hco : X.env.scope.isCoroutine = false)
    (T : Turn X.prog X.w X.K tg J fp it tn) (hg : PG X tg g) (he : PE X elt te) (hCi : ∀ acc pins, Ci acc pins → ∀ p ∈ pins, ∀ b ∈ fp, p.1 ≠ b) (hT : Turns σ0 Cn Yv Fin J g te W) :
    ∀ (m n i : Nat) (acc : List V) (pins : List (Addr × Obj)) (s₀ s : Shared) (H : Hp), m + 1 ≤ n → Ci acc pins → Inv X pins σ0 H s → tn i s.heap → (∀ b ∈ fp, H b = none) → W i m acc H →
      Seg (model X.prog X.w) A (fun _ _ r s₁ => r = .ok .next ∧ RF X σ0 Ci Fin s₁) (YF X σ0 fp Ci Cn Yv) n s₀ (.compLoop (.GeneratorExp elt [⟨tg, iter, [], 0⟩] scope pos) 0 (.ref it) .none X.env)
        ((model X.prog X.w).den (.compLoop (.GeneratorExp elt [⟨tg, iter, [], 0⟩] scope pos) 0 (.ref it) .none X.env)) [] s := by
  have hover : A.over (.compLoop (.GeneratorExp elt [⟨tg, iter, [], 0⟩] scope pos) 0 (.ref it) .none X.env) [] = X.A := by rw [over_loopG]; exact hA
  have stat : ∀ {pins : List (Addr × Obj)} {acc : List V} {σ' : L2.St} {H' : Hp} {s' : Shared}, Ci acc pins → Inv X pins σ' H' s' → (∀ b ∈ fp, H' b = none) → ∀ b ∈ fp, FpOk X pins H' b := fun {pins acc σ' H' s'} hci I' hn b hb =>
    ⟨hn b hb, (I'.ok.exf b (by rw [hex]; exact hb)).1, I'.ok.exfs b (by rw [hex]; exact hb), .inl (by rw [hex]; exact hb), fun x c e => (I'.ok.exf b (by rw [hex]; exact hb)).2 x c e, fun p hp => by rw [hpn] at hp; exact hCi acc pins hci p hp b hb⟩
  intro m
  induction m using Nat.strongRecOn with
  | ind m ih =>
    intro n i acc pins s₀ s H hn hci I st hfn hw
    show Seg _ A _ _ _ s₀ _ ((compTurn (.GeneratorExp elt [⟨tg, iter, [], 0⟩] scope pos) 0 (.ref it) .none X.env).onRaise (leaving X.env)) [] s
    rw [compTurn_gen, Sem.onRaise_eq_wrap]
    refine seg_bind_wrap (wpAny_standAt ?_)
    rcases hT.go i m acc H hw with ⟨stop, fin⟩ | ⟨go, step⟩
    · refine seg_bind_wrap ?_
      rw [hover]
      refine thnF (T.done X rfl rfl rfl hc i pins s σ0 H (fun _ _ => False) I (stat hci I hfn) st stop) fun r s1 ⟨hr, I1⟩ => ?_
      subst hr
      exact seg_end (.ok .next) ⟨rfl, acc, pins, H, hci, I1, fin⟩
    · refine seg_bind_wrap ?_
      rw [hover]
      refine thnF (T.item X rfl rfl rfl hc i pins s σ0 H (fun _ _ => False) I (stat hci I hfn) st go) fun r s1 ⟨u, hr, h6⟩ => ?_
      subst hr
      refine seg_bind_wrap ?_
      rw [hover]
      refine thnF h6 fun _ s7 ⟨x, H7, I7, r7, y7, st7, n7⟩ => ?_
      have I7' := I7.pinned (stat hci I7 n7) (T.obj _ _ st7)
      refine seg_bind_wrap ?_
      rw [hover]
      have pg := hg.run (pins ++ pinsAt fp s7.heap) s7 σ0 H7 x u _ I7' r7 (step x H7 y7)
      rw [hx] at pg
      refine thnF pg fun _ s8 ⟨σ8, H8, I8, hw8, q8⟩ => ?_
      simp only [List.forIn_nil]
      refine seg_bind_wrap (wpAny_pure ?_)
      simp only [if_true]
      have hy : ∀ v, yieldOut X.env v = yieldValue v := fun v => by simp only [yieldOut, hco, Bool.false_eq_true, if_false]
      simp only [hy]
      rw [Sem.bind_eq_wrap', Sem.bind_eq_wrap', Sem.wrap_wrap, Sem.wrap_wrap]
      refine seg_wrap ?_
      rw [hover]
      have pe := he.run (pins ++ pinsAt fp s7.heap) s8 σ8 H8 _ I8 q8
      rw [hx] at pe
      refine thnF pe fun v s9 ⟨y, H9, I9, r9, q9, next⟩ => ?_
      have I10 : Inv X pins σ0 H9 s9 := (I9.unpinned (pl := pinsAt fp s7.heap)).weak hw8.1 hw8.2
      have pin' : ∀ b ∈ fp, ∀ o, s7.heap.get? b = some o → s9.heap.get? b = some o ∧ H9 b = none := fun b hb o e =>
        let z := I9.pin (b, o) (List.mem_append_right _ (List.mem_append_right _ (mem_pinsAt hb e)))
        ⟨z.1, z.2.1⟩
      obtain ⟨n, rfl⟩ : ∃ k, n = k + 1 := ⟨n - 1, by omega⟩
      refine seg_at (seg_yield rfl rfl rfl ⟨acc, y, pins, H9, r9, hci, I10, q9, fun hcn s'' pins'' hci'' I'' hkeep => ?_⟩)
      obtain ⟨m', hm', w'⟩ := next hcn
      refine seg_again rfl (ih m' hm' n (i + 1) (acc ++ [y]) pins'' s'' s'' H9 (by omega) hci'' I'' ?_ (fun b hb => ?_) w')
      · exact T.keep _ _ _ st7 fun b hb o e => hkeep b hb o (pin' b hb o e).1
      · obtain ⟨o, e, _⟩ := T.obj _ _ st7 b hb
        exact (pin' b hb o e).2
theorem gx_begin (hA : A.deeper X.env = X.A) (hx : X.xe = fun _ _ => False) (hex : X.ex = fp) (hpn : X.pn = []) (hc : X.calm = true) (hco : X.env.scope.isCoroutine = false)
    (T : Turn X.prog X.w X.K tg J fp it tn) (hg : PG X tg g) (he : PE X elt te) (hCi : ∀ acc pins, Ci acc pins → ∀ p ∈ pins, ∀ b ∈ fp, p.1 ≠ b) (hT : Turns σ0 Cn Yv Fin J g te W) {m : Nat} {pins : List (Addr × Obj)} {s₀ s : Shared} {H : Hp}
    (hci : Ci [] pins) (I : Inv X pins σ0 H s) (st : tn 0 s.heap) (hfn : ∀ b ∈ fp, H b = none) (hw : W 0 m [] H) :
      Seg (model X.prog X.w) A (fun _ _ r s₁ => r = .ok .next ∧ RF X σ0 Ci Fin s₁) (YF X σ0 fp Ci Cn Yv) (m + 1) s₀ (.compStart (.GeneratorExp elt [⟨tg, iter, [], 0⟩] scope pos) 0 (.ref it) .none X.env)
        ((model X.prog X.w).den (.compStart (.GeneratorExp elt [⟨tg, iter, [], 0⟩] scope pos) 0 (.ref it) .none X.env)) [] s := by
  have loop := gx_loop (iter := iter) (scope := scope) (pos := pos) hA hx hex hpn hc hco T hg he hCi hT m (m + 1) 0 [] pins s₀ s H (Nat.le_refl _) hci I st hfn hw
  show Seg _ A _ _ _ s₀ _ ((compStart (.GeneratorExp elt [⟨tg, iter, [], 0⟩] scope pos) 0 (.ref it) .none X.env).onRaise (leaving X.env)) [] s
  unfold compStart
  rw [Sem.onRaise_eq_wrap]
  show Seg _ A _ _ _ s₀ _ ((ask >>= _).wrap _ _ _ _) [] s
  refine seg_bind_wrap (wpAny_askSetting ?_)
  split
  · exact seg_again rfl loop
  · first
      | exact seg_bind_wrap (wpAny_rule (seg_bind_wrap (wpAny_standAt (seg_bind_wrap (T.self _ 0 s _ _ st (seg_again rfl loop))))))
      | (refine seg_bind_wrap (wpAny_rule ?_); show Seg _ A _ _ _ s₀ _ ((standAt iter.pos >>= _).wrap _ _ _ _) [] s; exact seg_bind_wrap (wpAny_standAt (seg_bind_wrap (T.self _ 0 s _ _ st (seg_again rfl loop)))))
end
end GX
/-! GX4: all, any of a generator expression. -/
namespace GX
open PySem PySem.Spec PyProof.Rows L2 GenW GxR
theorem inv_same {X : Cx} {pins : List (Addr × Obj)} {σ : L2.St} {H : Hp} {s s' : Shared} (I : Inv X pins σ H s) (hh : s'.heap = s.heap) (ho : s'.os = s.os) (hb : AllBare s'.gens) : Inv X pins σ H s' := by
  obtain ⟨h', g', d', t', o'⟩ := s'
  have hh : h' = s.heap := hh
  subst hh
  have ho : o' = s.os := ho
  exact ⟨I.ok, ho.trans I.os, hb, I.base, I.loc, I.cell, I.free, I.freeC, I.pin, I.hok, I.len⟩
section
variable {X : Cx} {σ0 : L2.St} {fp : List Addr} {A : Around} {R : Result → Shared → Prop} {a : Addr} {g : Nat} {go : Obj}
/-- all (k = true), any (k = false): the loop over a generator -/
theorem drain_all (Qf : Bool → Hp → Prop) (hA : A.handled = none) (hd : A.depth < recursionLimit) (hgo : ∀ h : Heap, h.get? a = some go → h.IsGen a g)
    (hR : ∀ (b : Bool) (pins : List (Addr × Obj)) (σ : L2.St) (H : Hp) (s' : Shared), Inv X pins σ H s' → Qf b H → R (.ok (.ret (.bool b))) s') :
    ∀ (n : Nat) (s : Shared) (σ : L2.St) (H : Hp), Inv X [(a, go)] σ H s →
      (∃ gs, s.gens[g]? = some gs ∧ gs.Goes (model X.prog X.w) A.in1.in1 (fun _ _ r s₁ => r = .ok .next ∧ RF X σ0 (fun _ pins => pins = [(a, go)]) (fun _ H => Qf true H) s₁)
        (YF X σ0 fp (fun _ pins => pins = [(a, go)]) (fun y => y = .bl true) (fun _ y H => ∃ b, y = .bl b ∧ (b = false → Qf false H))) n (.send .none) (s.setGen g .running)) →
      codeAny (model X.prog X.w) A (.builtin "all.loop" ⟨[.ref a], []⟩) R s := by
  intro n
  induction n with
  | zero =>
    intro s σ H I ⟨gs, hgs, hgo'⟩
    have hgl : g < s.gens.size := (Array.getElem?_eq_some_iff.mp hgs).1
    have hg := hgo _ (I.pin (a, go) (List.mem_append_right _ List.mem_cons_self)).1
    refine codeAny_builtin F.entry_all_loop ?_
    rw [Around.under_plainId F.plain_all_loop _]
    show wpAny _ A.in1 (pyNext (.ref a) >>= _) _ _ s
    refine wpAny_bind (wpAny_pyNext_genexpQ (A := A.in1) (P := fun _ _ s₁ => RF X σ0 (fun _ pins => pins = [(a, go)]) (fun _ H => Qf true H) s₁) hA I.nolimit hd hg hgs hgo' (fun v s₁ gs' hbare hv => ?_) (fun s₁ hp h' hk => ?_))
    · obtain ⟨acc, y, pins, H1, r9, hci, I1, ⟨b, rfl, hstop⟩, next⟩ := hv
      subst hci
      cases b with
      | true =>
        exact False.elim (next rfl _ _ rfl I1 (fun _ _ _ e => e))
      | false =>
        obtain rfl : v = Value.bool false := r9
        refine wpAny_bind (wpAny_holding (wpAny_truthy_bool ?_))
        refine wpAny_bind (wpAny_letGo ?_)
        simp only [Bool.false_eq_true, if_false]
        refine wpAny_bind (wpAny_rule (wpAny_pure ?_))
        exact hR false _ _ _ _ (inv_same (s' := s₁.setGen g gs') I1 rfl rfl (allBare_setGen I1.bare hbare)) (hstop rfl)
    · obtain ⟨acc, pins, H1, hci, I1, fin⟩ := hp
      refine wpAny_bind (wpAny_rule (wpAny_pure ?_))
      have I2 := inv_same (s' := s₁.setGen g .finished) I1 rfl rfl (allBare_setGen I1.bare rfl)
      exact hR true _ _ _ _ (I2.kept (t' := (s₁.setGen g .finished).toks) hk) fin
  | succ n ih =>
    intro s σ H I ⟨gs, hgs, hgo'⟩
    have hgl : g < s.gens.size := (Array.getElem?_eq_some_iff.mp hgs).1
    have hg := hgo _ (I.pin (a, go) (List.mem_append_right _ List.mem_cons_self)).1
    refine codeAny_builtin F.entry_all_loop ?_
    rw [Around.under_plainId F.plain_all_loop _]
    show wpAny _ A.in1 (pyNext (.ref a) >>= _) _ _ s
    refine wpAny_bind (wpAny_gsz (n := g + 1) hgl (wpAny_pyNext_genexpQ (A := A.in1) (P := fun _ _ s₁ => RF X σ0 (fun _ pins => pins = [(a, go)]) (fun _ H => Qf true H) s₁) hA I.nolimit hd hg hgs hgo' (fun v s₁ gs' hbare hv => ?_) (fun s₁ hp h' hk => ?_)))
    · intro hsz
      obtain ⟨acc, y, pins, H1, r9, hci, I1, ⟨b, rfl, hstop⟩, next⟩ := hv
      subst hci
      cases b with
      | true =>
        obtain rfl : v = Value.bool true := r9
        refine wpAny_bind (wpAny_holding (wpAny_truthy_bool ?_))
        refine wpAny_bind (wpAny_letGo ?_)
        simp only [if_true]
        have hgl1 : g < s₁.gens.size := by
          have e := setGen_size s₁ g gs'
          rw [e] at hsz
          exact hsz
        refine wpAny_pure ⟨plainId_quiet F.plain_all_loop _, ih (s₁.setGen g gs') σ0 H1 (inv_same I1 rfl rfl (allBare_setGen I1.bare hbare)) ⟨gs', setGen_at hgl1, ?_⟩⟩
        exact next rfl _ _ rfl (inv_same (s' := (s₁.setGen g gs').setGen g .running) I1 rfl rfl (allBare_setGen (allBare_setGen I1.bare hbare) rfl)) (fun _ _ _ e => e)
      | false =>
        obtain rfl : v = Value.bool false := r9
        refine wpAny_bind (wpAny_holding (wpAny_truthy_bool ?_))
        refine wpAny_bind (wpAny_letGo ?_)
        simp only [Bool.false_eq_true, if_false]
        refine wpAny_bind (wpAny_rule (wpAny_pure ?_))
        exact hR false _ _ _ _ (inv_same (s' := s₁.setGen g gs') I1 rfl rfl (allBare_setGen I1.bare hbare)) (hstop rfl)
    · intro _
      obtain ⟨acc, pins, H1, hci, I1, fin⟩ := hp
      refine wpAny_bind (wpAny_rule (wpAny_pure ?_))
      have I2 := inv_same (s' := s₁.setGen g .finished) I1 rfl rfl (allBare_setGen I1.bare rfl)
      exact hR true _ _ _ _ (I2.kept (t' := (s₁.setGen g .finished).toks) hk) fin
end
section
variable {X : Cx} {scope : Scope} {Ng : List Str} {mp : List (Option Nat)} {tg elt iter : Expr} {p pos gpos : Pos} {wi : TI} {g : TG} {te : TE} {c P : Addr} {k : Nat}
/-- all(elt for tg in iter) -/
def tAllG (P : Addr) (mp : List (Option Nat)) (wi : TI) (g : TG) (te : TE) : TE := fun σ H Q => wi σ H fun J H1 => TabG H1 P ∧ ∀ H2, Tabbed P H1 H2 → ∃ W : Nat → Nat → List V → Hp → Prop, (∃ m, W 0 m [] H2) ∧
  Turns (pick σ mp) (fun y => y = .bl true) (fun _ y H => ∃ b, y = .bl b ∧ (b = false → Q (.bl false) H)) (fun _ H => Q (.bl true) H) J g te W
theorem pe_allG (hr : Room (k + 1) X.A) (hg : Gl X "all") (hm : X.mg "all" = none) (TB : TabB X.base X.mg c P) (hcode : X.env.code = .ref c) (ok : GxOk X.N X.env.scope scope Ng mp) (hi : PI X tg iter wi)
    (hpg : ∀ (s : Shared) (H : Hp) (code : Value) (fp : List Addr), PG (X.gx Ng s H scope code fp) tg g) (hpe : ∀ (s : Shared) (H : Hp) (code : Value) (fp : List Addr), PE (X.gx Ng s H scope code fp) elt te)
    (hb : bootBuiltins "all" = some (.builtin "all") := by decide +kernel) (hs : ∀ v, genFold iter X.env v = pure v := by intro _; rfl)
    (he : starEach [.GeneratorExp elt [⟨tg, iter, [], 0⟩] scope gpos] X.env = (false, eval (.GeneratorExp elt [⟨tg, iter, [], 0⟩] scope gpos) X.env) :: starEach [] X.env := by rfl) :
    PE X (.Call (.Name "all" p) [.GeneratorExp elt [⟨tg, iter, [], 0⟩] scope gpos] [] pos) (tAllG P mp wi g te) := by
  refine ⟨fun pins s σ H Q I h => ?_⟩
  refine wpAny_Call_Name_kw (ld_blt I hg hm hb ?_)
  refine PyProof.Rows.callWith_builtin1 ?_ he (by rfl)
  rw [he]
  show wpAny _ _ (spliced ((false, eval (.GeneratorExp elt [⟨tg, iter, [], 0⟩] scope gpos) X.env) :: backTo pos (starEach [] X.env))) _ _ s
  refine Calls.spliced_cons (gx_make (R := fun J H2 => ∃ W : Nat → Nat → List V → Hp → Prop, (∃ m, W 0 m [] H2) ∧ Turns (pick σ mp) (fun y => y = .bl true) (fun _ y H => ∃ b, y = .bl b ∧ (b = false → Q (.bl false) H)) (fun _ H => Q (.bl true) H) J g te W) hr TB hcode ok hi hs I h fun a s5 s4 H4 code it fp tn J hR M => ?_)
  obtain ⟨W, ⟨m0, w0⟩, hT⟩ := hR
  refine Calls.spliced_nil ?_
  refine call_function_tree F.kind_all F.plain_all F.entry_all (F.args_all1 _) ?_
  unfold Builtin.«all»
  refine wpAny_bind (m := oneArg "all" _) (wpAny_pure ?_)
  refine wpAny_bind (wpAny_pyIter_gen M.gen ?_)
  obtain ⟨go, nm, qn, hgo, hgc, hgd, hgs⟩ := M.gen
  have ha : a ≠ s4.heap.objs.size := Nat.ne_of_gt M.ga
  have hHa : H4 a = none := M.i4.hok.fresh (Nat.le_of_lt M.ga)
  have I5 : Inv (X.gx Ng s4 H4 scope code fp) [(a, go)] (pick σ mp) H4 s5 := M.i5.pins_of fun q hq => by
    rw [List.mem_singleton.mp hq]
    refine ⟨hgo, hHa, ha, fun hb => ?_, fun v z => by rw [hgd] at z; cases z⟩
    obtain ⟨_, o, ho, _⟩ := M.i4.stack.mem hb
    exact absurd (Nat.lt_trans (Heap.lt_size ho) M.ga) (Nat.lt_irrefl _)
  have hfa : ∀ b ∈ fp, a ≠ b := fun b hb z => by
    have := (M.fp4 b hb).2
    rw [← z] at this
    exact absurd (Nat.lt_trans this M.ga) (Nat.lt_irrefl _)
  refine wpAny_pure ⟨plainId_quiet F.plain_all_loop _, ?_⟩
  refine drain_all (X := X.gx Ng s4 H4 scope code fp) (σ0 := pick σ mp) (fp := fp) (g := s4.gens.size) (go := go) (fun b H => Q (.bl b) H) hr.hd (by have := hr.dp; omega) (fun h e => ⟨go, nm, qn, e, hgc, hgd, hgs⟩) (fun b pins' σ' H' s' J' q => ?_) (m0 + 1) s5 (pick σ mp) H4 I5 ⟨_, M.gs, rfl, ?_⟩
  · exact ⟨.bl b, H', gx_back M.i4 (fun b hb => (M.fp4 b hb).1) ((J'.pins_of (pins' := []) fun p hp => by cases hp).weak rfl fun _ _ e => e), rfl, q⟩
  · exact gx_begin (X := X.gx Ng s4 H4 scope code fp) (A := X.A.in1.in1) rfl rfl rfl rfl rfl ok.co M.turn (hpg s4 H4 code fp) (hpe s4 H4 code fp) (fun acc pins hci p hp b hb => by rw [hci] at hp; rw [List.mem_singleton.mp hp]; exact hfa b hb) hT rfl
      (inv_same (s' := s5.setGen s4.gens.size .running) I5 rfl rfl (allBare_setGen I5.bare rfl)) M.t5 (fun b hb => (M.fp4 b hb).1.1) w0
end
end GX
/-! GX5: all(..) over data. -/
namespace DL
open PySem PySem.Spec PyProof.Rows L2 GX
def pickS : Option Sl → Sl
  | some (.dat d) => .dat d
  | some (.val v) => .val v
  | some (.hp φ st) => .hp φ st
  | _ => .no
def pickD (ds : List Sl) (mp : List (Option Nat)) : List Sl := mp.map fun o => match o with
  | some i => pickS ds[i]?
  | none => .no
theorem pickS_own {o : Option Sl} {xs : List PyData} : pickS o ≠ .own xs := by
  unfold pickS
  split <;> exact fun z => nomatch z
theorem env_pick {K : PySem.W.Frag} {tb : List Addr} {Hd H : Hp} {σ : L2.St} {ds : List Sl} (E : Env K tb Hd H σ ds) (mp : List (Option Nat)) : Env K tb Hd H (pick σ mp) (pickD ds mp) := by
  refine ⟨by unfold pick pickD; rw [List.length_map, List.length_map], E.dh, E.tb, fun i t e => ?_, fun i j xs ys a n e1 e2 e3 e4 => ?_⟩
  · unfold pickD at e
    unfold pick
    rw [List.getElem?_map] at e ⊢
    cases q : mp[i]? with
    | none => rw [q] at e; cases e
    | some o =>
      rw [q] at e
      cases o with
      | none =>
        cases e
        exact ⟨none, rfl, trivial⟩
      | some k =>
        have e : some (pickS ds[k]?) = some t := e
        have e : pickS ds[k]? = t := Option.some.inj e
        refine ⟨(σ[k]?).join, rfl, ?_⟩
        subst e
        cases q2 : ds[k]? with
        | none => cases (σ[k]?).join <;> trivial
        | some s =>
          cases s with
          | no => cases (σ[k]?).join <;> trivial
          | own xs => cases (σ[k]?).join <;> trivial
          | dat d =>
            obtain ⟨v, h1, h2⟩ := E.dat q2
            rw [h1]
            exact h2
          | val v =>
            have h1 := E.val q2
            rw [h1]
            exact rfl
          | hp φ st =>
            obtain ⟨o, h1, h2⟩ := E.sl k _ q2
            cases o with
            | none => exact h2.elim
            | some v =>
              rw [h1]
              exact h2
  · unfold pickD at e1
    rw [List.getElem?_map] at e1
    cases q : mp[i]? with
    | none => rw [q] at e1; cases e1
    | some o =>
      rw [q] at e1
      cases o with
      | none => cases e1
      | some k => exact pickS_own (Option.some.inj e1)
theorem pick_none {σ : L2.St} {mp : List (Option Nat)} {j : Nat} (h : mp[j]? = some none) : (pick σ mp)[j]? = some none := by
  unfold pick
  rw [List.getElem?_map, h] <;> rfl
theorem holds_set {σ : L2.St} {j : Nat} {v : V} (h : σ[j]? = some none) : Holds σ (σ.set j (some v)) := by
  refine ⟨by rw [List.length_set], fun i u e => ?_⟩
  by_cases q : j = i
  · subst q
    rw [h] at e
    cases e
  · rw [List.getElem?_set_ne q]
    exact e
theorem holds_tr {a b c : L2.St} (h : Holds a b) (k : Holds b c) : Holds a c := ⟨h.1.trans k.1, fun j v e => k.2 j v (h.2 j v e)⟩
/-- what a target does with an item -/
structure TgD (K : PySem.W.Frag) (tb : List Addr) (mp : List (Option Nat)) (g : TG) (dsg : List Sl) (d : PyData) (es : List Sl) : Prop where
  go : ∀ (Hd H : Hp) (σ0 : L2.St) (v : V) (Q : L2.St → Hp → Prop), (∀ j : Nat, mp[j]? = some none → σ0[j]? = some none) → Env K tb Hd H σ0 dsg → Dp K Hd v d → (∀ σ2, Holds σ0 σ2 → Env K tb Hd H σ2 es → Q σ2 H) → g v σ0 H Q
theorem tg_name {K : PySem.W.Frag} {tb : List Addr} {mp : List (Option Nat)} {dsg : List Sl} {d : PyData} (j : Nat) (hj : mp[j]? = some none := by rfl) : TgD K tb mp (gName j) dsg d (dsg.set j (.dat d)) :=
  ⟨fun Hd H σ0 v Q hm E dv q => q _ (holds_set (hm j hj)) (E.set (s := .dat d) dv fun _ z => nomatch z)⟩
theorem tg_pair {K : PySem.W.Frag} {tb : List Addr} {mp : List (Option Nat)} {dsg : List Sl} {d1 d2 : PyData} (i j : Nat) (hi : mp[i]? = some none := by rfl) (hj : mp[j]? = some none := by rfl) (hij : i ≠ j := by decide) :
    TgD K tb mp (gTup K 2 (gCons (gName i) (gCons (gName j) gNil))) dsg (.tuple [d1, d2]) ((dsg.set i (.dat d1)).set j (.dat d2)) :=
  ⟨fun Hd H σ0 v Q hm E dv q => by
    cases dv with
    | @tup A vs _ k1 k2 =>
      cases k2 with
      | cons m1 m2 =>
        cases m2 with
        | cons m3 m4 =>
          cases m4
          refine ⟨A, _, rfl, st_sub E.dh.s k1, rfl, _, _, rfl, _, _, rfl, rfl, q _ (holds_tr (holds_set (hm i hi)) (holds_set ?_)) ((E.set (s := .dat d1) m1 fun _ z => nomatch z).set (s := .dat d2) m3 fun _ z => nomatch z)⟩
          rw [List.getElem?_set_ne hij]
          exact hm j hj⟩
section
variable {X : Cx} {tb : List Addr} {ds : List Sl} {scope : Scope} {Ng : List Str} {mp : List (Option Nat)} {tg elt iter : Expr} {p pos gpos : Pos} {g : TG} {C P : Addr} {k : Nat}
theorem ed_allG {α : Type} (ys : List α) (enc : α → PyData) (pb : α → Bool) (es : α → List Sl) (hP : P ∈ tb) (hr : Room (k + 1) X.A) (hm : X.mg "all" = none) (TB : GxR.TabB X.base X.mg C P) (hcode : X.env.code = .ref C) (ok : GxOk X.N X.env.scope scope Ng mp)
    (hi : PId X tb tg iter ds (ys.map enc)) (hpg : ∀ (s : Shared) (H : Hp) (code : Value) (fp : List Addr), PG (X.gx Ng s H scope code fp) tg g)
    (htg : ∀ y ∈ ys, TgD X.K tb mp g (pickD ds mp) (enc y) (es y))
    (he : ∀ (i : Nat) y, ys[i]? = some y → (∀ z ∈ ys.take i, pb z = true) → ∀ (s : Shared) (H : Hp) (code : Value) (fp : List Addr), PEd (X.gx Ng s H scope code fp) tb elt (es y) (.bool (pb y)))
    (hg : Gl X "all" := by rfl) (hb : bootBuiltins "all" = some (.builtin "all") := by decide +kernel) (hs : ∀ v, genFold iter X.env v = pure v := by intro _; rfl)
    (hst : starEach [.GeneratorExp elt [⟨tg, iter, [], 0⟩] scope gpos] X.env = (false, eval (.GeneratorExp elt [⟨tg, iter, [], 0⟩] scope gpos) X.env) :: starEach [] X.env := by rfl) :
    PEd X tb (.Call (.Name "all" p) [.GeneratorExp elt [⟨tg, iter, [], 0⟩] scope gpos] [] pos) ds (.bool (ys.all pb)) := by
  obtain ⟨wi, p1, q1⟩ := hi
  refine ⟨_, pe_allG (te := fun σ H Q => ∀ (s : Shared) (H' : Hp) (code : Value) (fp : List Addr), wpE (X.gx Ng s H' scope code fp) elt σ H Q) hr hg hm TB hcode ok p1 hpg (fun s H code fp => ⟨fun pins s' σ H' Q I h => pe_can.run pins s' σ H' Q I (h s H code fp)⟩) hb hs hst, fun Hd H σ E Q z => ?_⟩
  refine q1 Hd H σ E _ fun J Hd1 H1 gr wk => ⟨(E.up gr).tb P hP, fun H2 ht => ?_⟩
  have T := (E.up gr).tb P hP
  have g12 : Gr Hd1 H1 Hd1 H2 := Gr.tab gr.h ht T
  have g02 := gr.trans g12
  refine ⟨fun i m _ H' => m = ys.length - i ∧ i ≤ ys.length ∧ (∀ y ∈ ys.take i, pb y = true) ∧ ∃ Hd', Gr Hd1 H2 Hd' H', ⟨ys.length, by simp, Nat.zero_le _, fun y hy => by simp at hy, Hd1, Gr.refl g12.h⟩, ⟨?_⟩⟩
  rintro i m acc H' ⟨rfl, him, hpre, Hd', g'⟩
  have E' : Env X.K tb Hd' H' σ ds := (E.up g02).up g'
  by_cases hlt : i < ys.length
  · have hil : i < (ys.map enc).length := by rw [List.length_map]; exact hlt
    have hy : ys[i]? = some ys[i] := List.getElem?_eq_getElem hlt
    refine .inr ⟨wk.go i Hd' H' g'.d g'.h hil, fun x H2' yl => ?_⟩
    obtain ⟨Hd2, dd, e1, g2, dv⟩ := wk.yl i Hd' H' x H2' g'.d g'.h hil yl
    have ed : dd = enc ys[i] := by
      rw [List.getElem?_map, hy] at e1
      exact (Option.some.inj e1).symm
    subst ed
    refine (htg _ (List.getElem_mem hlt)).go Hd2 H2' (pick σ mp) x _ (fun j hj => pick_none hj) ((env_pick E' mp).up g2) dv fun σ2 hh E2 => ⟨hh, fun s Hx code fp => ?_⟩
    refine (he i ys[i] hy hpre s Hx code fp).can Hd2 H2' σ2 E2 _ fun v Hd3 H3 g3 dv3 => ?_
    cases dv3
    have gg : Gr Hd1 H2 Hd3 H3 := (g'.trans g2).trans g3
    refine ⟨⟨pb ys[i], rfl, fun hf => ?_⟩, fun ht => ⟨ys.length - (i + 1), by omega, rfl, hlt, fun y hy' => ?_, Hd3, gg⟩⟩
    · have ea : ys.all pb = false := by
        cases q : ys.all pb with
        | false => rfl
        | true =>
          have := List.all_eq_true.mp q ys[i] (List.getElem_mem hlt)
          rw [hf] at this
          cases this
      exact z _ Hd3 H3 (g02.trans gg) (by rw [ea]; exact .bl false)
    · rw [List.take_add_one, hy] at hy'
      rcases List.mem_append.mp hy' with q | q
      · exact hpre y q
      · have : y = ys[i] := by simpa using q
        rw [this]
        exact V.bl.inj ht
  · have ei : i = ys.length := by omega
    subst ei
    refine .inl ⟨wk.st _ Hd' H' g'.d g'.h (by rw [List.length_map]; exact Nat.le_refl _), ?_⟩
    have ea : ys.all pb = true := List.all_eq_true.mpr fun y hy => hpre y (by rw [List.take_length]; exact hy)
    exact z _ Hd' H' (g02.trans g') (by rw [ea]; exact .bl true)
end
end DL
/-! DL24: texts in order; min, sorted of texts; list, tuple of lists and tuples; max of two; zip, enumerate, reversed; powers. -/
namespace DL
open PySem PySem.Spec PyProof.Rows L2
/-- the order of texts -/
def ltS (x y : Str) : Bool := decide (x.cps.toList < y.cps.toList)
section
variable {X : Cx} {tb : List Addr} {W : WX'} {ds es : List Sl} {d e f : PyData} {a b : Expr} {pos p : Pos} {K : PySem.W.Frag}
theorem cmp_ltS {x y : Str} : CmpD X tb .Lt (.str x) (.str y) (ltS x y) := ⟨⟨_, op_lt_str, fun Hd H u v D _ dx dy Q q => by
  cases dx
  cases dy
  exact ⟨x, y, rfl, rfl, q _ Hd H (Gr.refl D) (.bl _)⟩⟩⟩
/-- sorted texts: the one arrangement that rises -/
theorem rc_sortedS {xs : List Str} {f : PyData} (hl : xs.length < 64) (h : ∀ ys : List Str, ys.Perm xs → sortedS ys = true → f = .list (ys.map .str)) : RcD K (rSortedS K) [.list (xs.map .str)] f := fun Hd H vs D dx Q q => by
  cases dx with
  | cons h1 h2 =>
    cases h2
    cases h1 with
    | @lst A us _ k1 k2 =>
      have e := dpa_strs k2
      subst e
      refine ⟨A, xs, rfl, sl_sub D.s k1, hl, fun ys p hp hs hn => ?_⟩
      have g := Gr.new (o := .lst (ys.map V.str)) D hn fun _ z => HO.noConfusion z
      refine q _ _ _ g ?_
      rw [h ys hp hs]
      exact .lst (.inl (.inl upd_same)) (strs_dpa ys)
where strs_dpa {K : PySem.W.Frag} {Hd : Hp} : ∀ ys : List Str, DpAll K Hd (ys.map V.str) (ys.map PyData.str)
  | [] => .nil
  | y :: r => .cons (.str y) (strs_dpa r)
theorem ed_sortedS {xs : List Str} {f : PyData} (hm : X.mg "sorted" = none) (ha : PEd X tb a ds (.list (xs.map .str))) (hl : xs.length < 64) (h : ∀ ys : List Str, ys.Perm xs → sortedS ys = true → f = .list (ys.map .str)) (hg : Gl X "sorted" := by rfl) (hs : starEach [a] X.env = [(false, eval a X.env)] := by rfl) :
    PEd X tb (.Call (.Name "sorted" p) [a] [] pos) ds f := ed_callB cr_sortedS (rc_sortedS hl h) hm (by decide +kernel) (ad_cons ha ad_nil hs) hg (by decide) (by decide) hs (by rfl)
theorem rc_list {xs : List PyData} (hd : d = .list xs ∨ d = .tuple xs) : RcD K (fun vs H Q => ∃ p ys, vs = [.ref p] ∧ (SqL K H p ys ∨ SqT K H p ys) ∧ ∀ l, H l = none → Q (.ref l) (upd H l (.lst ys))) [d] (.list xs) := fun Hd H vs D dx Q q => by
  cases dx with
  | cons h1 h2 =>
    cases h2
    rcases hd with rfl | rfl
    · cases h1 with
      | @lst a us _ k1 k2 => exact ⟨a, us, rfl, .inl (sl_sub D.s k1), fun l hl => q _ _ _ (Gr.new D hl fun _ z => HO.noConfusion z) (.lst (.inl (.inl upd_same)) (DpAll.up k2 (Gr.new D hl fun _ z => HO.noConfusion z).d))⟩
    · cases h1 with
      | @tup a us _ k1 k2 => exact ⟨a, us, rfl, .inr (st_sub D.s k1), fun l hl => q _ _ _ (Gr.new D hl fun _ z => HO.noConfusion z) (.lst (.inl (.inl upd_same)) (DpAll.up k2 (Gr.new D hl fun _ z => HO.noConfusion z).d))⟩
theorem rc_tuple {xs : List PyData} (hd : d = .list xs ∨ d = .tuple xs) : RcD K (fun vs H Q => ∃ p ys, vs = [.ref p] ∧ ((SqL K H p ys ∧ ∀ l, H l = none → Q (.ref l) (upd H l (.tup ys))) ∨ (SqT K H p ys ∧ Q (.ref p) H))) [d] (.tuple xs) := fun Hd H vs D dx Q q => by
  cases dx with
  | cons h1 h2 =>
    cases h2
    rcases hd with rfl | rfl
    · cases h1 with
      | @lst a us _ k1 k2 => exact ⟨a, us, rfl, .inl ⟨sl_sub D.s k1, fun l hl => q _ _ _ (Gr.new D hl fun _ z => HO.noConfusion z) (.tup (.inl (.inl upd_same)) (DpAll.up k2 (Gr.new D hl fun _ z => HO.noConfusion z).d))⟩⟩
    · cases h1 with
      | @tup a us _ k1 k2 => exact ⟨a, us, rfl, .inr ⟨st_sub D.s k1, q _ Hd H (Gr.refl D) (.tup k1 k2)⟩⟩
/-- list(e), tuple(e) of a list, a tuple -/
theorem ed_list {xs : List PyData} (hm : X.mg "list" = none) (ha : PEd X tb a ds d) (hd : d = .list xs ∨ d = .tuple xs) (hg : Gl X "list" := by rfl) (hs : starEach [a] X.env = (false, eval a X.env) :: starEach [] X.env := by rfl) : PEd X tb (.Call (.Name "list" p) [a] [] pos) ds (.list xs) :=
  ed_callTy call_list_of (rc_list hd) hm (by decide +kernel) (ad_cons ha ad_nil hs) hg (by decide) (by decide) hs (by rfl)
theorem ed_tuple {xs : List PyData} (hm : X.mg "tuple" = none) (ha : PEd X tb a ds d) (hd : d = .list xs ∨ d = .tuple xs) (hg : Gl X "tuple" := by rfl) (hs : starEach [a] X.env = (false, eval a X.env) :: starEach [] X.env := by rfl) : PEd X tb (.Call (.Name "tuple" p) [a] [] pos) ds (.tuple xs) :=
  ed_callTy call_tuple_of (rc_tuple hd) hm (by decide +kernel) (ad_cons ha ad_nil hs) hg (by decide) (by decide) hs (by rfl)
theorem ed_max2 {i j : Int} (hc : X.calm = true) (hm : X.mg "max" = none) (ha : PEd X tb a ds (.int i)) (hb : PEd X tb b ds (.int j)) (hg : Gl X "max" := by rfl)
    (hs : starEach [a, b] X.env = (false, eval a X.env) :: starEach [b] X.env := by rfl) (hs2 : starEach [b] X.env = (false, eval b X.env) :: starEach [] X.env := by rfl) (hpl : (backTo pos (starEach [b] X.env)).any (·.1) = false := by rfl) :
    PEd X tb (.Call (.Name "max" p) [a, b] [] pos) ds (.int (if j > i then j else i)) :=
  ed_callB (call_max2 hc) (fun Hd H vs D dx Q q => by
    cases dx with
    | cons h1 h2 =>
      cases h2 with
      | cons h3 h4 =>
        cases h4
        cases h1
        cases h3
        exact ⟨i, j, rfl, q _ Hd H (Gr.refl D) (.int _)⟩) hm (by decide +kernel) (ad_cons ha (ad_cons hb ad_nil hs2) hs) hg (by decide) (by decide) hs hpl
theorem ed_min2 {i j : Int} (hc : X.calm = true) (hm : X.mg "min" = none) (ha : PEd X tb a ds (.int i)) (hb : PEd X tb b ds (.int j)) (hg : Gl X "min" := by rfl)
    (hs : starEach [a, b] X.env = (false, eval a X.env) :: starEach [b] X.env := by rfl) (hs2 : starEach [b] X.env = (false, eval b X.env) :: starEach [] X.env := by rfl) (hpl : (backTo pos (starEach [b] X.env)).any (·.1) = false := by rfl) :
    PEd X tb (.Call (.Name "min" p) [a, b] [] pos) ds (.int (if j < i then j else i)) :=
  ed_callB (call_min2 hc) (fun Hd H vs D dx Q q => by
    cases dx with
    | cons h1 h2 =>
      cases h2 with
      | cons h3 h4 =>
        cases h4
        cases h1
        cases h3
        exact ⟨i, j, rfl, q _ Hd H (Gr.refl D) (.int _)⟩) hm (by decide +kernel) (ad_cons ha (ad_cons hb ad_nil hs2) hs) hg (by decide) (by decide) hs hpl
theorem bin_pow {i j : Int} (c : 0 ≤ j ∧ j ≤ 1000000 ∧ i.natAbs < 2 ^ 64) : BinD X tb .Pow (.int i) (.int j) (.int (i ^ j.toNat)) := ⟨⟨_, op_pow, rv_I (C := CPow) (h := fun i j => .int (i ^ j.toNat)) c fun _ => .int _⟩⟩
end
/-! ### what is walked -/
section
variable {X : Cx} {tb : List Addr} {ds : List Sl} {a b : Expr} {pos p tpos : Pos} {elts : List Expr} {kk : Nat}
/-- pairs of the items of two lists -/
def zipD (xs ys : List PyData) : List PyData := (xs.zip ys).map fun p => .tuple [p.1, p.2]
theorem zip_get {xs ys : List PyData} {i : Nat} (h : i < (zipD xs ys).length) : ∃ x y, xs[i]? = some x ∧ ys[i]? = some y ∧ (zipD xs ys)[i]? = some (.tuple [x, y]) := by
  unfold zipD at *
  rw [List.length_map, List.length_zip] at h
  have h1 : i < xs.length := by omega
  have h2 : i < ys.length := by omega
  refine ⟨xs[i], ys[i], List.getElem?_eq_getElem h1, List.getElem?_eq_getElem h2, ?_⟩
  rw [List.getElem?_map, List.getElem?_eq_getElem (by rw [List.length_zip]; omega), List.getElem_zip] <;> rfl
theorem id_zip {xs ys : List PyData} (hm : X.mg "zip" = none) (ha : PEd X tb a ds (.list xs)) (hb : PEd X tb b ds (.list ys)) (hg : Gl X "zip" := by rfl) (hs : starEach [a, b] X.env = (false, eval a X.env) :: starEach [b] X.env := by rfl)
    (hs2 : starEach [b] X.env = (false, eval b X.env) :: starEach [] X.env := by rfl) (hpl : (backTo pos (starEach [b] X.env)).any (·.1) = false := by rfl) : PId X tb (.Tuple elts kk tpos) (.Call (.Name "zip" p) [a, b] [] pos) ds (zipD xs ys) :=
  let ⟨_, p1, q1⟩ := ad_cons ha (ad_cons hb ad_nil hs2) hs; ⟨_, pi_zip hg hm p1 hs hpl, fun Hd H σ E R z => q1 Hd H σ E _ fun vs Hd1 H1 g dv => by
    cases dv with
    | cons h1 h2 =>
      cases h2 with
      | cons h3 h4 =>
        cases h4
        cases h1 with
        | @lst A us _ k1 k2 =>
          cases h3 with
          | @lst B ws _ m1 m2 =>
            refine ⟨A, B, us, ws, rfl, sl_sub g.h.s k1, sl_sub g.h.s m1, z _ Hd1 H1 g ⟨fun i Hd' H' s D hi => ?_, fun i Hd' H' x H'' s D hi y => ?_, fun i Hd' H' s D hi => ?_⟩⟩
            · obtain ⟨x, y, e1, e2, _⟩ := zip_get hi
              obtain ⟨u, f1, _⟩ := dpa_get k2 e1
              obtain ⟨v, f2, _⟩ := dpa_get m2 e2
              exact ⟨us, ws, u, v, sl_sub D.s (sl_sub s k1), sl_sub D.s (sl_sub s m1), f1, f2⟩
            · obtain ⟨x', y', e1, e2, e3⟩ := zip_get hi
              obtain ⟨T, u, v, rfl, hT, rfl, f1, f2⟩ := y
              have f1 := f1 us (sl_sub D.s (sl_sub s k1))
              have f2 := f2 ws (sl_sub D.s (sl_sub s m1))
              obtain ⟨d1, n1, n2⟩ := dpa_get' k2 f1
              obtain ⟨d2, n3, n4⟩ := dpa_get' m2 f2
              rw [e1] at n1
              cases n1
              rw [e2] at n3
              cases n3
              have gn := Gr.new (o := .tup [u, v]) D hT fun _ z => HO.noConfusion z
              exact ⟨_, _, e3, gn, .tup (.inl (.inl upd_same)) (.cons (Dp.up n2 (s.trans gn.d)) (.cons (Dp.up n4 (s.trans gn.d)) .nil))⟩
            · refine ⟨us, ws, sl_sub D.s (sl_sub s k1), sl_sub D.s (sl_sub s m1), ?_⟩
              unfold zipD at hi
              rw [List.length_map, List.length_zip] at hi
              rw [dpa_len k2, dpa_len m2]
              omega⟩
/-- (0, x), (1, y), .. -/
def enumD (xs : List PyData) : List PyData := (List.range xs.length).map fun (i : Nat) => .tuple [.int (i : Int), xs.getD i .none]
theorem id_enum {xs : List PyData} (hm : X.mg "enumerate" = none) (ha : PEd X tb a ds (.list xs)) (hg : Gl X "enumerate" := by rfl) (hs : starEach [a] X.env = (false, eval a X.env) :: starEach [] X.env := by rfl) : PId X tb (.Tuple elts kk tpos) (.Call (.Name "enumerate" p) [a] [] pos) ds (enumD xs) :=
  let ⟨_, p1, q1⟩ := ad_cons ha ad_nil hs; ⟨_, pi_enum hg hm p1 hs, fun Hd H σ E R z => q1 Hd H σ E _ fun vs Hd1 H1 g dv => by
    have ln : (enumD xs).length = xs.length := by unfold enumD; rw [List.length_map, List.length_range]
    cases dv with
    | cons h1 h2 =>
      cases h2
      cases h1 with
      | @lst A us _ k1 k2 =>
        refine ⟨A, us, rfl, sl_sub g.h.s k1, z _ Hd1 H1 g ⟨fun i Hd' H' s D hi => ?_, fun i Hd' H' x H'' s D hi y => ?_, fun i Hd' H' s D hi => ?_⟩⟩
        · rw [ln] at hi
          obtain ⟨u, f1, _⟩ := dpa_get k2 (List.getElem?_eq_getElem hi)
          exact ⟨us, u, sl_sub D.s (sl_sub s k1), f1⟩
        · rw [ln] at hi
          obtain ⟨T, u, rfl, hT, rfl, f1⟩ := y
          have f1 := f1 us (sl_sub D.s (sl_sub s k1))
          obtain ⟨d1, n1, n2⟩ := dpa_get' k2 f1
          have gn := Gr.new (o := .tup [.int (i : Nat), u]) D hT fun _ z => HO.noConfusion z
          refine ⟨_, .tuple [.int (i : Int), d1], ?_, gn, .tup (.inl (.inl upd_same)) (.cons (.int _) (.cons (Dp.up n2 (s.trans gn.d)) .nil))⟩
          unfold enumD
          rw [List.getElem?_map, List.getElem?_range hi]
          show some (PyData.tuple [PyData.int i, xs.getD i PyData.none]) = _
          rw [List.getD_eq_getElem?_getD, n1] <;> rfl
        · rw [ln] at hi
          exact ⟨us, sl_sub D.s (sl_sub s k1), by rw [dpa_len k2]; exact hi⟩⟩
end
end DL
/-! DL25: min of a list of texts; tuple(reversed(a tuple)). -/
namespace DL
open PySem PySem.Spec PyProof.Rows L2
theorem argBest_mem (bt : Nat → Nat → Bool) : ∀ n : Nat, argBest bt n ≤ n
  | 0 => Nat.le_refl _
  | n + 1 => by
    show (if bt (n + 1) (argBest bt n) then n + 1 else argBest bt n) ≤ n + 1
    split
    · exact Nat.le_refl _
    · exact Nat.le_succ_of_le (argBest_mem bt n)
/-- the least of some texts -/
def minS (xs : List Str) : Str := xs.getD (argBest (fun i j => ltS (xs.getD i "") (xs.getD j "")) (xs.length - 1)) ""
theorem minS_mem {xs : List Str} (h : 0 < xs.length) : minS xs ∈ xs := by
  have hb := argBest_mem (fun i j => ltS (xs.getD i "") (xs.getD j "")) (xs.length - 1)
  unfold minS
  rw [List.getD_eq_getElem?_getD, List.getElem?_eq_getElem (by omega)]
  exact List.getElem_mem _
section
variable {prog : Program} {w : World} {A : Around} {E : Value → Shared → Prop} {s : Shared}
theorem min_strList {l : Addr} {its : List Value} {xs : List Str} {Q : Value → Shared → Prop} (hh : A.handled = none) (hl : s.heap.IsList l its.toArray) (hv : Vals (xs.map V.str) its) (hne : 0 < xs.length)
    (h : ∀ v h' tk, RelV (.str (minS xs)) v → (∀ b o, s.heap.get? b = some o → h'.get? b = some o) → Q v { s with heap := h', toks := tk }) :
    wpAny (model prog w) A (call (.builtin "min") [.ref l]) Q E s := by
  have ln := hv.length
  rw [List.length_map] at ln
  have at_ : ∀ {i : Nat} {v : Value}, its.toArray[i]? = some v → ∃ t, v = .str (xs.getD i "") t := fun {i v} e => by
    have e : its[i]? = some v := by simpa using e
    have hi : i < xs.length := by
      have := (List.getElem?_eq_some_iff.mp e).1
      omega
    obtain ⟨u, h1, h2⟩ := hv.get (i := i) (x := .str xs[i]) (by rw [List.getElem?_map, List.getElem?_eq_getElem hi] <;> rfl)
    rw [e] at h1
    cases h1
    obtain ⟨t, e2⟩ := h2
    refine ⟨t, ?_⟩
    rw [e2, List.getD_eq_getElem?_getD, List.getElem?_eq_getElem hi] <;> rfl
  refine call_min_walk ?_
  obtain ⟨o, ho, _⟩ := id hl
  refine wpAny_pyIter_list hl ?_
  refine ⟨_, _, _, _, _, _, fun i j => ltS (xs.getD i "") (xs.getD j ""), rfl, Walks.list (A := A.in1) hh s.heap.objs.size l (Nat.ne_of_lt (Heap.lt_size ho)) its.toArray, ?_, ?_, ?_, ?_, fun v h' tk hP hk => ?_⟩
  · exact ⟨⟨_, Heap.get?_push_size _ rfl, rfl, rfl⟩, hl.push _⟩
  · intro b hb
    show b < (s.heap.push _).objs.size
    rw [Heap.size_push]
    rcases List.mem_cons.mp hb with rfl | hb
    · exact Nat.lt_succ_self _
    · rw [List.mem_singleton.mp hb]
      exact Nat.lt_succ_of_lt (Heap.lt_size ho)
  · rw [List.size_toArray]
    omega
  · intro i j vi vj s2 Q2 E2 hi hj hQ
    obtain ⟨t1, e1⟩ := at_ hi
    obtain ⟨t2, e2⟩ := at_ hj
    subst e1 e2
    exact PySem.P.lt_str hQ
  · obtain ⟨t, e⟩ := at_ hP
    rw [List.size_toArray, ← ln] at e
    refine h v h' tk ⟨t, e⟩ (fun b o eb => hk b o ?_ (Heap.get?_push_of_some _ eb))
    intro hm
    rw [List.mem_singleton.mp hm] at eb
    exact absurd (Heap.lt_size eb) (Nat.lt_irrefl _)
end
section
variable {X : Cx} {tb : List Addr} {ds : List Sl} {a : Expr} {pos p : Pos}
def rMinS (K : PySem.W.Frag) : List V → Hp → VK → Prop := fun vs H Q => ∃ (a : Addr) (xs : List Str), vs = [V.ref a] ∧ SqL K H a (xs.map V.str) ∧ 0 < xs.length ∧ Q (.str (minS xs)) H
theorem cr_minS (hc : X.calm = true) : CallR X (.builtin "min") (rMinS X.K) := by
  intro pins s σ H vs us Q I r h
  obtain ⟨a, xs, rfl, hs, hne, q⟩ := h
  obtain ⟨its, rv, hl, _⟩ := I.list hs
  rw [Vals.ref1 r]
  exact min_strList (I.ok.hd hc) hl.isList rv hne fun v h' tk rv2 hk => ⟨.str _, H, I.kept hk, rv2, q⟩
theorem ed_minS {xs : List Str} (hc : X.calm = true) (hm : X.mg "min" = none) (ha : PEd X tb a ds (.list (xs.map .str))) (h : 0 < xs.length) (hg : Gl X "min" := by rfl) (hs : starEach [a] X.env = [(false, eval a X.env)] := by rfl) : PEd X tb (.Call (.Name "min" p) [a] [] pos) ds (.str (minS xs)) :=
  ed_callB (cr_minS hc) (fun Hd H vs D dx Q q => by
    cases dx with
    | cons h1 h2 =>
      cases h2
      cases h1 with
      | @lst A us _ k1 k2 =>
        have e := dpa_strs k2
        subst e
        exact ⟨A, xs, rfl, sl_sub D.s k1, h, q _ Hd H (Gr.refl D) (.str _)⟩) hm (by decide +kernel) (ad_cons ha ad_nil hs) hg (by decide) (by decide) hs (by rfl)
end
/-! ### the order of texts -/
theorem ltS_irr (x : Str) : ltS x x = false := decide_eq_false (List.lt_irrefl _)
theorem ltS_tr {x y z : Str} (h : ltS x y = true) (k : ltS y z = true) : ltS x z = true := decide_eq_true (List.lt_trans (of_decide_eq_true h) (of_decide_eq_true k))
theorem str_ext {x y : Str} (h : x.cps.toList = y.cps.toList) : x = y := by
  cases x
  cases y
  exact congrArg _ (Array.toList_inj.mp h)
theorem ltS_tot (x y : Str) : ltS x y = true ∨ x = y ∨ ltS y x = true := by
  rcases (Nat.lt_trichotomy 0 0) with _ | _ | _
  all_goals first
    | exact absurd (by assumption) (Nat.lt_irrefl _)
    | skip
  by_cases h : x.cps.toList < y.cps.toList
  · exact .inl (decide_eq_true h)
  · by_cases k : y.cps.toList < x.cps.toList
    · exact .inr (.inr (decide_eq_true k))
    · exact .inr (.inl (str_ext (List.le_antisymm (List.not_lt.mp k) (List.not_lt.mp h))))
/-- rising: none is less than one ahead of it -/
def risesS (l : List Str) : Prop := l.Pairwise fun x y => ltS y x = false
theorem ltS_le_tr {x y z : Str} (h : ltS y x = false) (k : ltS z y = false) : ltS z x = false := by
  cases q : ltS z x with
  | false => rfl
  | true =>
    rcases ltS_tot x y with r | r | r
    · have := ltS_tr q r
      rw [k] at this
      cases this
    · subst r
      rw [k] at q
      cases q
    · rw [h] at r
      cases r
end DL
/-! DL26: sorted texts, as a function. -/
namespace DL
open PySem PySem.Spec PyProof.Rows L2
theorem rises_cons {x y : Str} {l : List Str} (h : ltS y x = false) (k : risesS (y :: l)) : risesS (x :: y :: l) := by
  obtain ⟨k1, k2⟩ := List.pairwise_cons.mp k
  refine List.pairwise_cons.mpr ⟨fun z hz => ?_, k⟩
  rcases List.mem_cons.mp hz with rfl | hz
  · exact h
  · exact ltS_le_tr h (k1 z hz)
theorem rising_rises : ∀ (l : List Str) (x : Str), risingS x l = true → risesS (x :: l)
  | [], x, _ => List.pairwise_singleton _ _
  | y :: l, x, h => by
    have h : (!ltCps y.cps.toList x.cps.toList && risingS y l) = true := h
    obtain ⟨h1, h2⟩ := Bool.and_eq_true_iff.mp h
    refine rises_cons ?_ (rising_rises l y h2)
    cases q : ltS y x with
    | false => rfl
    | true =>
      have : ltCps y.cps.toList x.cps.toList = true := by
        have q : decide (y.cps.toList < x.cps.toList) = true := q
        rw [PyProof.Rows.ltCps_eq]
        exact q
      rw [this] at h1
      cases h1
theorem sorted_rises : ∀ {l : List Str}, sortedS l = true → risesS l
  | [], _ => .nil
  | x :: l, h => rising_rises l x h
theorem rises_uniq : ∀ {l k : List Str}, l.Perm k → risesS l → risesS k → l = k
  | [], k, p, _, _ => (List.nil_perm.mp p).symm
  | x :: l, k, p, h1, h2 => by
    cases k with
    | nil => exact absurd p.length_eq (by simp)
    | cons y k =>
      obtain ⟨a1, a2⟩ := List.pairwise_cons.mp h1
      obtain ⟨b1, b2⟩ := List.pairwise_cons.mp h2
      have e : x = y := by
        rcases List.mem_cons.mp (p.subset List.mem_cons_self) with e | hx
        · exact e
        · rcases List.mem_cons.mp (p.symm.subset List.mem_cons_self) with e | hy
          · exact e.symm
          · have c1 := b1 x hx
            have c2 := a1 y hy
            rcases ltS_tot x y with q | q | q
            · rw [q] at c1
              cases c1
            · exact q
            · rw [q] at c2
              cases c2
      subst e
      rw [rises_uniq (List.perm_cons x |>.mp p) a2 b2]
def leS (x y : Str) : Bool := !ltS y x
def sortS (xs : List Str) : List Str := xs.mergeSort leS
theorem sortS_perm (xs : List Str) : (sortS xs).Perm xs := List.mergeSort_perm _ _
theorem sortS_rises (xs : List Str) : risesS (sortS xs) := by
  have h := List.pairwise_mergeSort (le := leS) (fun a b c h k => by
    have h : (!ltS b a) = true := h
    have k : (!ltS c b) = true := k
    rw [Bool.not_eq_true'] at h k
    show (!ltS c a) = true
    rw [ltS_le_tr h k] <;> rfl) (fun a b => by
    show (!ltS b a || !ltS a b) = true
    rcases ltS_tot a b with q | q | q
    · have : ltS b a = false := by
        cases r : ltS b a with
        | false => rfl
        | true =>
          have := ltS_tr q r
          rw [ltS_irr] at this
          cases this
      rw [this] <;> rfl
    · subst q
      rw [ltS_irr] <;> rfl
    · have : ltS a b = false := by
        cases r : ltS a b with
        | false => rfl
        | true =>
          have := ltS_tr q r
          rw [ltS_irr] at this
          cases this
      rw [this, Bool.or_comm] <;> rfl) xs
  exact h.imp fun {a b} hab => by
    have hab : (!ltS b a) = true := hab
    rwa [Bool.not_eq_true'] at hab
theorem sortS_len (xs : List Str) : (sortS xs).length = xs.length := (sortS_perm xs).length_eq
theorem sortS_mem {xs : List Str} {x : Str} : x ∈ sortS xs ↔ x ∈ xs := (sortS_perm xs).mem_iff
section
variable {X : Cx} {tb : List Addr} {ds : List Sl} {a : Expr} {pos p : Pos}
theorem ed_sortS {xs : List Str} (hm : X.mg "sorted" = none) (ha : PEd X tb a ds (.list (xs.map .str))) (hl : xs.length < 64) (hg : Gl X "sorted" := by rfl) (hs : starEach [a] X.env = [(false, eval a X.env)] := by rfl) :
    PEd X tb (.Call (.Name "sorted" p) [a] [] pos) ds (.list ((sortS xs).map .str)) :=
  ed_sortedS hm ha hl (fun ys hp hr => by rw [rises_uniq (hp.trans (sortS_perm xs).symm) (sorted_rises hr) (sortS_rises xs)]) hg hs
end
end DL
/-! DL27: tuple(reversed(a tuple)). -/
namespace DL
open PySem PySem.Spec PyProof.Rows L2 RT
theorem nolen_rv : typeLookup (.type "reversed") "__len__" = pure none := by rw [typeLookup_type, builtinLookup_eq_fast]; kernel_rfl
theorem hint_rv : typeLookup (.type "reversed") "__length_hint__" = pure (some (.builtin "reversed.__length_hint__")) := by rw [typeLookup_type, builtinLookup_eq_fast]; kernel_rfl
theorem slot_rv_hint : Slot "reversed" "__length_hint__" "reversed.__length_hint__" :=
  .of (owner := "reversed") (n := "__length_hint__") (by rw [typeLookup_type, builtinLookup_eq_fast]; kernel_rfl) (by decide +kernel) (by decide +kernel) (by decide +kernel)
    (by first | exact .inl (by decide +kernel) | exact .inr (by decide +kernel)) (by rw [isSubtype_type]; kernel_rfl)
theorem entry_rv_hint : entryFor table "reversed.__length_hint__" = some Builtin.«reversed.__length_hint__» := entryFor_of_tree (by kernel_rfl)
theorem args_rv_hint (a : Value) : argsOk "reversed.__length_hint__" ⟨[a], []⟩ := by
  unfold argsOk; rw [signature?_of (id := "reversed.__length_hint__") (n := ['_', '_', 't', 'n', 'i', 'h', '_', 'h', 't', 'g', 'n', 'e', 'l', '_', '_']) (o := ['d', 'e', 's', 'r', 'e', 'v', 'e', 'r']) (by kernel_rfl) owner_rt]; kernel_rfl
theorem type_rv_hint : typeOf (.builtin "reversed.__length_hint__") = pure (.type "method_descriptor") := by first | kernel_rfl | rfl
section
variable {prog : Program} {w : World} {A : Around} {E : Value → Shared → Prop} {s : Shared}
theorem walks_rt (hh : A.handled = none) (I t : Addr) (hne : t ≠ I) (items : Array Value) (hz : items.size ≤ sizeLine) : Walks prog w A I [I, t] [I] items.size (fun i v => items[items.size - 1 - i]? = some v) (fun i h => i ≤ items.size ∧ IsRt h I t ((items.size : Int) - 1 - (i : Int)) ∧ IsTup h t items) where
  sub := fun b hb => by simp at hb; simp [hb]
  frame := fun _ _ _ x hk => ⟨x.1, x.2.1.at fun o e => hk I (by simp) o e, let ⟨o, ho, r⟩ := x.2.2; ⟨o, hk t (by simp) o ho, r⟩⟩
  item := fun i s Q E hi x hQ => by
    have e : (items.size : Int) - 1 - (i : Int) = ((items.size - 1 - i : Nat) : Int) := by omega
    have hit := x.2.1
    rw [e] at hit
    have hx : items[items.size - 1 - i]? = some (items[items.size - 1 - i]'(by omega)) := Array.getElem?_eq_getElem (by omega)
    refine next_rt_item hit x.2.2 hx hz fun h' hit' hs' => ?_
    have e2 : ((items.size - 1 - i : Nat) : Int) - 1 = (items.size : Int) - 1 - ((i + 1 : Nat) : Int) := by omega
    rw [e2] at hit'
    exact hQ _ h' (s.toks + 1) hx ⟨hi, hit', let ⟨o, ho, r⟩ := x.2.2; ⟨o, (hs'.2 t hne).trans ho, r⟩⟩ fun b o hb eo => hs'.extBut b o (fun h => hb (by simp [h])) eo
  done := fun s Q E x hQ => by
    have e : (items.size : Int) - 1 - (items.size : Int) = -1 := by omega
    have hit := x.2.1
    rw [e] at hit
    exact next_rt_end hh hit fun h' he' => hQ h' s.toks fun b o hb eo => he' b o (fun h => hb (by simp [h])) eo
  self := fun _ _ _ _ x hQ => iter_rt x.2.1 hQ
theorem hint_call {I t : Addr} {items : Array Value} {Q : Value → Shared → Prop} (hit : IsRt s.heap I t ((items.size : Int) - 1)) (ht : IsTup s.heap t items) (hz : items.size ≤ sizeLine) (hQ : ∀ u tk, Q (.int (items.size : Int) u) { s with toks := tk }) :
    wpAny (model prog w) A (call (.builtin "reversed.__length_hint__") [.ref I]) Q E s := by
  obtain ⟨o, ho, hc, hd⟩ := id hit
  have hn := line63
  refine wpAny_call_entry slot_rv_hint hit.typeIs entry_rv_hint ?_ (args_rv_hint _)
  unfold Builtin.«reversed.__length_hint__»
  refine wpAny_bind (wpAny_of_eq (a := Value.ref I) (by first | rfl | kernel_rfl) ?_)
  refine wpAny_bind (wpAny_field ho hd (x := .ref t) rfl ?_)
  try dsimp only
  rw [if_neg (show ¬ ((Value.ref t == Value.none) = true) from Bool.false_ne_true)]
  refine wpAny_bind (len_tuple ht (by omega) ?_)
  refine wpAny_bind (m := asInt? _) (wpAny_pure ?_)
  try dsimp only
  refine wpAny_bind (wpAny_field (s := { s with toks := _ }) ho hd (x := rawInt ((items.size : Int) - 1)) rfl ?_)
  show wpAny _ _ (if (items.size : Int) < (items.size : Int) - 1 + 1 then _ else _) _ _ _
  rw [if_neg (by omega)]
  try unfold retInt
  refine wpAny_bind (wpAny_mkInt ?_)
  have e : (items.size : Int) - 1 + 1 = items.size := by omega
  rw [e]
  exact wpAny_pure ⟨_, rfl, hQ _ _⟩
theorem collect_rt {I t : Addr} {items : Array Value} {Q : List Value → Shared → Prop} (hh : A.handled = none) (hit : IsRt s.heap I t ((items.size : Int) - 1)) (ht : IsTup s.heap t items) (hne : t ≠ I) (hn : items.size ≤ sizeLine)
    (hQ : ∀ (h' : Heap) (tk : Nat) (acc : Array Value), (∀ b o, b ≠ I → s.heap.get? b = some o → h'.get? b = some o) → ItemsOf (fun i v => items[items.size - 1 - i]? = some v) acc items.size → Q acc.toList { s with heap := h', toks := tk }) :
    wpAny (model prog w) A (collect (.ref I)) Q E s := by
  have W := (walks_rt (prog := prog) (w := w) (A := A.in1) hh I t hne items hn).toS
  obtain ⟨oi, hoi, _⟩ := id hit
  obtain ⟨ol, hol, _⟩ := id ht
  have hSi : s.heap.objs.size ≠ I := Nat.ne_of_gt (Heap.lt_size hoi)
  have hSl : s.heap.objs.size ≠ t := Nat.ne_of_gt (Heap.lt_size hol)
  have hSf : s.heap.objs.size ∉ [I, t] := by simp only [List.mem_cons, List.not_mem_nil, or_false, not_or]; exact ⟨hSi, hSl⟩
  unfold collect
  refine wpAny_bind (wpAny_runValue (codeAny_builtin F.entry_proto_collect ?_))
  rw [Around.under_plainId F.plain_proto_collect _]
  show wpAny _ A.in1 (newList [] >>= fun l' => again (.builtin "list.__iadd__" ⟨[l', .ref I], []⟩)) _ _ s
  refine wpAny_bind (wpAny_newObj_type ?_)
  refine wpAny_pure ⟨plainId_quiet F.plain_list_iadd _, codeAny_builtin F.entry_list_iadd ?_⟩
  rw [Around.under_plainId F.plain_list_iadd _]
  have hS₁ : (s.heap.push { cls := .type "list", data := .seq ([] : List Value).toArray }).get? s.heap.objs.size = some { cls := .type "list", data := .seq ([] : List Value).toArray } := Heap.get?_push_size _ rfl
  have hit1 : IsRt (s.heap.push { cls := .type "list", data := .seq ([] : List Value).toArray }) I t ((items.size : Int) - 1) := hit.at fun o e => Heap.get?_push_of_some _ e
  have ht1 : IsTup (s.heap.push { cls := .type "list", data := .seq ([] : List Value).toArray }) t items := ht.push _
  have hT : ({ s with heap := s.heap.push { cls := .type "list", data := .seq ([] : List Value).toArray } } : Shared).TypeIs (.ref I) "reversed" := IsRt.typeIs (s := { s with heap := s.heap.push { cls := .type "list", data := .seq ([] : List Value).toArray } }) hit1
  have h1 : Builtin.List.listSameRef (.ref s.heap.objs.size) (.ref I) = false := by simp [Builtin.List.listSameRef, hSi]
  show wpAny _ A.in1 (Builtin.List.listExtendWith (.ref s.heap.objs.size) (.ref I) (.ref s.heap.objs.size)) _ _ _
  unfold Builtin.List.listExtendWith
  refine wpAny_bind (wpAny_typeOf hT ?_)
  rw [if_neg (by rw [h1]; decide)]
  refine wpAny_bind (iter_rt (s := { s with heap := s.heap.push { cls := .type "list", data := .seq ([] : List Value).toArray } }) hit1 ?_)
  refine wpAny_bind (wpAny_holding ?_)
  unfold Builtin.List.listLengthHint
  refine wpAny_bind (wpAny_specialOf hT nolen_rv ?_)
  show wpAny _ A.in1 (specialOf (Value.ref I) (Str.ofString "__length_hint__") >>= _) _ _ _
  refine wpAny_bind (wpAny_specialOf hT hint_rv ?_)
  generalize hid : ("reversed.__length_hint__" : String) = id0
  wp_delta
  rw [show splitId id0 = some ("reversed", "__length_hint__") from by subst hid; decide +kernel]
  subst hid
  refine wpAny_bind (wpAny_isInstance (b := true) hT (by rw [isSubtype_type]; kernel_rfl) ?_)
  have big : Builtin.List.listTooLong ((items.size : Int)).toNat = false := by
    first
      | exact notLongL (by simpa using hn)
      | (rw [Int.toNat_natCast]; exact notLongL hn)
  show wpAny _ A.in1 (rule "list.length-hint.hint" >>= fun _ => bindSpecial (.builtin "reversed.__length_hint__") (.ref I) >>= _) _ _ _
  refine wpAny_bind (wpAny_rule (wpAny_bind ?_))
  unfold bindSpecial
  rw [type_rv_hint]
  refine wpAny_bind (wpAny_pure ?_)
  rw [if_pos (by decide)]
  refine wpAny_pure ?_
  refine wpAny_bind (wpAny_attempt (hint_call (s := { s with heap := s.heap.push { cls := .type "list", data := .seq ([] : List Value).toArray } }) hit1 ht1 hn fun u tk => ?_))
  try dsimp only
  generalize hkk : (items.size : Int) = kk
  refine wpAny_bind (m := asInt? (.int kk u)) (wpAny_pure ?_)
  subst hkk
  try dsimp only
  have fit : Builtin.List.listFitsIndex (items.size : Int) = true := by
    unfold Builtin.List.listFitsIndex
    have := line63
    exact Bool.and_eq_true_iff.mpr ⟨decide_eq_true (by omega), decide_eq_true (by omega)⟩
  rw [if_neg (by rw [fit]; decide), if_neg (by omega), if_neg (by rw [big]; decide)]
  refine wpAny_pure ?_
  have e0 : ((items.size : Nat) : Int) - 1 - ((0 : Nat) : Int) = (items.size : Int) - 1 := by omega
  have loop : ∀ (h2 : Heap) (c2 : Nat) (tk2 : Nat), (∀ b o, b ≠ s.heap.objs.size → s.heap.get? b = some o → h2.get? b = some o) → h2.get? s.heap.objs.size = some { cls := .type "list", data := .seq (#[] : Array Value) c2 } →
      codeAny (model prog w) A (.builtin "list.extend.loop" ⟨[.ref s.heap.objs.size, .ref I, .ref s.heap.objs.size], []⟩) (fun r s' => ∃ acc' c', r = .ok (.ret (.ref s.heap.objs.size)) ∧ s'.heap.get? s.heap.objs.size = some { cls := .type "list", data := .seq acc' c' } ∧ ItemsOf (fun i v => items[items.size - 1 - i]? = some v) acc' items.size ∧
        ∃ h' tk, s' = { s with heap := h', toks := tk } ∧ ∀ b o, b ≠ I → s.heap.get? b = some o → h'.get? b = some o) { s with heap := h2, toks := tk2 } := by
    intro h2 c2 tk2 hk2 hS2
    have hit2 : IsRt h2 I t ((items.size : Int) - 1) := hit.at fun o e => hk2 _ o (Ne.symm hSi) e
    have ht2 : IsTup h2 t items := let ⟨o, ho, r⟩ := ht; ⟨o, hk2 _ o (Ne.symm hSl) ho, r⟩
    refine codeAny_extend_loopS W hn _ hSf _ items.size 0 _ _ _ rfl (Nat.zero_le _) ⟨Nat.zero_le _, by rw [e0]; exact hit2, ht2⟩ hS2 (ItemsOf.nil _) fun s' acc' c' hm hS' hacc => ?_
    refine ⟨acc', c', rfl, hS', hacc, s'.heap, s'.toks, by have := Moved.eq_with hm; rw [this], fun b o hb e => ?_⟩
    refine hm.heap b o (fun hmem => ?_) (hk2 b o (Nat.ne_of_lt (Heap.lt_size e)) e)
    rcases List.mem_cons.mp hmem with e' | hmem
    · exact absurd (Heap.lt_size e) (by rw [e']; exact Nat.lt_irrefl _)
    · exact hb (List.mem_singleton.mp hmem)
  have fin : ∀ (h2 : Heap) (c2 : Nat) (tk2 : Nat), (∀ b o, b ≠ s.heap.objs.size → s.heap.get? b = some o → h2.get? b = some o) → h2.get? s.heap.objs.size = some { cls := .type "list", data := .seq (#[] : Array Value) c2 } →
      codeAny (model prog w) A (.builtin "list.extend.loop" ⟨[.ref s.heap.objs.size, .ref I, .ref s.heap.objs.size], []⟩) (fun r s' => match r with
        | .ok (.ret v) => wpAny (model prog w) A (match v with
          | .ref a => do
            match (← load a).data with
            | .seq xs _ => pure xs.toList
            | _ => unsupported "internal:collect"
          | _ => unsupported "internal:collect") Q E s'
        | .ok _ => False
        | .error e => E e s') { s with heap := h2, toks := tk2 } := fun h2 c2 tk2 hk2 hS2 => by
    refine codeAny_mono (loop h2 c2 tk2 hk2 hS2) fun r s' ⟨acc', c', hr, hS', hacc, h', tk, es, hk⟩ => ?_
    subst hr
    show wpAny _ A (load s.heap.objs.size >>= _) _ _ s'
    refine wpAny_bind (wpAny_load hS' ?_)
    refine wpAny_pure ?_
    rw [es]
    exact hQ h' tk acc' hk hacc
  split
  · refine wpAny_bind (wpAny_rule ?_)
    refine wpAny_bind ?_
    show wpAny _ A.in1 (updateSeq s.heap.objs.size (·.push .none) >>= fun _ => updateSeq s.heap.objs.size (·.pop)) _ _ _
    refine wpAny_bind (wpAny_updateSeq (hz := Nat.zero_le _) (_hz' := Nat.le_add_left 1 _) hS₁ rfl ?_)
    have hS3 := Heap.get?_update_self (Obj.mapSeq (·.push Value.none)) hS₁ rfl
    have one : 1 ≤ sizeLine := by rw [sizeLine_eq]; decide
    refine wpAny_updateSeq (hz := one) (_hz' := Nat.zero_le _) hS3 rfl ?_
    have hS4 := Heap.get?_update_self (Obj.mapSeq (·.pop)) hS3 rfl
    refine wpAny_pure ⟨plainId_quiet F.plain_extend_loop _, fin _ _ _ (fun b o hb e => ?_) hS4⟩
    exact (Heap.get?_update_other _ _ (Ne.symm hb)).trans ((Heap.get?_update_other _ _ (Ne.symm hb)).trans (Heap.get?_push_of_some _ e))
  · exact wpAny_pure ⟨plainId_quiet F.plain_extend_loop _, fin _ _ _ (fun b o hb e => Heap.get?_push_of_some _ e) hS₁⟩
end
end DL
/-! DL28: tuple(reversed(a tuple)) over data. -/
namespace DL
open PySem PySem.Spec PyProof.Rows L2 RT
section
variable {prog : Program} {w : World} {A : Around} {E : Value → Shared → Prop} {s : Shared}
theorem code_tuple_new_rt {it t : Addr} {items : Array Value} {Q₁ : Value → Shared → Prop} (hh : A.handled = none) (hit : IsRt s.heap it t ((items.size : Int) - 1)) (ht : IsTup s.heap t items) (hne : t ≠ it) (hn : items.size ≤ sizeLine)
    (h : ∀ (h' : Heap) (tk : Nat) (acc : Array Value), (∀ b o, b ≠ it → s.heap.get? b = some o → h'.get? b = some o) → ItemsOf (fun i v => items[items.size - 1 - i]? = some v) acc items.size →
      Q₁ (.ref h'.objs.size) { s with heap := h'.push { cls := .type "tuple", data := .seq acc }, toks := tk }) :
    codeAny (model prog w) A (.call (.builtin "tuple.__new__") ⟨[.type "tuple", .ref it], []⟩) (wants Q₁ E) s := by
  refine codeAny_of_tree ?_
  show wpAny _ A.in1 (do checkBuiltinCall "tuple.__new__" ⟨[.type "tuple", .ref it], []⟩; again (.builtin "tuple.__new__" ⟨[.type "tuple", .ref it], []⟩)) _ _ s
  refine wpAny_bind (wpAny_of_eq (F.newCall_tuple_1 _) (wpAny_pure ⟨plainId_quiet F.plain_tuple_new _, codeAny_builtin F.entry_tuple_new ?_⟩))
  rw [Around.under_plainId F.plain_tuple_new _]
  have hsub := sub_tuple_self
  have hinit := init_tuple_lookup
  have hmh := madeHere_tuple
  have hTI : s.TypeIs (.ref it) "reversed" := hit.typeIs
  have hh1 : A.in1.handled = none := hh
  wp_walk using wpAny_typeOf hTI, collect_rt (A := A.in1) hh1 hit ht hne hn
  intro h' tk acc hk hacc
  show wpAny _ _ (Builtin.Tuple.tupleExact acc.toList.toArray >>= fun v => ret v) _ _ _
  unfold Builtin.Tuple.tupleExact
  refine wpAny_bind (wpAny_newObj_type ?_ (by show acc.toList.toArray.size ≤ sizeLine; simp only [Array.toArray_toList]; rw [hacc.1]; exact hn))
  refine wpAny_pure ?_
  have e : acc.toList.toArray = acc := by simp
  rw [e]
  exact h h' tk acc hk hacc
theorem call_tuple_rt {it t : Addr} {items : Array Value} {Q : Value → Shared → Prop} (hh : A.handled = none) (hit : IsRt s.heap it t ((items.size : Int) - 1)) (ht : IsTup s.heap t items) (hne : t ≠ it) (hn : items.size ≤ sizeLine)
    (hQ : ∀ (h' : Heap) (tk : Nat) (acc : Array Value), (∀ b o, b ≠ it → s.heap.get? b = some o → h'.get? b = some o) → ItemsOf (fun i v => items[items.size - 1 - i]? = some v) acc items.size →
      Q (.ref h'.objs.size) { s with heap := h'.push { cls := .type "tuple", data := .seq acc }, toks := tk }) :
    wpAny (model prog w) A (call (.type "tuple") [.ref it]) Q E s := by
  refine callType_codes (Q₁ := fun obj s₁ => s₁.TypeIs obj "tuple" ∧ Q obj s₁) F.called_tuple (F.typeCall_tuple_1 _) F.entry_object_init
    (code_tuple_new_rt (A := A.in1) hh hit ht hne hn fun h' tk acc hk hacc => ⟨⟨_, Heap.get?_push_size _ rfl, rfl⟩, hQ h' tk acc hk hacc⟩) fun obj s₁ h₁ => ?_
  exact ⟨h₁.1, F.args_object_init_2 obj _, object_init_meets F.called_tuple.init.lookup F.called_tuple.made (by decide) prog w A.in1 _ s₁ ⟨h₁.1, rfl, h₁.2⟩⟩
end
section
variable {X : Cx} {tb : List Addr} {ds : List Sl}
def tTupRevT (K : PySem.W.Frag) (te : TE) : TE := fun σ H Q => te σ H fun v H1 => ∃ (a : Addr) (xs : List V), v = .ref a ∧ SqT K H1 a xs ∧ ∀ q, H1 q = none → Q (.ref q) (upd H1 q (.tup xs.reverse))
theorem pe_tupRevT {e : Expr} {te : TE} {p p2 pos pos2 : Pos} (hc : X.calm = true) (hg : Gl X "tuple") (hm : X.mg "tuple" = none) (hg2 : Gl X "reversed") (hm2 : X.mg "reversed" = none) (he : PE X e te)
    (hs : starEach [e] X.env = (false, eval e X.env) :: starEach [] X.env := by rfl)
    (hs2 : starEach [.Call (.Name "reversed" p2) [e] [] pos2] X.env = (false, eval (.Call (.Name "reversed" p2) [e] [] pos2) X.env) :: starEach [] X.env := by rfl) :
    PE X (.Call (.Name "tuple" p) [.Call (.Name "reversed" p2) [e] [] pos2] [] pos) (tTupRevT X.K te) := by
  refine ⟨fun pins s σ H Q I h => ?_⟩
  refine Call_ (ld_blt I hg hm boot_tuple (PyProof.Rows.callWith_type1 (args_cons (Call_ (ld_blt I hg2 hm2 PyProof.Rows.boot_reversed (PyProof.Rows.callWith_type1 (args_cons (thn (he.run pins s σ H _ I h) fun u s1 ⟨v, H1, I1, r1, q1⟩ => args_nil ?_) hs) hs rfl))) hs2) hs2 rfl))
  obtain ⟨a, xs, ev, hq, q⟩ := q1
  subst ev
  obtain rfl : u = Value.ref a := r1
  obtain ⟨its, rv, p', hz⟩ := I1.tuple hq
  have hl := rv.length
  have hn := line63
  refine call_reversed_tup p' (fun A E Q k => len_tuple p' (by simp only [List.size_toArray] <;> omega) k) (args_nil ?_)
  have k0 : ∀ b o, s1.heap.get? b = some o → (s1.heap.push (rtObj a ((its.toArray.size : Int) - 1))).get? b = some o := fun b o e => Heap.get?_push_of_some _ e
  have I2 : Inv X pins σ H1 { s1 with heap := s1.heap.push (rtObj a ((its.toArray.size : Int) - 1)), toks := s1.toks + 1 + 1 } := I1.kept (t' := s1.toks + 1 + 1) k0
  obtain ⟨f0, f1, f2, f3, f4, f5⟩ := I1.fpOk (H' := H1) (b := s1.heap.objs.size) (Nat.le_refl _) (I1.hok.fresh (Nat.le_refl _))
  obtain ⟨ol, hol, _⟩ := id p'
  have hne : a ≠ s1.heap.objs.size := Nat.ne_of_lt (Heap.lt_size hol)
  have hn : its.toArray.size ≤ sizeLine := by rw [List.size_toArray, ← rv.length]; exact hz
  refine call_tuple_rt (s := { s1 with heap := s1.heap.push (rtObj a ((its.toArray.size : Int) - 1)), toks := s1.toks + 1 + 1 }) (I1.ok.hd hc) ⟨_, Heap.get?_push_size _ rfl, rfl, rfl⟩ (p'.push _) hne hn fun h' tk acc hk hi => ?_
  have I3 : Inv X pins σ H1 { s1 with heap := h', toks := tk } := I2.turned (t' := tk) (fun b o hb e => hk b o hb e) f0 f1 f3 f4 f5
  refine ⟨.ref h'.objs.size, upd H1 h'.objs.size (.tup xs.reverse), I3.laid (t' := tk) (fun c o e => Heap.get?_push_of_some _ e) (Nat.le_refl _) (show ObjOk X.prog X.w _ _ _ (.tup xs.reverse) from ⟨by rw [List.length_reverse]; exact hz, acc.toList, vals_rev rv hi, ?_⟩), rfl, q _ (I3.hok.fresh (Nat.le_refl _))⟩
  rw [Array.toArray_toList]
  exact IsTup.new _ _
theorem ed_tupRev {xs : List PyData} {e : Expr} {p p2 pos pos2 : Pos} (hc : X.calm = true) (hm : X.mg "tuple" = none) (hm2 : X.mg "reversed" = none) (he : PEd X tb e ds (.tuple xs)) (hg : Gl X "tuple" := by rfl) (hg2 : Gl X "reversed" := by rfl)
    (hs : starEach [e] X.env = (false, eval e X.env) :: starEach [] X.env := by rfl)
    (hs2 : starEach [.Call (.Name "reversed" p2) [e] [] pos2] X.env = (false, eval (.Call (.Name "reversed" p2) [e] [] pos2) X.env) :: starEach [] X.env := by rfl) :
    PEd X tb (.Call (.Name "tuple" p) [.Call (.Name "reversed" p2) [e] [] pos2] [] pos) ds (.tuple xs.reverse) :=
  let ⟨_, p1, q1⟩ := he; ⟨_, pe_tupRevT hc hg hm hg2 hm2 p1 hs hs2, fun Hd H σ E Q z => q1 Hd H σ E _ fun v Hd1 H1 g dv => by
    cases dv with
    | @tup a vs _ k1 k2 =>
      exact ⟨a, vs, rfl, st_sub g.h.s k1, fun q hq => z _ _ _ (g.trans (Gr.new g.h hq fun _ z => HO.noConfusion z)) (.tup (.inl (.inl upd_same)) (DpAll.up (dpa_rev k2) (Gr.new g.h hq fun _ z => HO.noConfusion z).d))⟩⟩
end
end DL
/-! GX6: the scope of a generator expression, by reckoning; small things. -/
namespace DL
open PySem PySem.Spec PyProof.Rows L2 GX
def gxC (N : List Str) (sc scope : Scope) (Ng : List Str) (mp : List (Option Nat)) : Bool :=
  decide (scope.kind = .function) && (!scope.isCoroutine && (scope.names.all (fun y => decide (y.2 ≠ .cell)) && (decide (scope.names.lookup (".0" : Str) = some NameKind.local) &&
    (scope.names.all (fun y => decide (y.2 ≠ .free) || (decide (sc.names.lookup y.1 = some .cell) || decide (sc.names.lookup y.1 = some .free))) && (decide (mp.length = Ng.length) &&
      ((List.range mp.length).all (fun j => match mp[j]? with
        | some (some i) => (match Ng[j]? with
          | some x => decide (N[i]? = some x) && decide (scope.names.lookup x = some .free)
          | none => false)
        | _ => true) && decide Ng.Nodup))))))
theorem gxOk_by {N : List Str} {sc scope : Scope} {Ng : List Str} {mp : List (Option Nat)} (h : gxC N sc scope Ng mp = true) : GxOk N sc scope Ng mp := by
  unfold gxC at h
  simp only [Bool.and_eq_true, decide_eq_true_eq, List.all_eq_true, Bool.or_eq_true, Bool.not_eq_true'] at h
  obtain ⟨h1, h2, h3, h4, h5, h6, h7, h8⟩ := h
  refine ⟨h1, h2, h3, h4, fun y hy e => ?_, h6, fun j i e => ?_, h8⟩
  · rcases h5 y hy with z | z
    · exact absurd e z
    · exact z
  · have hj : j < mp.length := (List.getElem?_eq_some_iff.mp e).1
    have := h7 j (List.mem_range.mpr hj)
    rw [e] at this
    cases q : Ng[j]? with
    | none =>
      rw [q] at this
      cases this
    | some x =>
      rw [q] at this
      have this : (decide (N[i]? = some x) && decide (scope.names.lookup x = some NameKind.free)) = true := this
      rw [Bool.and_eq_true, decide_eq_true_eq, decide_eq_true_eq] at this
      exact ⟨x, rfl, this.1, this.2⟩
/-! ### parts of a def's body -/
def stmtAt (st : Stmt) (i : Nat) : Stmt := (defBody st).getD i (.Pass ⟨0, 0, 0, 0⟩)
def bodyOf : Stmt → List Stmt
  | .For _ _ b _ _ => b
  | .While _ b _ _ => b
  | .If _ b _ _ => b
  | _ => []
def elseOf : Stmt → List Stmt
  | .If _ _ b _ => b
  | _ => []
def testOf (b : List Stmt) (i : Nat) : Expr := match b.getD i (.Pass ⟨0, 0, 0, 0⟩) with
  | .If c _ _ _ => c
  | .While c _ _ _ => c
  | _ => .Constant .none 0 ⟨0, 0, 0, 0⟩
section
variable {X : Cx} {tb : List Addr} {ds : List Sl} {d e f : PyData} {a b : Expr} {pos : Pos}
theorem pg_gx {Ng : List Str} {scope : Scope} {x : Str} {px : Pos} (i : Nat) (hnd : Ng.Nodup := by decide +kernel) (hi : Ng[i]? = some x := by rfl) (hl : scope.names.lookup x = some .local := by rfl) (s : Shared) (H : Hp) (code : Value) (fp : List Addr) : PG (X.gx Ng s H scope code fp) (.Name x px) (gName i) :=
  pg_name (X := X.gx Ng s H scope code fp) hnd hi (Or.inl hl) (Or.inr hl)
theorem pg_gx2 {Ng : List Str} {scope : Scope} {x y : Str} {px py pt : Pos} {kk : Nat} (i j : Nat) (hnd : Ng.Nodup := by decide +kernel) (hi : Ng[i]? = some x := by rfl) (hl : scope.names.lookup x = some .local := by rfl) (hj : Ng[j]? = some y := by rfl) (hm : scope.names.lookup y = some .local := by rfl) (s : Shared) (H : Hp) (code : Value) (fp : List Addr)
    (h1 : (assignEach [.Name x px, .Name y py] (X.gx Ng s H scope code fp).env).length = 2 := by rfl) (h2 : (assignEach [.Name x px, .Name y py] (X.gx Ng s H scope code fp).env).findIdx? (·.1) = none := by rfl)
    (h3 : (assignEach [.Name x px, .Name y py] (X.gx Ng s H scope code fp).env).map (·.2) = assign (.Name x px) (X.gx Ng s H scope code fp).env :: (assignEach [.Name y py] (X.gx Ng s H scope code fp).env).map (·.2) := by rfl) (h4 : (assignEach [.Name y py] (X.gx Ng s H scope code fp).env).map (·.2) = assign (.Name y py) (X.gx Ng s H scope code fp).env :: (assignEach [] (X.gx Ng s H scope code fp).env).map (·.2) := by rfl) :
    PG (X.gx Ng s H scope code fp) (.Tuple [.Name x px, .Name y py] kk pt) (gTup X.K 2 (gCons (gName i) (gCons (gName j) gNil))) :=
  pg_tup (X := X.gx Ng s H scope code fp) rfl (pgs_cons (pg_name (X := X.gx Ng s H scope code fp) hnd hi (Or.inl hl) (Or.inr hl)) (pgs_cons (pg_name (X := X.gx Ng s H scope code fp) hnd hj (Or.inl hm) (Or.inr hm)) pgs_nil h4) h3) h1 h2
/-- an index that is known as a natural number -/
theorem item_tn {xs : List PyData} {i : Int} (j : Nat) (e : i = (j : Int)) (h : j < xs.length) : ItemD X tb (.tuple xs) (.int i) (xs.getD j .none) := by
  subst e
  refine item_t (atI_nat ?_)
  rw [List.getD_eq_getElem?_getD, List.getElem?_eq_getElem h] <;> rfl
theorem item_ln {xs : List PyData} {i : Int} (j : Nat) (e : i = (j : Int)) (h : j < xs.length) : ItemD X tb (.list xs) (.int i) (xs.getD j .none) := by
  subst e
  refine item_l (atI_nat ?_)
  rw [List.getD_eq_getElem?_getD, List.getElem?_eq_getElem h] <;> rfl
end
end DL
/-! DL29: an own list that is made of items; its length, its items. -/
namespace DL
open PySem PySem.Spec PyProof.Rows L2
section
variable {X : Cx} {tb : List Addr} {W : WX'} {ds es : List Sl} {d e f : PyData} {a b c : Expr} {pos pos' p p2 : Pos} {x y : Str} {args : List Expr} {fs : List PyData} {rest : List Stmt} {o : Out}
/-- x = [a, ..], x's list one's own from now on -/
theorem bd_ownL (i : Nat) {pos1 pos2 : Pos} (ha : PAd X tb args ds fs) (hl : fs.length ≤ 1000000) (h : PBd X tb W rest (ds.set i (.own fs)) o) (hN : X.N.Nodup) (hi : X.N[i]? = some x := by rfl) (hx : locB X.env.scope x = true := by rfl) (hs : swapsWith (.List args pos1) (some (.Name x pos')) pos2.line X.env = pure false := by rfl)
    (hf : X.fn x = true ∨ X.env.scope.names.lookup x = some .local := by first | exact .inl rfl | exact .inr rfl) : PBd X tb W (.Assign [.Name x pos'] (.List args pos1) pos2 :: rest) ds o := by
  obtain ⟨t, p, q⟩ := ha
  refine bd_cons (es := ds.set i (.own fs)) ⟨_, ps_set hN hi (locB_ok hx) (pe_lst p) hs hf, fun Hd0 H0 Hd H σ D S z => ?_⟩ h
  refine q Hd H σ S.env _ fun vs Hd1 H1 g dv => ⟨by rw [dpa_len dv]; exact Nat.le_trans hl (by decide), fun fo hfo => ?_⟩
  have S1 := S.up g
  have hd0 : Hd1 fo = none := by
    cases e : Hd1 fo with
    | none => rfl
    | some u =>
      have := g.h.s fo u e
      rw [hfo] at this
      cases this
  exact z _ Hd1 _ (S1.getOwn i (Gr.newOut (o := .lst vs) g.h hfo) hfo hd0 upd_same dv) g.d
/-- what is found while one looks at one's own list, a plain thing -/
theorem ed_peek (i : Nat) {xs : List PyData} (h : PEd X tb c (ds.set i (.dat (.list xs))) d) (hs : ∀ (K : PySem.W.Frag) (A B : Hp) (v : V), Dp K A v d → Dp K B v d) (e : ds[i]? = some (.own xs) := by rfl) : PEd X tb c ds d := by
  obtain ⟨t, p, q⟩ := h
  refine ⟨t, p, fun Hd H σ E Q z => ?_⟩
  obtain ⟨A, vs, ea, hl, hd, E2⟩ := E.freeze e
  exact q _ H σ E2 Q fun v Hd' H' g dv => z v _ H' (Gr.unpeek hd g) (hs _ _ _ _ dv)
theorem plain_int {i : Int} : ∀ (K : PySem.W.Frag) (A B : Hp) (v : V), Dp K A v (.int i) → Dp K B v (.int i) := fun K A B v h => by
  cases h
  exact .int i
theorem plain_bl {i : Bool} : ∀ (K : PySem.W.Frag) (A B : Hp) (v : V), Dp K A v (.bool i) → Dp K B v (.bool i) := fun K A B v h => by
  cases h
  exact .bl i
theorem plain_str {z : Str} : ∀ (K : PySem.W.Frag) (A B : Hp) (v : V), Dp K A v (.str z) → Dp K B v (.str z) := fun K A B v h => by
  cases h
  exact .str z
/-- x[e], x's list one's own -/
theorem ed_itemOwn (i : Nat) {xs : List PyData} {j : Int} {p1 : Pos} (hb : PEd X tb b ds (.int j)) (h : atI xs j = some d) (e : ds[i]? = some (.own xs) := by rfl) (hN : X.N[i]? = some x := by rfl) (hv : visB X.env.scope x = true := by rfl) (h1 : (x == ("__debug__" : Str)) = false := by decide)
    (h2 : (x == ("__classdict__" : Str)) = false := by decide) (hs : PlainIx b := by exact fun _ _ => rfl) : PEd X tb (.Subscript (.Name x p1) b pos) ds d := by
  obtain ⟨t, p, q⟩ := hb
  refine ⟨_, pe_ix ix_list (pe_var hN (visB_ok hv) h1 h2) p hs, fun Hd H σ E Q z => ?_⟩
  obtain ⟨A, vs, ea, hl, hd, hx⟩ := E.own e
  refine ⟨.ref A, ea, q Hd H σ E _ fun v Hd1 H1 g dv => ?_⟩
  cases dv
  have hx1 := DpAll.up hx g.d
  obtain ⟨n, e1, e2⟩ := atI_map (xs := vs) (dpa_len hx1) h
  obtain ⟨u, e3, e4⟩ := dpa_get hx1 e2
  exact ⟨A, vs, j, u, rfl, rfl, .inl (.inl (g.e.k A _ hl fun _ z => nomatch z)), by unfold atI; rw [dpa_len hx1, e1]; exact e3, z u Hd1 H1 g e4⟩
end
end DL
/-! DL30: x = [e for y in it if ..] on one line; truth of data. -/
namespace DL
open PySem PySem.Spec PyProof.Rows L2
section
variable {X : Cx} {tb : List Addr} {W : WX'} {ds es : List Sl} {d : PyData} {a b c iter elt : Expr} {pos pos' px py spos : Pos} {st : Stmt} {rest body : List Stmt} {o o' : Out} {x y : Str}
def lcT (X : Cx) (scope : Scope) (ifs : List Expr) : TT := fun σ H Q => ∀ (s : Shared) (H' : Hp) (C : Addr) (cl : List (Str × Addr)) (fp : List Addr), ∃ t, PTs (X.blk s H' scope (compEnvC scope cl C X.env) fp) ifs t ∧ t σ H Q
def lcE (X : Cx) (scope : Scope) (elt : Expr) : TE := fun σ H Q => ∀ (s : Shared) (H' : Hp) (C : Addr) (cl : List (Str × Addr)) (fp : List Addr), wpE (X.blk s H' scope (compEnvC scope cl C X.env) fp) elt σ H Q
theorem ev_lcX {α : Type} {scope : Scope} {ifs : List Expr} {wi : TI} (j : Nat) (ys : List α) (enc F : α → PyData) (p : α → Bool) (hlen : ys.length ≤ 1000000) (q1 : ∀ (Hd H : Hp) (σ : L2.St), Env X.K tb Hd H σ ds → ∀ R : It → Hp → Prop, (∀ J Hd1 H1, Gr Hd H Hd1 H1 → Walk X.K J Hd1 (ys.map enc) → R J H1) → wi σ H R)
    (ht : ∀ y ∈ ys, ∀ (s : Shared) (H : Hp) (C : Addr) (cl : List (Str × Addr)) (fp : List Addr), ∃ t, PTs (X.blk s H scope (compEnvC scope cl C X.env) fp) ifs t ∧ EvT X.K tb t (ds.set j (.dat (enc y))) (p y))
    (he : ∀ y ∈ ys, p y = true → ∀ (s : Shared) (H : Hp) (C : Addr) (cl : List (Str × Addr)) (fp : List Addr), PEd (X.blk s H scope (compEnvC scope cl C X.env) fp) tb elt (ds.set j (.dat (enc y))) (F y)) :
    EvE X.K tb (tLc wi (gName j) (lcT X scope ifs) (lcE X scope elt) [j]) ds (.list ((ys.filter p).map F)) := by
  intro Hd H σ E Q z
  refine q1 Hd H σ E _ fun J Hd1 H1 g wk D hD => ?_
  have hd0 : Hd1 D = none := by
    cases e : Hd1 D with
    | none => rfl
    | some u =>
      have := g.h.s D u e
      rw [hD] at this
      cases this
  -- W: what is made so far
  refine ⟨fun i mm H' => mm = ys.length - i ∧ i ≤ ys.length ∧ ∃ Hd' vs, Gr Hd1 H1 Hd' H' ∧ Hd' D = none ∧ H' D = some (.lst vs) ∧ DpAll X.K Hd' vs (((ys.take i).filter p).map F), ⟨ys.length, by simp, Nat.zero_le _, Hd1, [], Gr.newOut g.h hD, hd0, upd_same, .nil⟩, ?_⟩
  rintro i mm H' ⟨rfl, him, Hd', vs, g', d0, hl, hv⟩
  have E' : Env X.K tb Hd' H' σ ds := (E.up g).up g'
  have W' : Env X.K tb Hd' H' (wipe σ [j]) (ds.set j .no) := ⟨by show (List.set σ j none).length = _; rw [List.length_set, List.length_set]; exact E'.len, E'.dh, E'.tb, fun k t e => by
      show ∃ o, (List.set σ j none)[k]? = some o ∧ _
      by_cases q : j = k
      · subst q
        have hj : j < ds.length := by
          have := (List.getElem?_eq_some_iff.mp e).1
          rw [List.length_set] at this
          exact this
        rw [List.getElem?_set_self hj] at e
        cases e
        exact ⟨none, List.getElem?_set_self (by rw [E'.len]; exact hj), trivial⟩
      · rw [List.getElem?_set_ne q] at e
        obtain ⟨oo, k1, k2⟩ := E'.sl k t e
        exact ⟨oo, by rw [List.getElem?_set_ne q]; exact k1, k2⟩, fun k l xs zs a n e1 e2 e3 e4 => by
      have nj : ∀ (m : Nat) (us : List PyData), (ds.set j .no)[m]? = some (.own us) → j ≠ m := fun m us e q => by
        subst q
        have hj : j < ds.length := by
          have := (List.getElem?_eq_some_iff.mp e).1
          rw [List.length_set] at this
          exact this
        rw [List.getElem?_set_self hj] at e
        cases e
      have n1 := nj k xs e1
      have n2 := nj l zs e2
      rw [List.getElem?_set_ne n1] at e1
      rw [List.getElem?_set_ne n2] at e2
      have e3' : (List.set σ j none)[k]? = some (some (V.ref a)) := e3
      have e4' : (List.set σ j none)[l]? = some (some (V.ref a)) := e4
      rw [List.getElem?_set_ne n1] at e3'
      rw [List.getElem?_set_ne n2] at e4'
      exact E'.ap k l xs zs a n e1 e2 e3' e4'⟩
  by_cases hlt : i < ys.length
  · have hil : i < (ys.map enc).length := by rw [List.length_map]; exact hlt
    have hy : ys[i] ∈ ys := List.getElem_mem hlt
    refine .inr ⟨wk.go i Hd' H' g'.d g'.h hil, fun H2 => i + 1 ≤ ys.length ∧ ∃ Hd2 vs, Gr Hd1 H1 Hd2 H2 ∧ Hd2 D = none ∧ H2 D = some (.lst vs) ∧ DpAll X.K Hd2 vs (((ys.take (i + 1)).filter p).map F), fun H2 z2 => ⟨ys.length - (i + 1), by omega, rfl, z2⟩, fun v H2 y => ?_⟩
    obtain ⟨Hd2, dd, e1, g2, dv⟩ := wk.yl i Hd' H' v H2 g'.d g'.h hil y
    have ed : dd = enc ys[i] := by
      rw [List.getElem?_map, List.getElem?_eq_getElem hlt] at e1
      exact (Option.some.inj e1).symm
    subst ed
    have hjσ : ∀ u : V, wipe ((wipe σ [j]).set j (some u)) [j] = wipe σ [j] := fun u => by
      show List.set (List.set (List.set σ j none) j (some u)) j none = List.set σ j none
      rw [List.set_set, List.set_set]
    refine ⟨hjσ v, fun s Hx C cl fp => ?_⟩
    have E2 : Env X.K tb Hd2 H2 ((wipe σ [j]).set j (some v)) (ds.set j (.dat (enc ys[i]))) := by
      have := (W'.up g2).set (i := j) (s := .dat (enc ys[i])) dv fun _ z => nomatch z
      rwa [List.set_set] at this
    obtain ⟨t, t1, t2⟩ := ht ys[i] hy s Hx C cl fp
    refine ⟨t, t1, t2 Hd2 H2 _ E2 _ fun Hd3 H3 g3 => ?_⟩
    have tk : ys.take (i + 1) = ys.take i ++ [ys[i]] := by rw [List.take_add_one, List.getElem?_eq_getElem hlt] <;> rfl
    have g13 : Gr Hd1 H1 Hd3 H3 := (g'.trans g2).trans g3
    have d3 : Hd3 D = none := (g2.trans g3).f D d0 (by rw [hl]; exact fun z => nomatch z)
    have l3 : H3 D = some (.lst vs) := (g2.trans g3).e.k D _ hl fun _ z => nomatch z
    cases hp : p ys[i] with
    | true =>
      refine iteT fun s Hx C cl fp => (he ys[i] hy hp s Hx C cl fp).can Hd3 H3 _ (E2.up g3) _ fun w Hd4 H4 g4 dw => ?_
      have d4 : Hd4 D = none := g4.f D d3 (by rw [l3]; exact fun z => nomatch z)
      have l4 : H4 D = some (.lst vs) := g4.e.k D _ l3 fun _ z => nomatch z
      have lv : vs.length ≤ ys.length := by
        rw [dpa_len hv, List.length_map]
        exact Nat.le_trans (List.length_filter_le _ _) (by rw [List.length_take]; exact Nat.min_le_right _ _)
      refine ⟨vs, l4, Nat.lt_of_le_of_lt (Nat.le_trans lv hlen) (by decide), hlt, Hd4, vs ++ [w], ?_, d4, upd_same, ?_⟩
      · have G := g13.trans g4
        exact ⟨G.d, ⟨fun b o q => by rw [upd_ne (ne_of_none q d4)]; exact G.h.s b o q, G.h.nt⟩, ⟨fun b o q n => by rw [upd_ne (ne_of_none q hD)]; exact G.e.k b o q n, fun P t => by
          obtain ⟨ps, e1, e2⟩ := G.e.t P t
          exact ⟨ps, by rw [upd_ne (not_tab l4 ⟨ps, e1, e2⟩)]; exact e1, e2⟩, fun b q => by
          by_cases q1 : b = D
          · rw [q1]; exact hD
          · rw [upd_ne q1] at q
            exact G.e.n b q⟩, G.f⟩
      · rw [tk, List.filter_append, List.map_append, List.filter_cons, if_pos hp]
        exact dpa_app (DpAll.up hv ((g2.trans g3).trans g4).d) (.cons dw .nil)
    | false =>
      refine iteF ⟨hlt, Hd3, vs, g13, d3, l3, ?_⟩
      rw [tk, List.filter_append, List.map_append, List.filter_cons, if_neg (by rw [hp]; exact Bool.false_ne_true)]
      show DpAll X.K Hd3 vs (_ ++ [])
      rw [List.append_nil]
      exact DpAll.up hv (g2.trans g3).d
  · have e : i = ys.length := by omega
    subst e
    refine .inl ⟨wk.st _ Hd' H' g'.d g'.h (by rw [List.length_map]; exact Nat.le_refl _), ?_⟩
    rw [List.take_length] at hv
    have s : Sub Hd' (upd Hd' D (.lst vs)) := fun b o q => by rw [upd_ne (ne_of_none q d0)]; exact q
    refine z (.ref D) (upd Hd' D (.lst vs)) H' ⟨(g.d.trans g'.d).trans s, ⟨fun b o q => ?_, fun b ps q => ?_⟩, (g.e.trans g'.e), fun b q n => ?_⟩ (.lst (.inl (.inl upd_same)) (DpAll.up hv s))
    · by_cases q1 : b = D
      · rw [q1, upd_same] at q
        rw [q1, hl, q]
      · rw [upd_ne q1] at q
        exact g'.h.s b o q
    · by_cases q1 : b = D
      · rw [q1, upd_same] at q
        cases q
      · rw [upd_ne q1] at q
        exact g'.h.nt b ps q
    · by_cases q1 : b = D
      · rw [q1] at n
        exact absurd (g.e.n D hD) n
      · rw [upd_ne q1]
        exact (g.trans g').f b q n
/-- y = [e for x in it if ..], y a local name, on one line -/
theorem sd_setLc {α : Type} {scope : Scope} {ifs : List Expr} (i j : Nat) (ys : List α) (enc F : α → PyData) (p : α → Bool) (hc : X.calm = true) (hN : X.N.Nodup) (hi : PId X tb (.Name x px) iter ds (ys.map enc)) (hlen : ys.length ≤ 1000000) (ok : BlkOk X.N X.env.scope scope [(x, j)])
    (hg : ∀ (s : Shared) (H : Hp) (C : Addr) (cl : List (Str × Addr)) (fp : List Addr), PG (X.blk s H scope (compEnvC scope cl C X.env) fp) (.Name x px) (gName j))
    (ht : ∀ y ∈ ys, ∀ (s : Shared) (H : Hp) (C : Addr) (cl : List (Str × Addr)) (fp : List Addr), ∃ t, PTs (X.blk s H scope (compEnvC scope cl C X.env) fp) ifs t ∧ EvT X.K tb t (ds.set j (.dat (enc y))) (p y))
    (he : ∀ y ∈ ys, p y = true → ∀ (s : Shared) (H : Hp) (C : Addr) (cl : List (Str × Addr)) (fp : List Addr), PEd (X.blk s H scope (compEnvC scope cl C X.env) fp) tb elt (ds.set j (.dat (enc y))) (F y))
    (hy : X.N[i]? = some y := by rfl) (hk : X.env.scope.kind = .function := by rfl) (hyl : X.env.scope.names.lookup y = some .local := by rfl) (hl : (py.line == pos.line) = true := by rfl) (ha : (scope.names.any fun (n, k) => n == y && (k == .local || k == .cell)) = false := by decide +kernel)
    (hs : ∀ x, foldedSetIterable iter X.env x = pure x := by intro _; rfl) : PSd X tb W (.Assign [.Name y py] (.ListComp elt [⟨.Name x px, iter, ifs, 0⟩] scope pos) spos) ds (.nx (ds.set i (.dat (.list ((ys.filter p).map F))))) := by
  obtain ⟨wi, p1, q1⟩ := hi
  refine ⟨_, ps_setLc (own := [(x, j)]) (g := gName j) (tt := lcT X scope ifs) (te := lcE X scope elt) hc hN hy hyl (sw_true hk hyl hl ha) p1 ok hg
    (fun s H C cl fp => ⟨fun pins s' σ H' Q I h => let ⟨t, a1, a2⟩ := h s H C cl fp; a1.run pins s' σ H' Q I a2⟩) (fun s H C cl fp => ⟨fun pins s' σ H' Q I h => pe_can.run pins s' σ H' Q I (h s H C cl fp)⟩) hs, fun Hd0 H0 Hd H σ D S z => ?_⟩
  exact ev_lcX (elt := elt) j ys enc F p hlen q1 ht he Hd H σ S.env _ fun v Hd' H' g dv => z _ Hd' H' ((S.up g).set (s := .dat (.list ((ys.filter p).map F))) dv fun _ z => nomatch z) g.d
theorem sd_setLcY {α : Type} {scope : Scope} (i j : Nat) (ys : List α) (enc F : α → PyData) (hc : X.calm = true) (hN : X.N.Nodup) (hi : PId X tb (.Name x px) iter ds (ys.map enc)) (hlen : ys.length ≤ 1000000) (ok : BlkOk X.N X.env.scope scope [(x, j)])
    (hg : ∀ (s : Shared) (H : Hp) (C : Addr) (cl : List (Str × Addr)) (fp : List Addr), PG (X.blk s H scope (compEnvC scope cl C X.env) fp) (.Name x px) (gName j))
    (he : ∀ y ∈ ys, ∀ (s : Shared) (H : Hp) (C : Addr) (cl : List (Str × Addr)) (fp : List Addr), PEd (X.blk s H scope (compEnvC scope cl C X.env) fp) tb elt (ds.set j (.dat (enc y))) (F y))
    (hy : X.N[i]? = some y := by rfl) (hk : X.env.scope.kind = .function := by rfl) (hyl : X.env.scope.names.lookup y = some .local := by rfl) (hl : (py.line == pos.line) = true := by rfl) (ha : (scope.names.any fun (n, k) => n == y && (k == .local || k == .cell)) = false := by decide +kernel)
    (hs : ∀ x, foldedSetIterable iter X.env x = pure x := by intro _; rfl) : PSd X tb W (.Assign [.Name y py] (.ListComp elt [⟨.Name x px, iter, [], 0⟩] scope pos) spos) ds (.nx (ds.set i (.dat (.list (ys.map F))))) := by
  have z := sd_setLc (W := W) (spos := spos) i j ys enc F (fun _ => true) hc hN hi hlen ok hg (fun y hy s H C cl fp => ⟨tYes, pts_nil, fun Hd H σ E Q z => z Hd H (Gr.refl E.dh)⟩) (fun y hy _ => he y hy) hy hk hyl hl ha hs
  rwa [List.filter_eq_self.mpr fun _ _ => rfl] at z
theorem tru_of {K : PySem.W.Frag} {Hd H : Hp} {v : V} {k : Bool} (D : DH Hd H) (h : Dp K Hd v d) (t : TruD d k) : TruV K v H k := by
  cases d with
  | none => cases h; exact t
  | bool b => cases h; exact t
  | int b => cases h; exact t
  | str b => exact t.elim
  | dict _ => exact t.elim
  | list xs =>
    cases h with
    | lst h1 h2 =>
      refine .inl ⟨_, sl_sub D.s h1, ?_⟩
      have t : k = !xs.isEmpty := t
      rw [t]
      have := dpa_len h2
      rename_i vs
      cases vs <;> cases xs <;> first | rfl | cases this
  | tuple xs =>
    cases h with
    | tup h1 h2 =>
      refine .inr (.inl ⟨_, st_sub D.s h1, ?_⟩)
      have t : k = !xs.isEmpty := t
      rw [t]
      have := dpa_len h2
      rename_i vs
      cases vs <;> cases xs <;> first | rfl | cases this
theorem td_tru {k : Bool} (ha : PEd X tb a ds d) (h : TruD d k) (he : ∀ whole, isTrue a X.env whole = (do let v ← whole; standAt a.pos; holding [v] (truthy v)) := by intro _; rfl) : PTd X tb a ds k :=
  let ⟨_, p1, q1⟩ := ha; ⟨_, pt_truth p1 he, fun Hd H σ E Q q => q1 Hd H σ E _ fun v Hd1 H1 g dv => ⟨k, tru_of g.h dv h, q Hd1 H1 g⟩⟩
end
end DL
/-! DL31: a loop that tests: it goes on while all is well, and hands back else. -/
namespace DL
open PySem PySem.Spec PyProof.Rows L2
theorem first_badN (p : Nat → Bool) : ∀ n : Nat, (∀ i, i < n → p i = true) ∨ ∃ m, m < n ∧ p m = false ∧ ∀ i, i < m → p i = true
  | 0 => .inl fun _ h => absurd h (Nat.not_lt_zero _)
  | n + 1 => by
    rcases first_badN p n with h | ⟨m, h1, h2, h3⟩
    · cases q : p n with
      | true =>
        left
        intro i hi
        by_cases e : i = n
        · rw [e]; exact q
        · exact h i (by omega)
      | false => exact .inr ⟨n, Nat.lt_succ_self n, q, h⟩
    · exact .inr ⟨m, Nat.lt_succ_of_lt h1, h2, h3⟩
section
variable {X : Cx} {tb : List Addr} {W : WX'} {ds es : List Sl} {iter : Expr} {pos px : Pos} {rest body : List Stmt} {o : Out} {x : Str}
theorem bd_forB {items : List PyData} (j : Nat) (p : Nat → Bool) (r : PyData) (hp : PassesOwn (model X.prog X.w) X.A X.env X.xe) (hc : X.calm = true) (hi : PId X tb (.Name x px) iter ds items) (hN : X.N.Nodup)
    (hb : ∀ (i : Nat) d, items[i]? = some d → (∀ m, m < i → p m = true) → PBd X tb W body (ds.set j (.dat d)) (if p i = true then .nx ds else .rt r))
    (hrest : (∀ m, m < items.length → p m = true) → PBd X tb W rest ds o) (hres : ∀ m, m < items.length → p m = false → o = .rt r)
    (hj : X.N[j]? = some x := by rfl) (hx : locB X.env.scope x = true := by rfl) (hf : X.fn x = true ∨ X.env.scope.names.lookup x = some .local := by first | exact .inl rfl | exact .inr rfl)
    (hs : ∀ x, foldedSetIterable iter X.env x = pure x := by intro _; rfl) : PBd X tb W (.For (.Name x px) iter body [] pos :: rest) ds o := by
  rcases first_badN p items.length with h | ⟨m, h1, h2, h3⟩
  · refine bd_cons (sd_for (items := items) j (fun _ => ds) hp hc hi hN rfl (fun i d e => ?_) hj hx hf hs) (hrest h)
    have hl := (List.getElem?_eq_some_iff.mp e).1
    have z := hb i d e fun m hm => h m (Nat.lt_trans hm hl)
    rwa [if_pos (h i hl)] at z
  · rw [hres m h1 h2]
    refine bd_left (sd_forX (items := items) j m (fun _ => ds) hp hc hi hN rfl (Nat.le_of_lt h1) (fun i d hi e => ⟨_, .nx _, ?_⟩) (.inr ⟨items[m], _, List.getElem?_eq_getElem h1, ?_, .rt r⟩) hj hx hf hs)
    · have z := hb i d e fun m' hm => h3 m' (Nat.lt_trans hm hi)
      rwa [if_pos (h3 i hi)] at z
    · have z := hb m items[m] (List.getElem?_eq_getElem h1) h3
      rwa [if_neg (by rw [h2]; exact Bool.false_ne_true)] at z
/-- 0, 1, .. n - 1 -/
theorem rng0_len (n : Nat) : (rngD 0 n).length = n := by unfold rngD; rw [List.length_map, List.length_range]
theorem rng0_at {n i : Nat} {d : PyData} (e : (rngD 0 n)[i]? = some d) : i < n ∧ d = .int (i : Int) := by
  unfold rngD at e
  rw [List.getElem?_map] at e
  cases q : (List.range n)[i]? with
  | none => rw [q] at e; cases e
  | some m =>
    rw [q] at e
    obtain ⟨h1, h2⟩ := List.getElem?_eq_some_iff.mp q
    rw [List.getElem_range] at h2
    rw [List.length_range] at h1
    exact ⟨h1, by rw [← Option.some.inj e, ← h2]; show PyData.int (0 + (i : Int)) = _; rw [Int.zero_add]⟩
variable {a : Expr} {p : Pos} {tg : Expr}
theorem cmp_notInStrT {z : Str} {ys : List Str} : CmpD X tb .NotIn (.str z) (.tuple (ys.map .str)) (!decide (z ∈ ys)) := ⟨⟨_, op_notIn_seq, rv_inStrT (neg := true)⟩⟩
/-- range(n), n known as a natural number -/
theorem id_rngN {n : Nat} {j : Int} (hm : X.mg "range" = none) (h : PEd X tb a ds (.int j)) (e : j = (n : Int)) (hn : n ≤ 1000000) (hg : Gl X "range" := by rfl) (hs : starEach [a] X.env = [(false, eval a X.env)] := by rfl) : PId X tb tg (.Call (.Name "range" p) [a] [] pos) ds (rngD 0 n) := by
  subst e
  have z := id_rng1 (tg := tg) (pos := pos) (p := p) hm h (by omega) (by omega) hg hs
  rwa [Int.toNat_natCast] at z
end
end DL
/-! DL32: new lists handed back; [c] * n, x[i] = e on one's own; try with a block. -/
namespace DL
open PySem PySem.Spec PyProof.Rows L2
section
variable {X : Cx} {tb : List Addr} {W : WX'} {ds es : List Sl} {d e f : PyData} {a b c iter elt : Expr} {pos pos' p p1 p2 px : Pos} {x y : Str} {args : List Expr} {fs : List PyData} {ps : List Str} {k : Nat} {rest body : List Stmt} {o : Out} {K : PySem.W.Frag}
/-- return x, x's list one's own -/
theorem sd_retOwn (i : Nat) {xs : List PyData} (e : ds[i]? = some (.own xs) := by rfl) (hN : X.N[i]? = some x := by rfl) (hv : visB X.env.scope x = true := by rfl) (h1 : (x == ("__debug__" : Str)) = false := by decide) (h2 : (x == ("__classdict__" : Str)) = false := by decide) :
    PSd X tb W (.Return (some (.Name x p1)) pos) ds (.ro xs) := by
  refine ⟨_, ps_ret (pe_var hN (visB_ok hv) h1 h2), fun Hd0 H0 Hd H σ D S z => ?_⟩
  obtain ⟨l, vs, ea, hl, hd, hx⟩ := S.env.own e
  exact ⟨.ref l, ea, z l vs Hd H S.gr S.env.tb (S.fr i xs l e ea) hd hl hx⟩
/-- an expression whose value is a new list, nobody else's -/
def EvOw (K : PySem.W.Frag) (tb : List Addr) (te : TE) (ds : List Sl) (xs : List PyData) : Prop := ∀ (Hd H : Hp) (σ : L2.St), Env K tb Hd H σ ds → ∀ Q : VK, (∀ (fo : Addr) (ws : List V) Hd' H', Gr Hd H Hd' H' → H fo = none → Hd' fo = none → H' fo = some (.lst ws) → DpAll K Hd' ws xs → Q (.ref fo) H') → te σ H Q
def POd' (X : Cx) (tb : List Addr) (e : Expr) (ds : List Sl) (xs : List PyData) : Prop := ∃ t, PE X e t ∧ EvOw X.K tb t ds xs
theorem none_of_dh {Hd H : Hp} {a : Addr} (D : DH Hd H) (h : H a = none) : Hd a = none := by
  cases e : Hd a with
  | none => rfl
  | some u =>
    have := D.s a u e
    rw [h] at this
    cases this
theorem sd_retO {xs : List PyData} (h : POd' X tb a ds xs) : PSd X tb W (.Return (some a) pos) ds (.ro xs) :=
  let ⟨_, p1, q1⟩ := h; ⟨_, ps_ret p1, fun Hd0 H0 Hd H σ D S z => q1 Hd H σ S.env _ fun fo ws Hd' H' g hf hn hl hd => z fo ws Hd' H' (S.gr.trans g) (S.env.up g).tb (S.gr.e.n fo hf) hn hl hd⟩
theorem sd_setO (i : Nat) {xs : List PyData} (h : POd' X tb a ds xs) (hN : X.N.Nodup) (hi : X.N[i]? = some x := by rfl) (hx : locB X.env.scope x = true := by rfl) (hs : swapsWith a (some (.Name x pos')) pos.line X.env = pure false := by rfl)
    (hf : X.fn x = true ∨ X.env.scope.names.lookup x = some .local := by first | exact .inl rfl | exact .inr rfl) : PSd X tb W (.Assign [.Name x pos'] a pos) ds (.nx (ds.set i (.own xs))) :=
  let ⟨_, p1, q1⟩ := h; ⟨_, ps_set hN hi (locB_ok hx) p1 hs hf, fun Hd0 H0 Hd H σ D S z => q1 Hd H σ S.env _ fun fo ws Hd' H' g hf0 hn hl hd => z _ Hd' H' (S.getOwn i g hf0 hn hl hd) g.d⟩
/-- as data -/
theorem POd'.dat {xs : List PyData} (h : POd' X tb a ds xs) : PEd X tb a ds (.list xs) := by
  obtain ⟨t, p, q⟩ := h
  refine ⟨t, p, fun Hd H σ E Q z => q Hd H σ E Q fun fo ws Hd' H' g hf hn hl hd => ?_⟩
  have s : Sub Hd' (upd Hd' fo (.lst ws)) := fun b o e => by rw [upd_ne (ne_of_none e hn)]; exact e
  refine z (.ref fo) (upd Hd' fo (.lst ws)) H' ⟨g.d.trans s, ⟨fun b o e => ?_, fun b ps e => ?_⟩, g.e, fun b e n => ?_⟩ (.lst (.inl (.inl upd_same)) (DpAll.up hd s))
  · by_cases q1 : b = fo
    · rw [q1, upd_same] at e
      rw [q1, hl, e]
    · rw [upd_ne q1] at e
      exact g.h.s b o e
  · by_cases q1 : b = fo
    · rw [q1, upd_same] at e
      cases e
    · rw [upd_ne q1] at e
      exact g.h.nt b ps e
  · by_cases q1 : b = fo
    · rw [q1] at n
      exact absurd hf n
    · rw [upd_ne q1]
      exact g.f b e n
theorem POd'.is {xs ys : List PyData} (h : POd' X tb a ds xs) (q : xs = ys) : POd' X tb a ds ys := q ▸ h
/-- [c, ..] * n -/
theorem od_rep {xs : List PyData} {i : Int} (ha : PAd X tb args ds xs) (hb : PEd X tb b ds (.int i)) (h0 : -(2 ^ 63) ≤ i ∧ i < 2 ^ 63) (hl : xs.length * i.toNat ≤ 16000000) (hx : xs.length ≤ 1000) : POd' X tb (.BinOp (.List args p1) .Mult b pos) ds (List.replicate i.toNat xs).flatten := by
  obtain ⟨t1, p1, q1⟩ := ha
  obtain ⟨t2, p2, q2⟩ := hb
  refine ⟨_, pe_op op_rep (pe_lst p1) p2, fun Hd H σ E Q z => q1 Hd H σ E _ fun vs Hd1 H1 g1 dv => ⟨by rw [dpa_len dv]; exact Nat.le_trans hx (by decide), fun l hl1 => ?_⟩⟩
  have g1' := g1.trans (Gr.newOut (o := .lst vs) g1.h hl1)
  have hd1 := none_of_dh g1.h hl1
  refine q2 Hd1 _ σ (E.up g1') _ fun v Hd2 H2 g2 dv2 => ?_
  cases dv2
  have hl2 : H2 l = some (.lst vs) := g2.e.k l _ upd_same fun _ z => nomatch z
  refine ⟨l, i, vs, rfl, rfl, hl2, h0.1, h0.2, by rw [dpa_len dv]; exact Nat.le_trans hl (by decide), fun q hq => ?_⟩
  have gq : Gr Hd2 H2 Hd2 (upd H2 q (.lst (List.replicate i.toNat vs).flatten)) := Gr.newOut g2.h hq
  have G := (g1'.trans g2).trans gq
  refine z q _ Hd2 _ G ((g1'.trans g2).e.n q hq) (none_of_dh g2.h hq) upd_same ?_
  have hv := DpAll.up dv g2.d
  generalize i.toNat = n
  clear hl gq G
  induction n with
  | zero => exact .nil
  | succ n ih =>
    rw [List.replicate_succ, List.replicate_succ, List.flatten_cons, List.flatten_cons]
    exact dpa_app hv ih
/-- x[i] = e, x's list one's own -/
theorem dpa_set : ∀ {vs : List V} {zs : List PyData} {Hd : Hp} {n : Nat} {v : V} {d : PyData}, DpAll K Hd vs zs → Dp K Hd v d → DpAll K Hd (vs.set n v) (zs.set n d)
  | _, _, _, _, _, _, .nil, _ => .nil
  | _, _, _, 0, _, _, .cons _ t, h => .cons h t
  | _, _, _, n + 1, _, _, .cons g t, h => .cons g (dpa_set t h)
theorem sd_setItem (i : Nat) {xs : List PyData} {j : Int} {n : Nat} {ppos : Pos} (ha : PEd X tb a ds d) (hb : PEd X tb b ds (.int j)) (hn : ixN xs.length j = some n) (e : ds[i]? = some (.own xs) := by rfl) (hN : X.N[i]? = some x := by rfl) (hv : visB X.env.scope x = true := by rfl) (h1 : (x == ("__debug__" : Str)) = false := by decide) (h2 : (x == ("__classdict__" : Str)) = false := by decide)
    (hgs : ∀ v, assign (.Subscript (.Name x p1) b ppos) X.env v = (do
      let ov ← holding [v] (eval (.Name x p1) X.env)
      let iv ← holding [v, ov] (eval b X.env)
      standAt ppos
      holding [v, ov, iv] (setItem ov iv v)
      release [v, ov, iv] []) := by intro _; rfl)
    (hs : swapsWithSole [.Subscript (.Name x p1) b ppos] a pos.line X.env = pure false := by rfl) (hw : swappedStores [.Subscript (.Name x p1) b ppos] a X.env = pure none := by rfl)
    (h5 : (assignEach [.Subscript (.Name x p1) b ppos] X.env).map (·.2) = [assign (.Subscript (.Name x p1) b ppos) X.env] := by rfl) :
    PSd X tb W (.Assign [.Subscript (.Name x p1) b ppos] a pos) ds (.nx (ds.set i (.own (xs.set n d)))) := by
  obtain ⟨t1, p1, q1⟩ := ha
  obtain ⟨t2, p2, q2⟩ := hb
  refine ⟨_, ps_asg p1 (pg_sub (pe_var hN (visB_ok hv) h1 h2) p2 set_list hgs) hs hw h5, fun Hd0 H0 Hd H σ D S z => q1 Hd H σ S.env _ fun v Hd1 H1 g1 dv => ?_⟩
  have S1 := S.up g1
  obtain ⟨l, vs, ea, hl, hd, hx⟩ := S1.env.own e
  refine ⟨.ref l, ea, q2 Hd1 H1 σ S1.env _ fun u Hd2 H2 g2 du => ?_⟩
  cases du
  have S2 := S1.up g2
  have hl2 : H2 l = some (.lst vs) := g2.e.k l _ hl fun _ z => nomatch z
  have hd2 : Hd2 l = none := g2.f l hd (by rw [hl]; exact fun z => nomatch z)
  have hx2 := DpAll.up hx g2.d
  exact ⟨l, vs, j, n, rfl, rfl, hl2, by rw [dpa_len hx2]; exact hn, z σ Hd2 _ (S2.putOwn e ea hl2 hd2 (dpa_set hx2 (Dp.up dv g2.d))) (g1.d.trans g2.d)⟩
end
end DL
/-! DL33: defs that give a new list or raise; a comprehension's list as one's own; try over blocks. -/
namespace DL
open PySem PySem.Spec PyProof.Rows L2
/-- called with data ds it hands back a new list (R), or raises c (Rx) -/
def spXO (K : PySem.W.Frag) (tb : List Addr) (n : Nat) (R : List PyData → List PyData → Prop) (Rx : List PyData → Value → Prop) : Sp := fun vs H Q E => ∃ (Hd : Hp) (ds : List PyData), vs.length = n ∧ DH Hd H ∧ (∀ P ∈ tb, GxR.TabG H P) ∧ DpAll K Hd vs ds ∧
  ((∃ xs, R ds xs ∧ ∀ (fo : Addr) (ws : List V) Hd' H', Gr Hd H Hd' H' → (∀ P ∈ tb, GxR.TabG H' P) → H fo = none → Hd' fo = none → H' fo = some (.lst ws) → DpAll K Hd' ws xs → Q (.ref fo) H') ∨ ∃ c, Rx ds c ∧ ∀ Hd' H', Gr Hd H Hd' H' → (∀ P ∈ tb, GxR.TabG H' P) → E c none H')
section
variable {P : Program} {w : World} {K : PySem.W.Frag} {mg : Str → Option Value} {base : Heap} {x qual : Str} {params : Arguments} {body : List Stmt} {scope : Scope} {f : Addr} {fd : FuncData} {tb : List Addr}
theorem fnxo_ok {N ps : List Str} {k : Nat} {R : List PyData → List PyData → Prop} {Rx : List PyData → Value → Prop} (F : FunD K x qual params body scope [] [] f fd) (S : FnScope N ps scope) (hlen : ps.length ≤ N.length)
    (hb : ∀ (ds : List PyData) (xs : List PyData), R ds xs → ∀ (A : Around) (outer : List PySem.Env) (s : Shared) (H : Hp) (E : XK), Room k (A.deeper (envOfC qual scope s.heap.objs.size f fd.code)) →
      PBd (cxOf (L2.CX P w) P w K mg base N qual scope f fd.code A outer s H E) tb (fun c d _ H => E c d H) body (sd N ds) (.ro xs))
    (hx : ∀ (ds : List PyData) (c : Value), Rx ds c → ∀ (A : Around) (outer : List PySem.Env) (s : Shared) (H : Hp) (E : XK), Room k (A.deeper (envOfC qual scope s.heap.objs.size f fd.code)) →
      PBd (cxOf (L2.CX P w) P w K mg base N qual scope f fd.code A outer s H E) tb (fun c d _ H => E c d H) body (sd N ds) (.ex c)) : FnOk P w K mg base (L2.CX P w) (k + 1) f fd ps (spXO K tb ps.length R Rx) := by
  refine fok F S (fun vs H Q E h => ?_) fun A outer s H vs Q E hr h => ?_
  · obtain ⟨_, _, h, _⟩ := h
    exact h
  · obtain ⟨Hd, ds, hl, D, ht, hv, hh⟩ := h
    have St : State K tb Hd H Hd H (L2.start N vs) (sd N ds) := ⟨start_env (by rw [hl]; exact hlen) D ht hv, Gr.refl D, fun i xs a e1 _ => (sd_noOwn e1).elim⟩
    rcases hh with ⟨d, hR, q⟩ | ⟨c, hR, q⟩
    · obtain ⟨t, p, r⟩ := hb ds d hR A outer s H E hr
      exact ⟨t, p, r Hd H Hd H _ _ St fun fo ws Hd' H' g ht' h1 h2 h3 h4 => q fo ws Hd' H' g ht' h1 h2 h3 h4⟩
    · obtain ⟨t, p, r⟩ := hx ds c hR A outer s H E hr
      exact ⟨t, p, r Hd H Hd H _ _ St fun _ Hd' H' g ht' => q Hd' H' g ht'⟩
structure FnXO (P : Program) (w : World) (K : PySem.W.Frag) (mg : Str → Option Value) (base : Heap) (tb : List Addr) (x : Str) (ps : List Str) (k : Nat) (R : List PyData → List PyData → Prop) (Rx : List PyData → Value → Prop) : Prop where
  ex : ∃ (f : Addr) (fd : FuncData), FnOk P w K mg base (L2.CX P w) k f fd ps (spXO K tb ps.length R Rx) ∧ mg x = some (.ref f) ∧ PySem.W.keepIn K (.ref f) = true ∧ Binds K fd ps []
/-- a def that hands back a new list and raises nothing -/
theorem fno_ok {N ps : List Str} {k : Nat} {R : List PyData → List PyData → Prop} (F : FunD K x qual params body scope [] [] f fd) (S : FnScope N ps scope) (hlen : ps.length ≤ N.length)
    (hb : ∀ (ds : List PyData) (xs : List PyData), R ds xs → ∀ (A : Around) (outer : List PySem.Env) (s : Shared) (H : Hp) (E : XK), Room k (A.deeper (envOfC qual scope s.heap.objs.size f fd.code)) →
      PBd (cxOf CX0 P w K mg base N qual scope f fd.code A outer s H E).nox tb W0 body (sd N ds) (.ro xs)) : FnOk P w K mg base CX0 (k + 1) f fd ps (spO K tb ps.length R) := by
  refine fok F S (fun vs H Q E h => ?_) fun A outer s H vs Q E hr h => ?_
  · obtain ⟨_, _, _, h, _⟩ := h
    exact h
  · obtain ⟨Hd, ds, xs, hl, D, ht, hv, hR, q⟩ := h
    obtain ⟨t, p, r⟩ := hb ds xs hR A outer s H E hr
    exact ⟨t, p.nox, r Hd H Hd H _ _ ⟨start_env (by rw [hl]; exact hlen) D ht hv, Gr.refl D, fun i xs a e1 _ => (sd_noOwn e1).elim⟩ fun fo ws Hd' H' g ht' h1 h2 h3 h4 => q fo ws Hd' H' g ht' h1 h2 h3 h4⟩
end
section
variable {X : Cx} {tb : List Addr} {W : WX'} {ds es fs' : List Sl} {d e f : PyData} {a b c iter elt : Expr} {pos pos' p p1 p2 px : Pos} {x y n : Str} {args : List Expr} {fs : List PyData} {ps : List Str} {k : Nat} {rest body suite : List Stmt} {st b₀ : Stmt} {o : Out} {R : List PyData → List PyData → Prop} {Rx : List PyData → Value → Prop} {cv : Value}
/-- such a call, its list nobody else's -/
theorem od_callX {xs : List PyData} (G : FnXO X.prog X.w X.K X.mg X.base tb x ps k R Rx) (hr : Room k X.A) (ha : PAd X tb (a :: args) ds fs) (hR : R fs xs) (hl : fs.length = ps.length := by rfl) (hg : Gl X x := by rfl) (hdb : (x == ("__debug__" : Str)) = false := by decide)
    (he : starEach (a :: args) X.env = (false, eval a X.env) :: starEach args X.env := by rfl) (hpl : (backTo pos (starEach args X.env)).any (·.1) = false := by rfl) : POd' X tb (.Call (.Name x p) (a :: args) [] pos) ds xs := by
  obtain ⟨fa, fd, F, hm, hk, hb⟩ := G.ex
  obtain ⟨t, p1, q1⟩ := ha
  refine ⟨_, pe_call F hr hg hm hk hb .nil (passL (X := X)) p1 hdb he hpl, fun Hd H σ E Q z => q1 Hd H σ E _ fun vs Hd1 H1 g dv => ?_⟩
  have E1 := E.up g
  exact ⟨Hd1, fs, by rw [List.append_nil, dpa_len dv]; exact hl, g.h, E1.tb, by rw [List.append_nil]; exact dv, .inl ⟨xs, hR, fun fo ws Hd2 H2 g2 _ h1 h2 h3 h4 => z fo ws Hd2 H2 (g.trans g2) (g.e.n fo h1) h2 h3 h4⟩⟩
theorem od_call {xs : List PyData} (G : FnO X.prog X.w X.K X.mg X.base tb x ps k R) (hr : Room k X.A) (ha : PAd X tb (a :: args) ds fs) (hR : R fs xs) (hl : fs.length = ps.length := by rfl) (hg : Gl X x := by rfl) (hdb : (x == ("__debug__" : Str)) = false := by decide)
    (he : starEach (a :: args) X.env = (false, eval a X.env) :: starEach args X.env := by rfl) (hpl : (backTo pos (starEach args X.env)).any (·.1) = false := by rfl) : POd' X tb (.Call (.Name x p) (a :: args) [] pos) ds xs := by
  obtain ⟨fa, fd, F, hm, hk, hb⟩ := G.ex
  obtain ⟨t, p1, q1⟩ := ha
  refine ⟨_, pe_call F hr hg hm hk hb .nil (pass0 (X := X)) p1 hdb he hpl, fun Hd H σ E Q z => q1 Hd H σ E _ fun vs Hd1 H1 g dv => ?_⟩
  have E1 := E.up g
  exact ⟨Hd1, fs, xs, by rw [List.append_nil, dpa_len dv]; exact hl, g.h, E1.tb, by rw [List.append_nil]; exact dv, hR, fun fo ws Hd2 H2 g2 _ h1 h2 h3 h4 => z fo ws Hd2 H2 (g.trans g2) (g.e.n fo h1) h2 h3 h4⟩
theorem xd_callXO (G : FnXO X.prog X.w X.K X.mg X.base tb x ps k R Rx) (hr : Room k X.A) (tk : Takes X W) (ha : PAd X tb (a :: args) ds fs) (hR : Rx fs cv) (hl : fs.length = ps.length := by rfl) (hg : Gl X x := by rfl) (hdb : (x == ("__debug__" : Str)) = false := by decide)
    (he : starEach (a :: args) X.env = (false, eval a X.env) :: starEach args X.env := by rfl) (hpl : (backTo pos (starEach args X.env)).any (·.1) = false := by rfl) : PXd X tb W (.Call (.Name x p) (a :: args) [] pos) ds cv := by
  obtain ⟨fa, fd, F, hm, hk, hb⟩ := G.ex
  obtain ⟨t, p1, q1⟩ := ha
  refine ⟨_, pe_callS F hr hg hm hk hb (fun σ => passAt tk σ) p1 hdb he hpl, fun Hd H σ E Q z => q1 Hd H σ E _ fun vs Hd1 H1 g dv => ?_⟩
  have E2 := E.up g
  exact ⟨Hd1, fs, by rw [dpa_len dv]; exact hl, g.h, E2.tb, dv, .inr ⟨cv, hR, fun Hd2 H2 g2 t2 => z Hd2 H2 (g.trans g2) t2⟩⟩
theorem sd_exprX (h : PXd X tb W a ds cv) (hs : swapsWith a none pos.line X.env = pure false := by rfl) : PSd X tb W (.Expr a pos) ds (.ex cv) := let ⟨_, p1, q1⟩ := h; ⟨_, ps_expr p1 hs, fun Hd0 H0 Hd H σ D S p => q1 Hd H σ S.env _ fun Hd' H' g t => p σ Hd' H' (S.gr.trans g) t⟩

/-! ### what raises, the slots known -/
def XRun (K : PySem.W.Frag) (tb : List Addr) (W : WX') (t : TS) (ds es : List Sl) (c : Value) : Prop := ∀ (Hd0 H0 Hd H : Hp) (σ : L2.St) (D : Ends), State K tb Hd0 H0 Hd H σ ds → (∀ σ' Hd' H', State K tb Hd0 H0 Hd' H' σ' es → Sub Hd Hd' → W c none σ' H') → t D σ H
def PXs (X : Cx) (tb : List Addr) (W : WX') (s : Stmt) (ds es : List Sl) (c : Value) : Prop := ∃ t, PS X s t ∧ XRun X.K tb W t ds es c
def PXb (X : Cx) (tb : List Addr) (W : WX') (s : List Stmt) (ds es : List Sl) (c : Value) : Prop := ∃ t, PSs X s t ∧ XRun X.K tb W t ds es c
theorem xs_expr (h : PXd X tb W a ds cv) (hs : swapsWith a none pos.line X.env = pure false := by rfl) : PXs X tb W (.Expr a pos) ds ds cv := let ⟨_, p1, q1⟩ := h; ⟨_, ps_expr p1 hs, fun Hd0 H0 Hd H σ D S p => q1 Hd H σ S.env _ fun Hd' H' g t => p σ Hd' H' (S.up g) g.d⟩
theorem xs_ret (h : PXd X tb W a ds cv) : PXs X tb W (.Return (some a) pos) ds ds cv := let ⟨_, p1, q1⟩ := h; ⟨_, ps_ret p1, fun Hd0 H0 Hd H σ D S p => q1 Hd H σ S.env _ fun Hd' H' g t => p σ Hd' H' (S.up g) g.d⟩
theorem xs_asg {tg : Expr} (h : PXd X tb W a ds cv) (hs : swapsWithSole [tg] a pos.line X.env = pure false := by rfl) (hw : swappedStores [tg] a X.env = pure none := by rfl) (h1 : (assignEach [tg] X.env).map (·.2) = [assign tg X.env] := by rfl) : PXs X tb W (.Assign [tg] a pos) ds ds cv :=
  let ⟨_, p1, q1⟩ := h; ⟨_, ps_asg p1 pg_nev hs hw h1, fun Hd0 H0 Hd H σ D S p => q1 Hd H σ S.env _ fun Hd' H' g t => p σ Hd' H' (S.up g) g.d⟩
theorem xs_if {kk : Bool} {r1 r2 : List Stmt} (hc : PTd X tb c ds kk) (h1 : kk = true → PXb X tb W r1 ds es cv) (h2 : kk = false → PXb X tb W r2 ds es cv) : PXs X tb W (.If c r1 r2 pos) ds es cv := by
  obtain ⟨t, p, q⟩ := hc
  cases kk with
  | true =>
    obtain ⟨u, p1, q1⟩ := h1 rfl
    exact ⟨_, ps_if p p1 pss_never, fun Hd0 H0 Hd H σ D S z => q Hd H σ S.env _ fun Hd' H' g => q1 Hd0 H0 Hd' H' σ D (S.up g) fun σ2 Hd2 H2 S2 s2 => z σ2 Hd2 H2 S2 (g.d.trans s2)⟩
  | false =>
    obtain ⟨u, p1, q1⟩ := h2 rfl
    exact ⟨_, ps_if p pss_never p1, fun Hd0 H0 Hd H σ D S z => q Hd H σ S.env _ fun Hd' H' g => q1 Hd0 H0 Hd' H' σ D (S.up g) fun σ2 Hd2 H2 S2 s2 => z σ2 Hd2 H2 S2 (g.d.trans s2)⟩
theorem xb_head (h : PXs X tb W st ds es cv) : PXb X tb W (st :: rest) ds es cv := let ⟨_, p1, q1⟩ := h; ⟨_, pss_cons p1 pss_never, fun Hd0 H0 Hd H σ D S p => q1 Hd0 H0 Hd H σ _ S p⟩
theorem xb_cons (h : PSd X tb W st ds (.nx es)) (k : PXb X tb W rest es fs' cv) : PXb X tb W (st :: rest) ds fs' cv :=
  let ⟨_, p1, q1⟩ := h; let ⟨_, p2, q2⟩ := k; ⟨_, pss_cons p1 p2, fun Hd0 H0 Hd H σ D S p => q1 Hd0 H0 Hd H σ _ S fun σ' Hd' H' S' s => q2 Hd0 H0 Hd' H' σ' D S' fun σ2 Hd2 H2 S2 s2 => p σ2 Hd2 H2 S2 (s.trans s2)⟩
theorem PXb.can (h : PXb X tb W body ds es cv) : XRun X.K tb W (wpB X body) ds es cv := let ⟨t, p, q⟩ := h; fun Hd0 H0 Hd H σ D S z => ⟨t, p, q Hd0 H0 Hd H σ D S z⟩
/-! ### try over blocks -/
def tbTryB (X : Cx) (body : List Stmt) (W : WX') : TS := fun D σ H => ∀ (pn : List (Addr × Obj)) (xe : Value → Shared → Prop), Takes (X.tr pn xe) W → PassesOwn (model X.prog X.w) X.A X.env xe → wpB (X.tr pn xe) body D σ H
def tsTryB (X : Cx) (suite : List Stmt) (a : Addr) (cls : Value) (dd : Option Addr) : TS := fun D σ H => ∀ (oe : Obj) (pn : List (Addr × Obj)), Zc cls dd oe → (∃ vs, oe.data = .fields vs) → wpB (X.suite a ((a, oe) :: pn)) suite D σ H
theorem ps_tryB {i : Nat} (tk : Takes X W) (hs : X.stack = X.env :: X.outer) (hf : X.env.frame = some X.env.locals) (hN : X.N.Nodup) (hi : X.N[i]? = some n) (hln : X.env.kindOf n = some .local) (hc : Names X x cv) :
    PS X (.Try body [.ExceptHandler (some (.Name x p)) (some n) (b₀ :: suite) pos'] [] [] pos) (fun D σ H => tbTryB X body (wAs X.K cv i (tsTryB X (b₀ :: suite)) W D) D σ H) :=
  ps_try_as hs hf hN hi hln hc tk (fun W' pn xe tk' pa => ⟨fun pins s σ H D I h => pb_can.run pins s σ H D I (h pn xe tk' pa)⟩)
    fun a oe cls dd pn hz hv => ⟨fun pins s σ H D I h => pb_can.run pins s σ H D I (h oe pn hz hv)⟩
/-- the body raises, and the suite leaves -/
theorem sd_tryB_ex (i : Nat) {ce : Value} (tk : Takes X W) (hN : X.N.Nodup) (hc : Names X x cv) (h : ∀ (W' : WX') (pn : List (Addr × Obj)) (xe : Value → Shared → Prop), Takes (X.tr pn xe) W' → PXb (X.tr pn xe) tb W' body ds es ce) (hm : PySem.W.exmOne X.K ce cv = some true)
    (hr : ∀ (a : Addr) (oe : Obj) (pn : List (Addr × Obj)), Zc ce none oe → (∃ vs, oe.data = .fields vs) → PBd (X.suite a ((a, oe) :: pn)) tb W0 (b₀ :: suite) (es.set i (.val (.ref a))) (.rt d)) (hi : X.N[i]? = some n := by rfl) (hln : X.env.kindOf n = some .local := by rfl) (hs : X.stack = X.env :: X.outer := by rfl) (hf : X.env.frame = some X.env.locals := by rfl) :
    PSd X tb W (.Try body [.ExceptHandler (some (.Name x p)) (some n) (b₀ :: suite) pos'] [] [] pos) ds (.rt d) :=
  ⟨_, ps_tryB tk hs hf hN hi hln hc, fun Hd0 H0 Hd H σ D S z => fun pn xe tk' _ => (h _ pn xe tk').can Hd0 H0 Hd H σ D S fun σ1 Hd1 H1 S1 s1 => ⟨true, hm, fun _ a ha => fun oe pn2 hz hv =>
    (hr a oe pn2 hz hv).can Hd0 H0 Hd1 H1 _ _ (S1.set (i := i) (s := .val (.ref a)) rfl fun _ z => nomatch z) fun v Hd' H' g t dv => z v Hd' H' g t dv, fun z => nomatch z⟩⟩
/-- the body ends, nothing raised -/
theorem sd_tryB_ok {i : Nat} (tk : Takes X W) (hN : X.N.Nodup) (hc : Names X x cv) (hi : X.N[i]? = some n) (h : ∀ (W' : WX') (pn : List (Addr × Obj)) (xe : Value → Shared → Prop), Takes (X.tr pn xe) W' → PBd (X.tr pn xe) tb W' body ds o) (ho : ∀ c, o ≠ .ex c) (hln : X.env.kindOf n = some .local := by rfl) (hs : X.stack = X.env :: X.outer := by rfl) (hf : X.env.frame = some X.env.locals := by rfl) :
    PSd X tb W (.Try body [.ExceptHandler (some (.Name x p)) (some n) (b₀ :: suite) pos'] [] [] pos) ds o :=
  ⟨_, ps_tryB tk hs hf hN hi hln hc, fun Hd0 H0 Hd H σ D S z => fun pn xe tk' _ => (h _ pn xe tk').can Hd0 H0 Hd H σ D S (by
    cases o with
    | ex c => exact absurd rfl (ho c)
    | _ => exact z)⟩
/-- [e for x in it if ..], its list nobody else's -/
theorem od_lcX {α : Type} {scope : Scope} {ifs : List Expr} (j : Nat) (ys : List α) (enc F : α → PyData) (p : α → Bool) (hc : X.calm = true) (hN : X.N.Nodup) (hi : PId X tb (.Name x px) iter ds (ys.map enc)) (hlen : ys.length ≤ 1000000) (ok : BlkOk X.N X.env.scope scope [(x, j)])
    (hg : ∀ (s : Shared) (H : Hp) (C : Addr) (cl : List (Str × Addr)) (fp : List Addr), PG (X.blk s H scope (compEnvC scope cl C X.env) fp) (.Name x px) (gName j))
    (ht : ∀ y ∈ ys, ∀ (s : Shared) (H : Hp) (C : Addr) (cl : List (Str × Addr)) (fp : List Addr), ∃ t, PTs (X.blk s H scope (compEnvC scope cl C X.env) fp) ifs t ∧ EvT X.K tb t (ds.set j (.dat (enc y))) (p y))
    (he : ∀ y ∈ ys, p y = true → ∀ (s : Shared) (H : Hp) (C : Addr) (cl : List (Str × Addr)) (fp : List Addr), PEd (X.blk s H scope (compEnvC scope cl C X.env) fp) tb elt (ds.set j (.dat (enc y))) (F y))
    (hs : ∀ x, foldedSetIterable iter X.env x = pure x := by intro _; rfl) : POd' X tb (.ListComp elt [⟨.Name x px, iter, ifs, 0⟩] scope pos) ds ((ys.filter p).map F) := by
  obtain ⟨wi, p1, q1⟩ := hi
  refine ⟨_, pe_lc (own := [(x, j)]) (g := gName j) (tt := fun σ H Q => ∀ (s : Shared) (H' : Hp) (C : Addr) (cl : List (Str × Addr)) (fp : List Addr), ∃ t, PTs (X.blk s H' scope (compEnvC scope cl C X.env) fp) ifs t ∧ t σ H Q)
    (te := fun σ H Q => ∀ (s : Shared) (H' : Hp) (C : Addr) (cl : List (Str × Addr)) (fp : List Addr), wpE (X.blk s H' scope (compEnvC scope cl C X.env) fp) elt σ H Q) hc hN p1 ok hg
    (fun s H C cl fp => ⟨fun pins s' σ H' Q I h => let ⟨t, a1, a2⟩ := h s H C cl fp; a1.run pins s' σ H' Q I a2⟩) (fun s H C cl fp => ⟨fun pins s' σ H' Q I h => pe_can.run pins s' σ H' Q I (h s H C cl fp)⟩) hs, fun Hd H σ E Q z => ?_⟩
  refine q1 Hd H σ E _ fun J Hd1 H1 g wk D hD => ?_
  have hd0 : Hd1 D = none := none_of_dh g.h hD
  refine ⟨fun i mm H' => mm = ys.length - i ∧ i ≤ ys.length ∧ ∃ Hd' vs, Gr Hd1 H1 Hd' H' ∧ Hd' D = none ∧ H' D = some (.lst vs) ∧ DpAll X.K Hd' vs (((ys.take i).filter p).map F), ⟨ys.length, by simp, Nat.zero_le _, Hd1, [], Gr.newOut g.h hD, hd0, upd_same, .nil⟩, ?_⟩
  rintro i mm H' ⟨rfl, him, Hd', vs, g', d0, hl, hv⟩
  have E' : Env X.K tb Hd' H' σ ds := (E.up g).up g'
  have W' : Env X.K tb Hd' H' (wipe σ [j]) (ds.set j .no) := ⟨by show (List.set σ j none).length = _; rw [List.length_set, List.length_set]; exact E'.len, E'.dh, E'.tb, fun k t e => by
      show ∃ o, (List.set σ j none)[k]? = some o ∧ _
      by_cases q : j = k
      · subst q
        have hj : j < ds.length := by
          have := (List.getElem?_eq_some_iff.mp e).1
          rw [List.length_set] at this
          exact this
        rw [List.getElem?_set_self hj] at e
        cases e
        exact ⟨none, List.getElem?_set_self (by rw [E'.len]; exact hj), trivial⟩
      · rw [List.getElem?_set_ne q] at e
        obtain ⟨oo, k1, k2⟩ := E'.sl k t e
        exact ⟨oo, by rw [List.getElem?_set_ne q]; exact k1, k2⟩, fun k l xs zs a n e1 e2 e3 e4 => by
      have nj : ∀ (m : Nat) (us : List PyData), (ds.set j .no)[m]? = some (.own us) → j ≠ m := fun m us e q => by
        subst q
        have hj : j < ds.length := by
          have := (List.getElem?_eq_some_iff.mp e).1
          rw [List.length_set] at this
          exact this
        rw [List.getElem?_set_self hj] at e
        cases e
      have n1 := nj k xs e1
      have n2 := nj l zs e2
      rw [List.getElem?_set_ne n1] at e1
      rw [List.getElem?_set_ne n2] at e2
      have e3' : (List.set σ j none)[k]? = some (some (V.ref a)) := e3
      have e4' : (List.set σ j none)[l]? = some (some (V.ref a)) := e4
      rw [List.getElem?_set_ne n1] at e3'
      rw [List.getElem?_set_ne n2] at e4'
      exact E'.ap k l xs zs a n e1 e2 e3' e4'⟩
  by_cases hlt : i < ys.length
  · have hil : i < (ys.map enc).length := by rw [List.length_map]; exact hlt
    have hy : ys[i] ∈ ys := List.getElem_mem hlt
    refine .inr ⟨wk.go i Hd' H' g'.d g'.h hil, fun H2 => i + 1 ≤ ys.length ∧ ∃ Hd2 vs, Gr Hd1 H1 Hd2 H2 ∧ Hd2 D = none ∧ H2 D = some (.lst vs) ∧ DpAll X.K Hd2 vs (((ys.take (i + 1)).filter p).map F), fun H2 z2 => ⟨ys.length - (i + 1), by omega, rfl, z2⟩, fun v H2 y => ?_⟩
    obtain ⟨Hd2, dd, e1, g2, dv⟩ := wk.yl i Hd' H' v H2 g'.d g'.h hil y
    have ed : dd = enc ys[i] := by
      rw [List.getElem?_map, List.getElem?_eq_getElem hlt] at e1
      exact (Option.some.inj e1).symm
    subst ed
    have hjσ : ∀ u : V, wipe ((wipe σ [j]).set j (some u)) [j] = wipe σ [j] := fun u => by
      show List.set (List.set (List.set σ j none) j (some u)) j none = List.set σ j none
      rw [List.set_set, List.set_set]
    refine ⟨hjσ v, fun s Hx C cl fp => ?_⟩
    have E2 : Env X.K tb Hd2 H2 ((wipe σ [j]).set j (some v)) (ds.set j (.dat (enc ys[i]))) := by
      have := (W'.up g2).set (i := j) (s := .dat (enc ys[i])) dv fun _ z => nomatch z
      rwa [List.set_set] at this
    obtain ⟨t, t1, t2⟩ := ht ys[i] hy s Hx C cl fp
    refine ⟨t, t1, t2 Hd2 H2 _ E2 _ fun Hd3 H3 g3 => ?_⟩
    have tk : ys.take (i + 1) = ys.take i ++ [ys[i]] := by rw [List.take_add_one, List.getElem?_eq_getElem hlt] <;> rfl
    have g13 : Gr Hd1 H1 Hd3 H3 := (g'.trans g2).trans g3
    have d3 : Hd3 D = none := (g2.trans g3).f D d0 (by rw [hl]; exact fun z => nomatch z)
    have l3 : H3 D = some (.lst vs) := (g2.trans g3).e.k D _ hl fun _ z => nomatch z
    cases hp : p ys[i] with
    | true =>
      refine iteT fun s Hx C cl fp => (he ys[i] hy hp s Hx C cl fp).can Hd3 H3 _ (E2.up g3) _ fun w Hd4 H4 g4 dw => ?_
      have d4 : Hd4 D = none := g4.f D d3 (by rw [l3]; exact fun z => nomatch z)
      have l4 : H4 D = some (.lst vs) := g4.e.k D _ l3 fun _ z => nomatch z
      have lv : vs.length ≤ ys.length := by
        rw [dpa_len hv, List.length_map]
        exact Nat.le_trans (List.length_filter_le _ _) (by rw [List.length_take]; exact Nat.min_le_right _ _)
      refine ⟨vs, l4, Nat.lt_of_le_of_lt (Nat.le_trans lv hlen) (by decide), hlt, Hd4, vs ++ [w], ?_, d4, upd_same, ?_⟩
      · have G := g13.trans g4
        exact ⟨G.d, ⟨fun b o q => by rw [upd_ne (ne_of_none q d4)]; exact G.h.s b o q, G.h.nt⟩, ⟨fun b o q n => by rw [upd_ne (ne_of_none q hD)]; exact G.e.k b o q n, fun P t => by
          obtain ⟨ps, e1, e2⟩ := G.e.t P t
          exact ⟨ps, by rw [upd_ne (not_tab l4 ⟨ps, e1, e2⟩)]; exact e1, e2⟩, fun b q => by
          by_cases q1 : b = D
          · rw [q1]; exact hD
          · rw [upd_ne q1] at q
            exact G.e.n b q⟩, G.f⟩
      · rw [tk, List.filter_append, List.map_append, List.filter_cons, if_pos hp]
        exact dpa_app (DpAll.up hv ((g2.trans g3).trans g4).d) (.cons dw .nil)
    | false =>
      refine iteF ⟨hlt, Hd3, vs, g13, d3, l3, ?_⟩
      rw [tk, List.filter_append, List.map_append, List.filter_cons, if_neg (by rw [hp]; exact Bool.false_ne_true)]
      show DpAll X.K Hd3 vs (_ ++ [])
      rw [List.append_nil]
      exact DpAll.up hv (g2.trans g3).d
  · have e : i = ys.length := by omega
    subst e
    refine .inl ⟨wk.st _ Hd' H' g'.d g'.h (by rw [List.length_map]; exact Nat.le_refl _), ?_⟩
    rw [List.take_length] at hv
    exact z D vs Hd' H' (g.trans g') (g.e.n D hD) d0 hl hv
end
end DL
/-! DL34: defs that run to their end; numbers in messages. -/
namespace DL
open PySem PySem.Spec PyProof.Rows L2
section
variable {P : Program} {w : World} {K : PySem.W.Frag} {mg : Str → Option Value} {base : Heap} {x qual : Str} {params : Arguments} {body : List Stmt} {scope : Scope} {f : Addr} {fd : FuncData} {tb : List Addr}
theorem fnxp_ok {N ps : List Str} {k : Nat} {R : List PyData → Prop} {Rx : List PyData → Value → Prop} (F : FunD K x qual params body scope [] [] f fd) (S : FnScope N ps scope) (hlen : ps.length ≤ N.length)
    (hb : ∀ (ds : List PyData), R ds → ∀ (A : Around) (outer : List PySem.Env) (s : Shared) (H : Hp) (E : XK), Room k (A.deeper (envOfC qual scope s.heap.objs.size f fd.code)) →
      ∃ es, PBd (cxOf (L2.CX P w) P w K mg base N qual scope f fd.code A outer s H E) tb (fun c d _ H => E c d H) body (sd N ds) (.nx es))
    (hx : ∀ (ds : List PyData) (c : Value), Rx ds c → ∀ (A : Around) (outer : List PySem.Env) (s : Shared) (H : Hp) (E : XK), Room k (A.deeper (envOfC qual scope s.heap.objs.size f fd.code)) →
      PBd (cxOf (L2.CX P w) P w K mg base N qual scope f fd.code A outer s H E) tb (fun c d _ H => E c d H) body (sd N ds) (.ex c)) : FnOk P w K mg base (L2.CX P w) (k + 1) f fd ps (spX K tb ps.length (fun ds d => R ds ∧ d = .none) Rx) := by
  refine fok F S (fun vs H Q E h => ?_) fun A outer s H vs Q E hr h => ?_
  · obtain ⟨_, _, h, _⟩ := h
    exact h
  · obtain ⟨Hd, ds, hl, D, ht, hv, hh⟩ := h
    have St : State K tb Hd H Hd H (L2.start N vs) (sd N ds) := ⟨start_env (by rw [hl]; exact hlen) D ht hv, Gr.refl D, fun i xs a e1 _ => (sd_noOwn e1).elim⟩
    rcases hh with ⟨d, ⟨hR, rfl⟩, q⟩ | ⟨c, hR, q⟩
    · obtain ⟨es, t, p, r⟩ := hb ds hR A outer s H E hr
      exact ⟨t, p, r Hd H Hd H _ _ St fun σ' Hd' H' S' _ => q .non Hd' H' S'.gr S'.env.tb .non⟩
    · obtain ⟨t, p, r⟩ := hx ds c hR A outer s H E hr
      exact ⟨t, p, r Hd H Hd H _ _ St fun _ Hd' H' g ht' => q Hd' H' g ht'⟩
end
theorem PId.is {X : Cx} {tb : List Addr} {tg a : Expr} {ds : List Sl} {xs ys : List PyData} (h : PId X tb tg a ds xs) (e : xs = ys) : PId X tb tg a ds ys := e ▸ h
theorem numL {i : Int} (h : -100 < i ∧ i ≤ 10 ^ 20) : (Str.ofString (toString i)).length ≤ 30 := by
  by_cases h0 : 0 ≤ i
  · exact Nat.le_trans (toString_length_le h0 (k := 21) (by decide) (by omega)) (by decide)
  · obtain ⟨n, hn⟩ : ∃ n : Fin 100, i = -((n : Nat) : Int) := ⟨⟨(-i).toNat, by omega⟩, by show i = -(((-i).toNat : Nat) : Int); omega⟩
    have all : ∀ n : Fin 100, (Str.ofString (toString (-((n : Nat) : Int)))).length ≤ 30 := by decide +kernel
    rw [hn]
    exact all n
theorem logL {i : Int} (h : -100 < i ∧ i ≤ 10 ^ 20) : i.natAbs.log2 < 1920 := by
  by_cases h0 : i.natAbs = 0
  · rw [h0]
    decide
  · exact (Nat.log2_lt h0).mpr (Nat.lt_of_lt_of_le (show i.natAbs < 2 ^ 70 by omega) (Nat.pow_le_pow_right (by decide) (by decide)))
end DL
/-! DL35: a, b, .. = ..; is of truths; all of a list; int of a truth; a def got out of a table and called. -/
namespace DL
open PySem PySem.Spec PyProof.Rows L2
def setD (ds : List Sl) : List Nat → List PyData → List Sl
  | i :: is, d :: r => setD (ds.set i (.dat d)) is r
  | _, _ => ds
inductive PNs (X : Cx) : List Expr → List Nat → Prop where
  | nil : PNs X [] []
  | cons {x : Str} {p : Pos} {i : Nat} {es : List Expr} {is : List Nat} (h : PNs X es is) (hi : X.N[i]? = some x := by rfl) (hx : locB X.env.scope x = true := by rfl)
    (hf : X.fn x = true ∨ X.env.scope.names.lookup x = some .local := by first | exact .inl rfl | exact .inr rfl)
    (hs : (assignEach (.Name x p :: es) X.env).map (·.2) = assign (.Name x p) X.env :: (assignEach es X.env).map (·.2) := by rfl) : PNs X (.Name x p :: es) (i :: is)
section
variable {X : Cx} {tb : List Addr} {W : WX'} {ds es : List Sl} {d e f : PyData} {a b c : Expr} {pos pos' pos1 p px py : Pos} {x y : Str} {args : List Expr} {fs : List PyData} {ps : List Str} {k : Nat}
theorem pns_run {Hd0 H0 Hd H : Hp} (hN : X.N.Nodup) : ∀ {es : List Expr} {is : List Nat}, PNs X es is → ∃ t, PGs X es t ∧ ∀ (vs : List V) (xs : List PyData) (σ : L2.St) (ds : List Sl), DpAll X.K Hd vs xs → is.length = xs.length → State X.K tb Hd0 H0 Hd H σ ds → ∀ Q : L2.St → Hp → Prop, (∀ σ', State X.K tb Hd0 H0 Hd H σ' (setD ds is xs) → Q σ' H) → t vs σ H Q
  | _, _, .nil => ⟨_, pgs_nil, fun vs xs σ ds dv hl S Q q => by
    cases xs with
    | cons _ _ => cases hl
    | nil =>
      cases dv
      exact ⟨rfl, q σ S⟩⟩
  | _, _, .cons (i := i) h hi hx hf hs => by
    obtain ⟨t, p1, q1⟩ := pns_run (Hd0 := Hd0) (H0 := H0) (Hd := Hd) (H := H) hN h
    refine ⟨_, pgs_cons (pg_name hN hi (locB_ok hx) hf) p1 hs, fun vs xs σ ds dv hl S Q q => ?_⟩
    cases xs with
    | nil => cases hl
    | cons d r =>
      cases dv with
      | cons h1 h2 =>
        exact ⟨_, _, rfl, q1 _ r _ _ h2 (Nat.succ.inj hl) (S.set (i := i) (s := .dat d) h1 fun _ z => nomatch z) Q q⟩
variable {tgs : List Expr} {is : List Nat} {xs : List PyData} {kk : Nat}
theorem sd_unpackT (h : PEd X tb a ds (.tuple xs)) (hp : PNs X tgs is) (hc : X.calm = true) (hN : X.N.Nodup) (hl : is.length = xs.length := by rfl) (h1 : (assignEach tgs X.env).length = xs.length := by rfl) (h2 : (assignEach tgs X.env).findIdx? (·.1) = none := by rfl)
    (hs : swapsWithSole [.Tuple tgs kk pos1] a pos.line X.env = pure false := by rfl) (hw : swappedStores [.Tuple tgs kk pos1] a X.env = pure none := by rfl)
    (h5 : (assignEach [.Tuple tgs kk pos1] X.env).map (·.2) = [assign (.Tuple tgs kk pos1) X.env] := by rfl) :
    PSd X tb W (.Assign [.Tuple tgs kk pos1] a pos) ds (.nx (setD ds is xs)) := by
  obtain ⟨ta, p1, q1⟩ := h
  obtain ⟨t0, p0, _⟩ := pns_run (X := X) (tb := tb) (Hd0 := fun _ => none) (H0 := fun _ => none) (Hd := fun _ => none) (H := fun _ => none) hN hp
  let tt : TGs := fun vs σ H Q => ∃ t, PGs X tgs t ∧ t vs σ H Q
  have pt : PGs X tgs tt := ⟨fun pins s σ H vs us Q I r ⟨t, p, h⟩ => p.run pins s σ H vs us Q I r h⟩
  refine ⟨_, ps_asg p1 (pg_tup (n := xs.length) hc pt h1 h2) hs hw h5, fun Hd0 H0 Hd H σ D S z => q1 Hd H σ S.env _ fun v Hd1 H1 g dv => ?_⟩
  cases dv with
  | @tup A vs _ k1 k2 =>
    obtain ⟨t, p2, q2⟩ := pns_run (X := X) (tb := tb) (Hd0 := Hd0) (H0 := H0) (Hd := Hd1) (H := H1) hN hp
    exact ⟨A, vs, rfl, st_sub g.h.s k1, dpa_len k2, t, p2, q2 vs xs σ ds k2 hl (S.up g) _ fun σ' S' => z σ' Hd1 H1 S' g.d⟩
theorem sd_unpackL (h : PEd X tb a ds (.list xs)) (hp : PNs X tgs is) (hc : X.calm = true) (hN : X.N.Nodup) (hl : is.length = xs.length := by rfl) (h1 : (assignEach tgs X.env).length = xs.length := by rfl) (h2 : (assignEach tgs X.env).findIdx? (·.1) = none := by rfl)
    (hs : swapsWithSole [.Tuple tgs kk pos1] a pos.line X.env = pure false := by rfl) (hw : swappedStores [.Tuple tgs kk pos1] a X.env = pure none := by rfl)
    (h5 : (assignEach [.Tuple tgs kk pos1] X.env).map (·.2) = [assign (.Tuple tgs kk pos1) X.env] := by rfl) :
    PSd X tb W (.Assign [.Tuple tgs kk pos1] a pos) ds (.nx (setD ds is xs)) := by
  obtain ⟨ta, p1, q1⟩ := h
  let tt : TGs := fun vs σ H Q => ∃ t, PGs X tgs t ∧ t vs σ H Q
  have pt : PGs X tgs tt := ⟨fun pins s σ H vs us Q I r ⟨t, p, h⟩ => p.run pins s σ H vs us Q I r h⟩
  refine ⟨_, ps_asg p1 (pg_lst (n := xs.length) hc pt h1 h2) hs hw h5, fun Hd0 H0 Hd H σ D S z => q1 Hd H σ S.env _ fun v Hd1 H1 g dv => ?_⟩
  cases dv with
  | @lst A vs _ k1 k2 =>
    obtain ⟨t, p2, q2⟩ := pns_run (X := X) (tb := tb) (Hd0 := Hd0) (H0 := H0) (Hd := Hd1) (H := H1) hN hp
    exact ⟨A, vs, rfl, sl_sub g.h.s k1, dpa_len k2, t, p2, q2 vs xs σ ds k2 hl (S.up g) _ fun σ' S' => z σ' Hd1 H1 S' g.d⟩
/-! ### is of truths -/
theorem cmp_isB {i j : Bool} : CmpD X tb .Is (.bool i) (.bool j) (decide (i = j)) := ⟨⟨_, op_isBl, fun Hd H x y D _ dx dy Q q => by
  cases dx
  cases dy
  exact ⟨i, j, rfl, rfl, q _ Hd H (Gr.refl D) (.bl _)⟩⟩⟩
theorem cmp_isNotB {i j : Bool} : CmpD X tb .IsNot (.bool i) (.bool j) (!decide (i = j)) := ⟨⟨_, op_notBl, fun Hd H x y D _ dx dy Q q => by
  cases dx
  cases dy
  exact ⟨i, j, rfl, rfl, q _ Hd H (Gr.refl D) (.bl _)⟩⟩⟩
/-! ### all of a list of truths -/
theorem dpa_bls {K : PySem.W.Frag} {Hd : Hp} : ∀ {vs : List V} {bs : List Bool}, DpAll K Hd vs (bs.map PyData.bool) → vs = bs.map V.bl
  | _, [], h => by cases h; rfl
  | _, y :: ys, h => by
    cases h with
    | cons h1 h2 =>
      cases h1
      rw [dpa_bls h2] <;> rfl
theorem ed_allL {bs : List Bool} (hc : X.calm = true) (hm : X.mg "all" = none) (ha : PEd X tb a ds (.list (bs.map .bool))) (hg : Gl X "all" := by rfl) (hb : bootBuiltins "all" = some (.builtin "all") := by decide +kernel) (hs : starEach [a] X.env = (false, eval a X.env) :: starEach [] X.env := by rfl) :
    PEd X tb (.Call (.Name "all" p) [a] [] pos) ds (.bool (bs.all id)) :=
  ed_callB (r := rAll X.K) (cr_all hc) (fun Hd H vs D dx Q q => by
    cases dx with
    | cons h1 h2 =>
      cases h2
      cases h1 with
      | @lst A us _ k1 k2 =>
        have e := dpa_bls k2
        subst e
        exact ⟨A, bs, rfl, sl_sub D.s k1, q _ Hd H (Gr.refl D) (.bl _)⟩) hm hb (ad_cons ha ad_nil hs) hg (by decide) (by decide) hs (by rfl)
/-! ### int of a truth -/
theorem ed_intB {b : Bool} (hm : X.mg "int" = none) (ha : PEd X tb a ds (.bool b)) (hg : Gl X "int" := by rfl) (hb : bootBuiltins "int" = some (.type "int") := by decide +kernel) (hs : starEach [a] X.env = (false, eval a X.env) :: starEach [] X.env := by rfl) :
    PEd X tb (.Call (.Name "int" p) [a] [] pos) ds (.int (if b then 1 else 0)) :=
  ed_callTy (T := "int") call_int1 (fun Hd H vs D dx Q q => by
    cases dx with
    | cons h1 h2 =>
      cases h2
      cases h1
      exact .inr ⟨b, rfl, q _ Hd H (Gr.refl D) (.int _)⟩) hm hb (ad_cons ha ad_nil hs) hg (by decide) (by decide) hs (by rfl)
/-! ### a table of the module: is a text in it -/
theorem ed_notInKd {A : Addr} {z : Str} {r : Option Value} {en : Array DictEntry} {n : Nat} (D : KDict X.K X.w A en n) (hm : X.mg x = some (.ref A)) (hv : PySem.W.nsIn X.K A z = some r) (ha : PEd X tb a ds (.str z)) (hg : Gl X x := by rfl) (hdb : (x == ("__debug__" : Str)) = false := by decide)
    (hmk : behindInMarks .NotIn (.Name x px) = false := by first | exact nomark _ | rfl) : PEd X tb (.Compare a [.NotIn] [.Name x px] pos) ds (.bool (!r.isSome)) :=
  let ⟨_, p1, q1⟩ := ha; ⟨_, pe_cmpR (op_notIn_kd D) p1 (pe_glob (v := .ref A) hg hm rfl hdb) hmk, fun Hd H σ E Q q => q1 Hd H σ E _ fun v Hd1 H1 g dv => by
    cases dv
    exact ⟨z, r, rfl, rfl, hv, q _ Hd1 H1 g (.bl _)⟩⟩
theorem td_notInKd {A : Addr} {z : Str} {r : Option Value} {en : Array DictEntry} {n : Nat} {kk : Bool} (D : KDict X.K X.w A en n) (hm : X.mg x = some (.ref A)) (hv : PySem.W.nsIn X.K A z = some r) (ha : PEd X tb a ds (.str z)) (hk : (!r.isSome) = kk := by rfl) (hg : Gl X x := by rfl) (hdb : (x == ("__debug__" : Str)) = false := by decide)
    (hmk : behindInMarks .NotIn (.Name x px) = false := by first | exact nomark _ | rfl) : PTd X tb (.Compare a [.NotIn] [.Name x px] pos) ds kk :=
  let ⟨_, p1, q1⟩ := ha; ⟨_, pt_cmpR (op_notIn_kd D) p1 (pe_glob (v := .ref A) hg hm rfl hdb) hmk, fun Hd H σ E Q q => q1 Hd H σ E _ fun v Hd1 H1 g dv => by
    cases dv
    exact ⟨z, r, rfl, rfl, hv, kk, by rw [hk], q Hd1 H1 g⟩⟩
/-! ### values that are no data -/
def PVd (X : Cx) (tb : List Addr) (e : Expr) (ds : List Sl) (v : V) : Prop := ∃ t, PE X e t ∧ ∀ (Hd H : Hp) (σ : L2.St), Env X.K tb Hd H σ ds → ∀ Q : VK, (∀ Hd' H', Gr Hd H Hd' H' → Q v H') → t σ H Q
theorem vd_kdGet {A : Addr} {z : Str} {u : Value} {v : V} {en : Array DictEntry} {n : Nat} (D : KDict X.K X.w A en n) (hm : X.mg x = some (.ref A)) (hv : PySem.W.nsIn X.K A z = some (some u)) (r : RelV v u) (ha : PEd X tb a ds (.str z)) (hg : Gl X x := by rfl) (hdb : (x == ("__debug__" : Str)) = false := by decide) (hs : PlainIx a := by exact fun _ _ => rfl) :
    PVd X tb (.Subscript (.Name x px) a pos) ds v :=
  let ⟨_, p1, q1⟩ := ha; ⟨_, pe_ix (ix_kd D) (pe_glob (v := .ref A) hg hm rfl hdb) p1 hs, fun Hd H σ E Q k => q1 Hd H σ E _ fun w Hd1 H1 g dw => by
    cases dw
    exact ⟨z, u, v, rfl, rfl, hv, r, k Hd1 H1 g⟩⟩
theorem sd_setV (i : Nat) {v : V} (h : PVd X tb a ds v) (hN : X.N.Nodup) (hi : X.N[i]? = some x := by rfl) (hx : locB X.env.scope x = true := by rfl) (hs : swapsWith a (some (.Name x pos')) pos.line X.env = pure false := by rfl)
    (hf : X.fn x = true ∨ X.env.scope.names.lookup x = some .local := by first | exact .inl rfl | exact .inr rfl) : PSd X tb W (.Assign [.Name x pos'] a pos) ds (.nx (ds.set i (.val v))) :=
  let ⟨_, p1, q1⟩ := h; ⟨_, ps_set hN hi (locB_ok hx) p1 hs hf, fun Hd0 H0 Hd H σ D S p => q1 Hd H σ S.env _ fun Hd' H' g => p _ Hd' H' ((S.up g).set (s := .val v) rfl fun _ z => nomatch z) g.d⟩
/-- a def at an address -/
structure FnAt (P : Program) (w : World) (K : PySem.W.Frag) (mg : Str → Option Value) (base : Heap) (tb : List Addr) (f : Addr) (ps : List Str) (k : Nat) (R : List PyData → PyData → Prop) : Prop where
  ex : ∃ fd : FuncData, FnOk P w K mg base CX0 k f fd ps (spD K tb ps.length R) ∧ PySem.W.keepIn K (.ref f) = true ∧ Binds K fd ps []
theorem ed_callLoc (i : Nat) {R : List PyData → PyData → Prop} {fa : Addr} (G : FnAt X.prog X.w X.K X.mg X.base tb fa ps k R) (hr : Room k X.A) (ha : PAd X tb (a :: args) ds fs) (hR : R fs d) (hd : ds[i]? = some (.val (.ref fa)) := by rfl) (hl : fs.length = ps.length := by rfl) (hN : X.N[i]? = some x := by rfl) (hv : visB X.env.scope x = true := by rfl) (hdb : (x == ("__debug__" : Str)) = false := by decide) (hcd : (x == ("__classdict__" : Str)) = false := by decide)
    (he : starEach (a :: args) X.env = (false, eval a X.env) :: starEach args X.env := by rfl) (hpl : (backTo pos (starEach args X.env)).any (·.1) = false := by rfl) : PEd X tb (.Call (.Name x p) (a :: args) [] pos) ds d := by
  obtain ⟨fd, F, hk, hb⟩ := G.ex
  obtain ⟨t, p1, q1⟩ := ha
  refine ⟨_, pe_callL F hr hN (visB_ok hv) hk hb .nil (pass0 (X := X)) p1 hdb hcd he hpl, fun Hd H σ E Q z => ⟨E.val hd, q1 Hd H σ E _ fun vs Hd1 H1 g dv => ?_⟩⟩
  have E1 := E.up g
  refine ⟨Hd1, fs, d, by rw [List.append_nil, dpa_len dv]; exact hl, g.h, E1.tb, by rw [List.append_nil]; exact dv, hR, fun v Hd2 H2 g2 _ dv2 => z v Hd2 H2 (g.trans g2) dv2⟩
end
end DL
/-! DL36: a dict of one's own with text keys: written, put together, asked. -/
namespace L2
open PySem PySem.Spec PyProof.Rows
section
variable {X : Cx} {pins : List (Addr × Obj)} {σ : St} {H : Hp} {s : Shared} {a b : Addr} {kvs more : List (Key × V)} {A : Around} {E : Value → Shared → Prop}
theorem d_update {Q : Value → Shared → Prop} (I : Inv X pins σ H s) (e : H a = some (.dK kvs)) (e2 : H b = some (.dK more)) (hne : a ≠ b) (hl : kvs.length + more.length ≤ sizeLine) (h : ∀ s', Inv X pins σ (upd H a (.dK (mergeK kvs more))) s' → Q .none s') :
    wpAny (model X.prog X.w) A (call (.builtin "dict.update") [.ref a, .ref b]) Q E s := by
  obtain ⟨z, hd, vs, rel, dd⟩ := dk_of I.hok e
  obtain ⟨z2, hd2, ms, rel2, dd2⟩ := dk_of I.hok e2
  refine call_meetsIn PySem.F.slot_dict_update dd.typeIs PySem.F.entry_dict_update (PySem.F.args_dict_update_2 _ _) (meets_dict_update (mixKind X.prog X.w) a b hne hd2) ⟨vs, ms, dd, dd2, by rw [← rel.length, ← rel2.length]; exact hl, fun h' dd' _ hs => h _ ?_⟩
  have he : ∃ q, h'.get? a = some q := let ⟨q, _, _, hq, _⟩ := dd'; ⟨q, hq⟩
  exact d_write I (by rw [e]; exact True.intro) hs he (dk_new (Nat.le_trans (length_mergeK more kvs) hl) hd (KV.merge rel2 rel) dd')
end
def tDUpd (td ty : TE) : TE := fun σ H Q => td σ H fun x H1 => ∃ a, x = .ref a ∧ IsD H1 a ∧ ty σ H1 fun y H2 => ∃ b kvs more, y = .ref b ∧ a ≠ b ∧ H2 a = some (.dK kvs) ∧ H2 b = some (.dK more) ∧ kvs.length + more.length ≤ sizeLine ∧ Q .non (upd H2 a (.dK (mergeK kvs more)))
section
variable {X : Cx} {o e f : Expr} {apos cpos : Pos} {td ty tx : TE}
theorem pe_dupd (ho : PE X o td) (he : PE X e ty) (m : M1 X o "update" apos e cpos) : PE X (.Call (.Attribute o "update" apos) [e] [] cpos) (tDUpd td ty) := by
  refine ⟨fun pins s σ H Q I h => ?_⟩
  refine wpAny_Call_method m.base m.few m.line PySem.F.plainAttrs_dict PySem.F.slot_dict_update PySem.F.type_dict_update (thn (ho.run pins s σ H _ I h) fun u s1 ⟨x, H1, I1, rx, a, ex, d, q1⟩ => ?_)
  subst ex
  obtain rfl : u = Value.ref a := rx
  obtain ⟨t1, t2, _⟩ := isD_at I1 d
  refine ⟨t1, t2, ?_⟩
  rw [m.trees]
  refine Calls.callWith_builtin rfl (Calls.evalArgs_plain (Calls.spliced_cons (thn (he.run pins s1 σ H1 _ I1 q1) fun iv s2 ⟨y, H2, I2, ry, b, kvs, more, ey, hne, e1, e2, hl, q2⟩ => Calls.spliced_nil ?_)))
  subst ey
  obtain rfl : iv = Value.ref b := ry
  exact d_update I2 e1 e2 hne hl fun s3 I3 => ⟨.non, _, I3, rfl, q2⟩
end
end L2
namespace DL
open PySem PySem.Spec PyProof.Rows L2
/-- the written pairs of a display: texts, and texts or whole numbers -/
inductive PPc (X : Cx) : List (Option Expr) → List Expr → List (Str × V) → Prop where
  | nil : PPc X [] [] []
  | str {k v : Str} {i j : Nat} {p q : Pos} {ks : List (Option Expr)} {vs : List Expr} {r : List (Str × V)} (h : PPc X ks vs r) : PPc X (some (.Constant (.str k) i p) :: ks) (.Constant (.str v) j q :: vs) ((k, .str v) :: r)
  | int {k : Str} {v : Int} {i j : Nat} {p q : Pos} {ks : List (Option Expr)} {vs : List Expr} {r : List (Str × V)} (h : PPc X ks vs r) : PPc X (some (.Constant (.str k) i p) :: ks) (.Constant (.int v) j q :: vs) ((k, .int v) :: r)
theorem ppc_ts {X : Cx} {pos : Pos} : ∀ {ks : List (Option Expr)} {vs : List Expr} {r : List (Str × V)}, PPc X ks vs r → ∃ trs, PPs X pos ks vs trs ∧ ∀ (σ : L2.St) (H : Hp) (Q : List (V × V) → Hp → Prop), Q (r.map fun p => (V.str p.1, p.2)) H → tPairs trs σ H Q
  | _, _, _, .nil => ⟨[], pps_nil, fun _ _ _ q => q⟩
  | _, _, _, .str h => by
    obtain ⟨trs, p, q⟩ := ppc_ts (pos := pos) h
    exact ⟨_, pps_cons pe_str pe_str p, fun σ H Q z => q σ H _ z⟩
  | _, _, _, .int h => by
    obtain ⟨trs, p, q⟩ := ppc_ts (pos := pos) h
    exact ⟨_, pps_cons pe_str pe_int p, fun σ H Q z => q σ H _ z⟩
theorem ppc_all {X : Cx} : ∀ {ks : List (Option Expr)} {vs : List Expr} {r : List (Str × V)}, PPc X ks vs r → ks.all (·.isSome) = true ∧ ks.length = vs.length ∧ ks.length = r.length
  | _, _, _, .nil => ⟨rfl, rfl, rfl⟩
  | _, _, _, .str h => by
    obtain ⟨h1, h2, h3⟩ := ppc_all h
    exact ⟨by rw [List.all_cons, h1] <;> rfl, congrArg (· + 1) h2, congrArg (· + 1) h3⟩
  | _, _, _, .int h => by
    obtain ⟨h1, h2, h3⟩ := ppc_all h
    exact ⟨by rw [List.all_cons, h1] <;> rfl, congrArg (· + 1) h2, congrArg (· + 1) h3⟩
def keyedV (r : List (Str × V)) : List (Key × V) := r.map fun p => (Sum.inr p.1, p.2)
def dictS (kvs : List (Key × V)) : Sl := .hp (fun v Hd => ∃ a, v = .ref a ∧ Hd a = some (.dK kvs)) fun _ _ _ s ⟨a, e, h⟩ => ⟨a, e, s a _ h⟩
section
variable {X : Cx} {tb : List Addr} {W : WX'} {ds es : List Sl} {d e f g : PyData} {a b c : Expr} {pos pos' pos1 pos2 pos3 p px py : Pos} {x y : Str} {k : Nat} {rest : List Stmt} {o : Out}
/-- a display, as a reading -/
theorem disp_run {ks : List (Option Expr)} {vs : List Expr} {r : List (Str × V)} (h : PPc X ks vs r) (h0 : ks ≠ []) (h15 : ks.length ≤ 15) : ∃ t, PE X (.Dict ks vs pos) t ∧ ∀ (σ : L2.St) (H : Hp) (Q : VK), (∀ c, H c = none → Q (.ref c) (upd H c (.dK (mergeK [] (keyedV r))))) → t σ H Q := by
  obtain ⟨trs, p1, q1⟩ := ppc_ts (pos := pos) h
  obtain ⟨l1, l2, l3⟩ := ppc_all h
  refine ⟨_, pe_disp p1 l1 l2 h0 h15, fun σ H Q q => ?_⟩
  intro c hc
  refine q1 σ _ _ ⟨upd_same, keyedV r, ?_, ?_, ?_⟩
  · unfold keyedV
    rw [List.map_map] <;> rfl
  · unfold keyedV
    rw [List.length_map, ← l3]
    exact h15
  · rw [upd_upd]
    exact q c hc
/-- x = {..} -/
theorem sd_dict (i : Nat) {ks : List (Option Expr)} {vs : List Expr} {r : List (Str × V)} (h : PPc X ks vs r) (hN : X.N.Nodup) (h0 : ks ≠ [] := by exact fun z => nomatch z) (h15 : ks.length ≤ 15 := by decide) (hi : X.N[i]? = some x := by rfl) (hx : locB X.env.scope x = true := by rfl) (hs : swapsWith (.Dict ks vs pos1) (some (.Name x pos')) pos.line X.env = pure false := by rfl)
    (hf : X.fn x = true ∨ X.env.scope.names.lookup x = some .local := by first | exact .inl rfl | exact .inr rfl) : PSd X tb W (.Assign [.Name x pos'] (.Dict ks vs pos1) pos) ds (.nx (ds.set i (dictS (mergeK [] (keyedV r))))) := by
  obtain ⟨t, p1, q1⟩ := disp_run (X := X) (pos := pos1) h h0 h15
  refine ⟨_, ps_set hN hi (locB_ok hx) p1 hs hf, fun Hd0 H0 Hd H σ D S z => q1 σ H _ fun c hc => ?_⟩
  have g := Gr.new (o := .dK (mergeK [] (keyedV r))) S.env.dh hc fun _ z => HO.noConfusion z
  exact z _ _ _ ((S.up g).set (i := i) (s := dictS (mergeK [] (keyedV r))) ⟨c, rfl, upd_same⟩ fun _ z => nomatch z) g.d
theorem len_keyed (r : List (Str × V)) : (keyedV r).length = r.length := by
  unfold keyedV
  rw [List.length_map]
/-- x = {..}, x.update({..}) -/
theorem bd_dictUpd (i : Nat) {ks ks2 : List (Option Expr)} {vs vs2 : List Expr} {r r2 : List (Str × V)} {apos cpos dpos : Pos} (h : PPc X ks vs r) (h2 : PPc X ks2 vs2 r2) (hN : X.N.Nodup) (hk : PBd X tb W rest (ds.set i (dictS (mergeK (mergeK [] (keyedV r)) (mergeK [] (keyedV r2))))) o) (il : i < ds.length := by decide) (h0 : ks ≠ [] := by exact fun z => nomatch z) (h15 : ks.length ≤ 15 := by decide) (h02 : ks2 ≠ [] := by exact fun z => nomatch z) (h152 : ks2.length ≤ 15 := by decide) (hi : X.N[i]? = some x := by rfl) (hx : locB X.env.scope x = true := by rfl) (hs : swapsWith (.Dict ks vs pos1) (some (.Name x pos')) pos.line X.env = pure false := by rfl)
    (hf : X.fn x = true ∨ X.env.scope.names.lookup x = some .local := by first | exact .inl rfl | exact .inr rfl) (hv : visB X.env.scope x = true := by rfl) (hd1 : (x == ("__debug__" : Str)) = false := by decide) (hd2 : (x == ("__classdict__" : Str)) = false := by decide)
    (hbase : attributeBase (.Name x px) "update" X.env (eval (.Name x px) X.env) = eval (.Name x px) X.env := by rfl)
    (hfew : ((backTo cpos (starEach [.Dict ks2 vs2 dpos] X.env)).all (fun x => !x.1) && (backToKw cpos (keywordEach [] X.env)).all (fun x => x.1.isSome)
      && decide (([.Dict ks2 vs2 dpos] : List Expr).length + ([] : List Keyword).length + (if ([] : List Keyword).isEmpty then 0 else 1) < 30)) = true := by rfl)
    (hline : (apos.endLine == cpos.line) = true := by rfl) (htrees : backTo cpos (starEach [.Dict ks2 vs2 dpos] X.env) = [(false, eval (.Dict ks2 vs2 dpos) X.env)] := by rfl)
    (hsw : swapsWith (.Call (.Attribute (.Name x px) "update" apos) [.Dict ks2 vs2 dpos] [] cpos) none pos2.line X.env = pure false := by rfl) :
    PBd X tb W (.Assign [.Name x pos'] (.Dict ks vs pos1) pos :: .Expr (.Call (.Attribute (.Name x px) "update" apos) [.Dict ks2 vs2 dpos] [] cpos) pos2 :: rest) ds o := by
  obtain ⟨t, p1, q1⟩ := disp_run (X := X) (pos := pos1) h h0 h15
  obtain ⟨t2, p2, q2⟩ := disp_run (X := X) (pos := dpos) h2 h02 h152
  obtain ⟨t3, p3, q3⟩ := hk
  obtain ⟨_, _, l3⟩ := ppc_all h
  obtain ⟨_, _, l4⟩ := ppc_all h2
  refine ⟨_, pss_cons (ps_set hN hi (locB_ok hx) p1 hs hf) (pss_cons (ps_expr (pe_dupd (pe_var hi (visB_ok hv) hd1 hd2) p2 ⟨hbase, hfew, hline, htrees⟩) hsw) p3), fun Hd0 H0 Hd H σ D S z => q1 σ H _ fun c hc => ?_⟩
  refine ⟨.ref c, List.getElem?_set_self (by rw [S.env.len]; exact il), c, rfl, .inl ⟨_, .inl upd_same⟩, q2 _ _ _ fun c2 hc2 => ?_⟩
  have ne : c ≠ c2 := fun q => by
    rw [← q, upd_same] at hc2
    cases hc2
  have hc3 : H c2 = none := by rw [upd_ne (Ne.symm ne)] at hc2; exact hc2
  refine ⟨c2, mergeK [] (keyedV r), mergeK [] (keyedV r2), rfl, ne, by rw [upd_ne ne]; exact upd_same, upd_same, ?_, ?_⟩
  · have k1 := length_mergeK (keyedV r) []
    have k2 := length_mergeK (keyedV r2) []
    rw [len_keyed, ← l3] at k1
    rw [len_keyed, ← l4] at k2
    refine Nat.le_trans (show _ ≤ 30 by simp only [List.length_nil] at k1 k2; omega) (by decide)
  · have e : upd (upd (upd H c (.dK (mergeK [] (keyedV r)))) c2 (.dK (mergeK [] (keyedV r2)))) c (.dK (mergeK (mergeK [] (keyedV r)) (mergeK [] (keyedV r2)))) = upd (upd H c2 (.dK (mergeK [] (keyedV r2)))) c (.dK (mergeK (mergeK [] (keyedV r)) (mergeK [] (keyedV r2)))) := by
      funext b
      by_cases q1 : b = c
      · rw [q1, upd_same, upd_same]
      · rw [upd_ne q1, upd_ne q1]
        by_cases q2 : b = c2
        · rw [q2, upd_same, upd_same]
        · rw [upd_ne q2, upd_ne q2, upd_ne q1]
    rw [e]
    have g1 := Gr.newOut (o := .dK (mergeK [] (keyedV r2))) S.env.dh hc3
    have g2 := Gr.new (p := c) (o := .dK (mergeK (mergeK [] (keyedV r)) (mergeK [] (keyedV r2)))) g1.h (by rw [upd_ne ne]; exact hc) fun _ z => HO.noConfusion z
    have g := g1.trans g2
    exact q3 Hd0 H0 _ _ _ D ((S.up g).set (i := i) (s := dictS _) ⟨c, rfl, upd_same⟩ fun _ z => nomatch z) (z.back g.d)
/-- x.get(key, other) -/
theorem ed_dictGet2 (i : Nat) {kvs : List (Key × V)} {z : Str} {apos cpos : Pos} (hr : Room k X.A) (ha : PEd X tb a ds (.str z)) (hb : PEd X tb b ds g) (h1 : ∀ v, valV kvs (.inr z) = some v → ∀ Hd, Dp X.K Hd v d) (h2 : valV kvs (.inr z) = none → g = d) (hd : ds[i]? = some (dictS kvs) := by rfl) (hN : X.N[i]? = some x := by rfl) (hv : visB X.env.scope x = true := by rfl) (hd1 : (x == ("__debug__" : Str)) = false := by decide) (hd2 : (x == ("__classdict__" : Str)) = false := by decide)
    (hbase : attributeBase (.Name x px) "get" X.env (eval (.Name x px) X.env) = eval (.Name x px) X.env := by rfl)
    (hfew : ((backTo cpos (starEach [a, b] X.env)).all (fun x => !x.1) && (backToKw cpos (keywordEach [] X.env)).all (fun x => x.1.isSome)
      && decide (([a, b] : List Expr).length + ([] : List Keyword).length + (if ([] : List Keyword).isEmpty then 0 else 1) < 30)) = true := by rfl)
    (hline : (apos.endLine == cpos.line) = true := by rfl) (htrees : backTo cpos (starEach [a, b] X.env) = [(false, eval a X.env), (false, eval b X.env)] := by rfl) :
    PEd X tb (.Call (.Attribute (.Name x px) "get" apos) [a, b] [] cpos) ds d := by
  obtain ⟨t1, p1, q1⟩ := ha
  obtain ⟨t2, p2, q2⟩ := hb
  refine ⟨_, pe_dget2 (hu_of hr) (pe_var hN (visB_ok hv) hd1 hd2) p1 p2 ⟨hbase, hfew, hline, htrees⟩, fun Hd H σ E Q q => ?_⟩
  obtain ⟨o, e1, e2⟩ := E.sl i _ hd
  cases o with
  | none => exact e2.elim
  | some w =>
    obtain ⟨c, rfl, hc⟩ : ∃ c, w = .ref c ∧ Hd c = some (.dK kvs) := e2
    refine ⟨.ref c, e1, c, rfl, .inl ⟨kvs, .inl (E.dh.s c _ hc)⟩, q1 Hd H σ E _ fun v Hd1 H1 g1 dv => q2 Hd1 H1 σ (E.up g1) _ fun u Hd2 H2 g2 du => ?_⟩
    cases dv
    refine ⟨_, DGet.k (k := Sum.inr z) (g2.h.s c _ ((g1.trans g2).d c _ hc)), ?_⟩
    cases e : valV kvs (.inr z) with
    | none => exact q u Hd2 H2 (g1.trans g2) (h2 e ▸ du)
    | some v => exact q v Hd2 H2 (g1.trans g2) (h1 v e Hd2)
end
end DL
/-! DL37: tuple * 0, tuple * 1. -/
namespace L2
open PySem PySem.Spec PyProof.Rows
theorem tuple_mul1 (l : Addr) (items : Array Value) (n : Nat) (dd : Option Addr) (sl : Array (Option Value)) (u : Tok) :
    Meets (Builtin.«tuple.__mul__» ⟨[.ref l, .int 1 u], []⟩) (fun _ R s => s.heap.get? l = some { cls := .type "tuple", dict := dd, data := .seq items n, slots := sl } ∧ R (.ok (.ret (Value.ref l))) s) :=
  .of_wp fun prog w A R s h => by
    obtain ⟨hp, g, d, tk, os⟩ := s
    obtain ⟨hl, h⟩ := h
    have f1 := AutoSeq1.idx_int
    wp_walk using wpAny_loadPart' hl
    repeat (first
      | (refine wpAny_ite_false (by decide) ?_; wp_walk using wpAny_loadPart' hl)
      | (refine wpAny_ite_true (by simp) ?_; wp_walk using wpAny_loadPart' hl))
    exact ⟨_, rfl, h⟩
theorem tuple_mul0 (l : Addr) (items : Array Value) (n : Nat) (dd : Option Addr) (sl : Array (Option Value)) (u : Tok) (hi : items.isEmpty = false) :
    Meets (Builtin.«tuple.__mul__» ⟨[.ref l, .int 0 u], []⟩) (fun _ R s => s.heap.get? l = some { cls := .type "tuple", dict := dd, data := .seq items n, slots := sl } ∧
      R (.ok (.ret (Value.ref s.heap.objs.size))) { s with heap := s.heap.push { cls := Value.type "tuple", data := Data.seq #[] }, toks := s.toks }) :=
  .of_wp fun prog w A R s h => by
    obtain ⟨hp, g, d, tk, os⟩ := s
    obtain ⟨hl, h⟩ := h
    have f1 := AutoSeq1.idx_int
    wp_walk using wpAny_loadPart' hl
    repeat (first
      | (refine wpAny_ite_false (by first | decide | (rw [hi]; decide)) ?_; wp_walk using wpAny_loadPart' hl)
      | (refine wpAny_ite_true (by simp) ?_; wp_walk using wpAny_loadPart' hl))
    exact ⟨_, rfl, h⟩
def rRep01 (K : PySem.W.Frag) : R2 := fun x y H Q => ∃ l k xs, x = .ref l ∧ y = .int k ∧ SqT K H l xs ∧ xs ≠ [] ∧ (k = 0 ∨ k = 1) ∧ (k = 1 → Q (.ref l) H) ∧ (k = 0 → ∀ p, H p = none → Q (.ref p) (upd H p (.tup [])))
section
variable {X : Cx}
theorem op_rep01 : OpR X (binaryOp .Mult) (rRep01 X.K) := by
  intro pins s σ H x y v u Q I rx ry h
  obtain ⟨l, k, xs, rfl, rfl, hT, hne, hk, q1, q0⟩ := h
  cases rx
  obtain ⟨t, rfl⟩ := ry
  obtain ⟨its, r, ⟨⟨cls, dd, data, sl⟩, ho, hc, n, hd⟩, hs⟩ := I.tuple hT
  simp only at hc hd
  subst hc hd
  have hle : its.length = xs.length := r.length.symm
  have hi : its.toArray.isEmpty = false := by
    cases its with
    | nil => exact absurd (List.eq_nil_of_length_eq_zero hle.symm) hne
    | cons a b => rfl
  rcases hk with rfl | rfl
  · refine wpAny_binaryOp_repeat_ref (T := "tuple") (U := "int") (by decide) ⟨_, ho, rfl⟩ (fun s' => typeIs_int s' 0 t) noFill_tuple_mul F.fills_int_mul F.slot_int_rmul repeat_tuple F.slot_int_index.lookup
      (call_meets F.slot_int_rmul (typeIs_int s 0 t) F.entry_int_rmul (F.args_int_rmul_2 _ _) (int_rmul_tuple 0 t l its.toArray n dd sl)
        ⟨ho, rfl, ⟨_, ho, rfl⟩, call_meets F.slot_tuple_mul ⟨_, ho, rfl⟩ F.entry_tuple_mul (F.args_tuple_mul_2 _ _) (tuple_mul0 l its.toArray n dd sl t hi) ⟨ho, ?_⟩⟩)
    refine ⟨.ref s.heap.objs.size, _, I.laid (t' := s.toks) (o := .tup []) (fun b ob q => Heap.get?_push_of_some _ q) (Nat.le_refl _) ?_, rfl, q0 rfl _ (I.hok.fresh (Nat.le_refl _))⟩
    exact ⟨Nat.zero_le _, _, .nil, IsTup.new _ _⟩
  · refine wpAny_binaryOp_repeat_ref (T := "tuple") (U := "int") (by decide) ⟨_, ho, rfl⟩ (fun s' => typeIs_int s' 1 t) noFill_tuple_mul F.fills_int_mul F.slot_int_rmul repeat_tuple F.slot_int_index.lookup
      (call_meets F.slot_int_rmul (typeIs_int s 1 t) F.entry_int_rmul (F.args_int_rmul_2 _ _) (int_rmul_tuple 1 t l its.toArray n dd sl)
        ⟨ho, rfl, ⟨_, ho, rfl⟩, call_meets F.slot_tuple_mul ⟨_, ho, rfl⟩ F.entry_tuple_mul (F.args_tuple_mul_2 _ _) (tuple_mul1 l its.toArray n dd sl t) ⟨ho, ?_⟩⟩)
    exact ⟨.ref l, H, I, rfl, q1 rfl⟩
end
end L2
namespace DL
open PySem PySem.Spec PyProof.Rows L2
section
variable {X : Cx} {tb : List Addr} {ds : List Sl} {d : PyData} {b : Expr} {pos p : Pos}
theorem bin_rep01 {xs : List PyData} {k : Int} (hne : xs ≠ []) (h : k = 0 ∨ k = 1) : BinD X tb .Mult (.tuple xs) (.int k) (.tuple (if k = 1 then xs else [])) := ⟨⟨_, op_rep01, fun Hd H x y D _ dx dy Q q => by
  cases dy
  cases dx with
  | @tup A us _ h1 h2 =>
    refine ⟨A, k, us, rfl, rfl, st_sub D.s h1, fun e => hne (by
      have := dpa_len h2
      rw [e] at this
      exact List.eq_nil_of_length_eq_zero this.symm), h, fun e => ?_, fun e p hp => ?_⟩
    · rw [if_pos e] at q
      exact q _ Hd H (Gr.refl D) (.tup h1 h2)
    · rw [if_neg (by omega)] at q
      exact q _ _ _ (Gr.new D hp fun _ z => HO.noConfusion z) (.tup (.inl (.inl upd_same)) .nil)⟩⟩
/-- text.upper() -/
theorem ed_upper {z : Str} {apos : Pos} (hb : PEd X tb b ds (.str z)) (hl : z.length ≤ 5000000) (hbase : attributeBase b "upper" X.env (eval b X.env) = eval b X.env := by rfl) (hline : (apos.endLine == pos.line) = true := by rfl) : PEd X tb (.Call (.Attribute b "upper" apos) [] [] pos) ds (.str (Txt.upper z)) :=
  ed_bm0 (T := "str") (d := .str z) PySem.F.plainAttrs_str PySem.F.slot_str_upper PySem.F.type_str_upper mt_upper (fun Hd H x xs D dx dxs Q q => by
    cases dx
    cases dxs
    exact ⟨z, rfl, rfl, Nat.le_trans hl (by decide), q _ Hd H (Gr.refl D) (.str _)⟩) rfl hb hbase hline
end
/-! ### a list of one's own that is lent -/
/-- called with a list of one's own and data ds it hands back the list, changed -/
def spB (K : PySem.W.Frag) (tb : List Addr) (n : Nat) (R : List PyData → List PyData → List PyData → Prop) : Sp := fun vs H Q _ => ∃ (Hd : Hp) (a : Addr) (ws us : List V) (xs ds ys : List PyData), vs = .ref a :: us ∧ us.length = n ∧ DH Hd H ∧ (∀ P ∈ tb, GxR.TabG H P) ∧ Hd a = none ∧ H a = some (.lst ws) ∧ DpAll K Hd ws xs ∧ DpAll K Hd us ds ∧ R xs ds ys ∧
  ∀ (fo : Addr) (zs : List V) (Hd' H' : Hp), Gr Hd (without H a) Hd' H' → (∀ P ∈ tb, GxR.TabG H' P) → without H a fo = none → Hd' fo = none → H' fo = some (.lst zs) → DpAll K Hd' zs ys → Q (.ref fo) H'
theorem without_ne {H : Hp} {a b : Addr} (h : b ≠ a) : without H a b = H b := if_neg h
theorem without_self {H : Hp} {a : Addr} : without H a a = none := if_pos rfl
theorem gr_lent {Hd H : Hp} {a : Addr} {ws : List V} (D : DH Hd H) (hl : H a = some (.lst ws)) : Gr Hd (without H a) Hd H where
  d := Sub.refl _
  h := D
  e := ⟨fun b o e _ => by
    by_cases q : b = a
    · rw [q, without_self] at e
      cases e
    · rw [without_ne q] at e
      exact e, fun b ⟨ps, e1, e2⟩ => by
    by_cases q : b = a
    · rw [q, without_self] at e1
      cases e1
    · rw [without_ne q] at e1
      exact ⟨ps, e1, e2⟩, fun b e => by
    by_cases q : b = a
    · rw [q, hl] at e
      cases e
    · rw [without_ne q]
      exact e⟩
  f := fun _ e _ => e
section
variable {P : Program} {w : World} {K : PySem.W.Frag} {mg : Str → Option Value} {base : Heap} {x qual : Str} {params : Arguments} {body : List Stmt} {scope : Scope} {f : Addr} {fd : FuncData} {tb : List Addr}
theorem fnb_ok {N ps : List Str} {k n : Nat} {R : List PyData → List PyData → List PyData → Prop} (F : FunD K x qual params body scope [] [] f fd) (S : FnScope N ps scope) (hn : ps.length = n + 1) (hlen : n + 1 ≤ N.length)
    (hb : ∀ (xs ds ys : List PyData), R xs ds ys → ∀ (A : Around) (outer : List PySem.Env) (s : Shared) (H : Hp) (E : XK), Room k (A.deeper (envOfC qual scope s.heap.objs.size f fd.code)) →
      PBd (cxOf CX0 P w K mg base N qual scope f fd.code A outer s H E).nox tb W0 body (.own xs :: sd (N.drop 1) ds) (.ro ys)) : FnOk P w K mg base CX0 (k + 1) f fd ps (spB K tb n R) := by
  refine fok F S (fun vs H Q E h => ?_) fun A outer s H vs Q E hr h => ?_
  · obtain ⟨_, _, _, us, _, _, _, rfl, h, _⟩ := h
    rw [List.length_cons, h, hn]
  · obtain ⟨Hd, a, ws, us, xs, ds, ys, rfl, hl, D, ht, hd, ha, hx, hds, hR, q⟩ := h
    obtain ⟨t, p, r⟩ := hb xs ds ys hR A outer s H E hr
    refine ⟨t, p.nox, r Hd (without H a) Hd H _ _ ⟨?_, gr_lent D ha, fun i zs b e1 e2 => ?_⟩ fun fo zs Hd' H' g ht' h1 h2 h3 h4 => q fo zs Hd' H' g ht' h1 h2 h3 h4⟩
    · have ld := dpa_len hds
      have E0 : Env K tb Hd H (L2.start (N.drop 1) us) (sd (N.drop 1) ds) := start_env (by rw [hl, List.length_drop]; omega) D ht hds
      have es : L2.start N (.ref a :: us) = some (.ref a) :: L2.start (N.drop 1) us := by
        unfold L2.start
        rw [List.map_cons, List.cons_append, List.length_drop, List.length_cons, show N.length - (us.length + 1) = N.length - 1 - us.length by omega]
      rw [es]
      refine ⟨congrArg (· + 1) E0.len, D, ht, fun i sl e => ?_, fun i j zs zs' b n e1 e2 e3 e4 => ?_⟩
      · cases i with
        | zero =>
          cases e
          exact ⟨_, rfl, a, ws, rfl, ha, hd, hx⟩
        | succ i => exact E0.sl i sl e
      · cases i with
        | zero =>
          cases j with
          | zero => exact n rfl
          | succ j => exact (sd_noOwn e2).elim
        | succ i => exact (sd_noOwn e1).elim
    · cases i with
      | zero =>
        have e : a = b := by
          unfold L2.start at e2
          exact V.ref.inj (Option.some.inj (Option.some.inj e2))
        rw [← e]
        exact without_self
      | succ i => exact (sd_noOwn e1).elim
structure FnB (P : Program) (w : World) (K : PySem.W.Frag) (mg : Str → Option Value) (base : Heap) (tb : List Addr) (x : Str) (ps : List Str) (n k : Nat) (R : List PyData → List PyData → List PyData → Prop) : Prop where
  ex : ∃ (f : Addr) (fd : FuncData), FnOk P w K mg base CX0 k f fd ps (spB K tb n R) ∧ mg x = some (.ref f) ∧ PySem.W.keepIn K (.ref f) = true ∧ Binds K fd ps []
end
section
variable {X : Cx} {tb : List Addr} {W : WX'} {ds : List Sl} {pos pos' p p2 py : Pos} {x y : Str} {args : List Expr} {fs : List PyData} {ps : List Str} {n k : Nat}
/-- y = x(y, ..), y's list one's own before and behind -/
theorem sd_setLent (i : Nat) {R : List PyData → List PyData → List PyData → Prop} {xs ys : List PyData} (G : FnB X.prog X.w X.K X.mg X.base tb x ps n k R) (hr : Room k X.A) (ha : PAd X tb args ds fs) (hR : R xs fs ys) (hl : fs.length = n) (hN : X.N.Nodup) (e : ds[i]? = some (.own xs) := by rfl) (hi : X.N[i]? = some y := by rfl) (hy : locB X.env.scope y = true := by rfl) (hv : visB X.env.scope y = true := by rfl) (h1 : (y == ("__debug__" : Str)) = false := by decide) (h2 : (y == ("__classdict__" : Str)) = false := by decide) (hg : Gl X x := by rfl) (hdb : (x == ("__debug__" : Str)) = false := by decide)
    (he : starEach (.Name y py :: args) X.env = (false, eval (.Name y py) X.env) :: starEach args X.env := by rfl) (hpl : (backTo p2 (starEach args X.env)).any (·.1) = false := by rfl) (hs : swapsWith (.Call (.Name x p) (.Name y py :: args) [] p2) (some (.Name y pos')) pos.line X.env = pure false := by rfl)
    (hf : X.fn y = true ∨ X.env.scope.names.lookup y = some .local := by first | exact .inl rfl | exact .inr rfl) :
    PSd X tb W (.Assign [.Name y pos'] (.Call (.Name x p) (.Name y py :: args) [] p2) pos) ds (.nx (ds.set i (.own ys))) := by
  obtain ⟨fa, fd, F, hm, hk, hb⟩ := G.ex
  obtain ⟨t, p1, q1⟩ := ha
  refine ⟨_, ps_set hN hi (locB_ok hy) (pe_call F hr hg hm hk hb .nil (pass0 (X := X)) (pa_cons (pe_var hi (visB_ok hv) h1 h2) p1 he) hdb he hpl) hs hf, fun Hd0 H0 Hd H σ D S z => ?_⟩
  obtain ⟨a, ws, ea, hla, hda, hx⟩ := S.env.own e
  refine ⟨.ref a, ea, q1 Hd H σ S.env _ fun vs Hd1 H1 g dv => ?_⟩
  have S1 := S.up g
  have hl1 : H1 a = some (.lst ws) := g.e.k a _ hla fun _ z => nomatch z
  have hd1 : Hd1 a = none := g.f a hda (by rw [hla]; exact fun z => nomatch z)
  have h00 := S.fr i xs a e ea
  refine ⟨Hd1, a, ws, vs, xs, fs, ys, List.append_nil _, by rw [dpa_len dv]; exact hl, g.h, S1.env.tb, hd1, hl1, DpAll.up hx g.d, dv, hR, fun fo zs Hd2 H2 g2 ht hfo hn2 hl2 hz => ?_⟩
  -- as if the lent list had not been there
  have gl : Gr Hd0 H0 Hd1 (without H1 a) := ⟨S1.gr.d, ⟨fun b o q => by
      have nb : b ≠ a := ne_of_none q hd1
      rw [without_ne nb]
      exact g.h.s b o q, g.h.nt⟩, ⟨fun b o q no => by
      have nb : b ≠ a := ne_of_none q h00
      rw [without_ne nb]
      exact S1.gr.e.k b o q no, fun P hP => by
      obtain ⟨ps, e1, e2⟩ := S1.gr.e.t P hP
      have nP : P ≠ a := fun q => by
        rw [q, hl1] at e1
        cases e1
      exact ⟨ps, by rw [without_ne nP]; exact e1, e2⟩, fun b q => by
      by_cases nb : b = a
      · rw [nb]; exact h00
      · rw [without_ne nb] at q
        exact S1.gr.e.n b q⟩, S1.gr.f⟩
  have G2 := gl.trans g2
  have hfo0 : H0 fo = none := gl.e.n fo hfo
  have il : i < ds.length := (List.getElem?_eq_some_iff.mp e).1
  refine z _ Hd2 H2 ⟨⟨by rw [List.length_set, List.length_set]; exact S1.env.len, G2.h, ht, fun j s q => ?_, fun j j' us us' b nn e1 e2 e3 e4 => ?_⟩, G2, fun j us b e1 e2 => ?_⟩ (g.d.trans g2.d)
  · by_cases qq : i = j
    · subst qq
      rw [List.getElem?_set_self il] at q
      cases q
      exact ⟨_, List.getElem?_set_self (by rw [S1.env.len]; exact il), fo, zs, rfl, hl2, hn2, hz⟩
    · rw [List.getElem?_set_ne qq] at q
      obtain ⟨oo, k1, k2⟩ := S1.env.sl j s q
      refine ⟨oo, by rw [List.getElem?_set_ne qq]; exact k1, ?_⟩
      cases s with
      | no => cases oo <;> trivial
      | dat d =>
        cases oo with
        | none => exact k2.elim
        | some v => exact Dp.up k2 g2.d
      | val w =>
        cases oo with
        | none => exact k2.elim
        | some v => exact k2
      | hp φ st =>
        cases oo with
        | none => exact k2.elim
        | some v => exact st v _ _ g2.d k2
      | own us =>
        cases oo with
        | none => exact k2.elim
        | some v =>
          obtain ⟨b, vs', f1, f2, f3, f4⟩ := k2
          have nb : b ≠ a := fun z => by
            rw [f1, z] at k1
            exact S1.env.ap i j xs us a qq e q ea k1
          exact ⟨b, vs', f1, g2.e.k b _ (by rw [without_ne nb]; exact f2) (fun _ z => nomatch z), g2.f b f3 (by rw [without_ne nb, f2]; exact fun z => nomatch z), DpAll.up f4 g2.d⟩
  · have fresh : ∀ (m : Nat) (us : List PyData), i ≠ m → ds[m]? = some (.own us) → σ[m]? = some (some (.ref fo)) → False := fun m us hne f1 f2 => by
      obtain ⟨b, vs', f3, f4, _, _⟩ := S1.env.own f1
      rw [f2] at f3
      have eb : fo = b := V.ref.inj (Option.some.inj (Option.some.inj f3))
      by_cases nb : b = a
      · rw [eb, nb] at f2
        exact S1.env.ap i m xs us a hne e f1 ea f2
      · rw [eb, without_ne nb, f4] at hfo
        cases hfo
    have self : ∀ {t : Option V}, (σ.set i (some (V.ref fo)))[i]? = some t → t = some (.ref fo) := fun {t} f => by
      have hil : i < σ.length := by
        have := (List.getElem?_eq_some_iff.mp f).1
        rw [List.length_set] at this
        exact this
      rw [List.getElem?_set_self hil] at f
      exact (Option.some.inj f).symm
    by_cases q1 : i = j
    · subst q1
      have eb : b = fo := V.ref.inj (Option.some.inj (self e3))
      subst eb
      rw [List.getElem?_set_ne nn] at e2 e4
      exact fresh j' us' nn e2 e4
    · by_cases q2 : i = j'
      · subst q2
        have eb : b = fo := V.ref.inj (Option.some.inj (self e4))
        subst eb
        rw [List.getElem?_set_ne q1] at e1 e3
        exact fresh j us q1 e1 e3
      · rw [List.getElem?_set_ne q1] at e1 e3
        rw [List.getElem?_set_ne q2] at e2 e4
        exact S1.env.ap j j' us us' b nn e1 e2 e3 e4
  · by_cases q1 : i = j
    · subst q1
      have hil : i < σ.length := by
        have := (List.getElem?_eq_some_iff.mp e2).1
        rw [List.length_set] at this
        exact this
      rw [List.getElem?_set_self hil] at e2
      have eb : fo = b := V.ref.inj (Option.some.inj (Option.some.inj e2))
      rw [← eb]
      exact hfo0
    · rw [List.getElem?_set_ne q1] at e1 e2
      exact S1.fr j us b e1 e2
end
/-! ### a new list made while one's own is looked at -/
mutual
/-- no list within -/
def noL : PyData → Bool
  | .list _ => false
  | .tuple xs => noLs xs
  | .dict _ => false
  | _ => true
def noLs : List PyData → Bool
  | [] => true
  | x :: r => noL x && noLs r
end
mutual
theorem dp_without {K : PySem.W.Frag} {H : Hp} {a : Addr} {vs : List V} (ha : H a = some (.lst vs)) : ∀ (d : PyData) (v : V), noL d = true → Dp K H v d → Dp K (without H a) v d
  | .none, _, _, h => by cases h; exact .non
  | .bool b, _, _, h => by cases h; exact .bl b
  | .int i, _, _, h => by cases h; exact .int i
  | .str x, _, _, h => by cases h; exact .str x
  | .list ds, _, n, _ => by
    unfold noL at n
    cases n
  | .tuple ds, _, n, h => by
    unfold noL at n
    cases h with
    | @tup b us _ h1 h2 =>
      refine .tup ?_ (dpa_without ha ds _ n h2)
      rcases h1 with (h1 | ⟨o, h1⟩) | h1
      · exact .inl (.inl (by rw [without_ne (fun q => by rw [q, ha] at h1; cases h1)]; exact h1))
      · exact .inl (.inr ⟨o, by rw [without_ne (fun q => by rw [q, ha] at h1; cases h1)]; exact h1⟩)
      · exact .inr h1
  | .dict _, _, _, h => by cases h
theorem dpa_without {K : PySem.W.Frag} {H : Hp} {a : Addr} {vs : List V} (ha : H a = some (.lst vs)) : ∀ (ds : List PyData) (us : List V), noLs ds = true → DpAll K H us ds → DpAll K (without H a) us ds
  | [], _, _, h => by cases h; exact .nil
  | d :: ds, _, n, h => by
    unfold noLs at n
    rw [Bool.and_eq_true] at n
    cases h with
    | cons h1 h2 => exact .cons (dp_without ha d _ n.1 h1) (dpa_without ha ds _ n.2 h2)
end
section
variable {X : Cx} {tb : List Addr} {ds : List Sl} {c : Expr}
theorem od_peek (i : Nat) {xs ys : List PyData} (h : POd' X tb c (ds.set i (.dat (.list xs))) ys) (hn : noLs ys = true) (e : ds[i]? = some (.own xs) := by rfl) : POd' X tb c ds ys := by
  obtain ⟨t, p, q⟩ := h
  refine ⟨t, p, fun Hd H σ E Q z => ?_⟩
  obtain ⟨A, vs, ea, hl, hd, E2⟩ := E.freeze e
  exact q _ H σ E2 Q fun fo ws Hd' H' g hf hfn hfl hfd => z fo ws _ H' (Gr.unpeek hd g) hf (by show (if fo = A then none else Hd' fo) = none; split <;> first | rfl | exact hfn) hfl (dpa_without (g.d A _ upd_same) ys ws hn hfd)
/-- .. and data without lists -/
theorem ed_peekT (i : Nat) {xs : List PyData} {d : PyData} (h : PEd X tb c (ds.set i (.dat (.list xs))) d) (hn : noL d = true) (e : ds[i]? = some (.own xs) := by rfl) : PEd X tb c ds d := by
  obtain ⟨t, p, q⟩ := h
  refine ⟨t, p, fun Hd H σ E Q z => ?_⟩
  obtain ⟨A, vs, ea, hl, hd, E2⟩ := E.freeze e
  exact q _ H σ E2 Q fun v Hd' H' g dv => z v _ H' (Gr.unpeek hd g) (dp_without (g.d A _ upd_same) d v hn dv)
end
end DL
/-! DL38: lists put together, nobody else's. -/
namespace DL
open PySem PySem.Spec PyProof.Rows L2
section
variable {X : Cx} {tb : List Addr} {ds : List Sl} {a b : Expr} {pos : Pos}
theorem od_cat {xs ys : List PyData} (ha : PEd X tb a ds (.list xs)) (hb : PEd X tb b ds (.list ys)) (h : xs.length + ys.length ≤ 16000000) : POd' X tb (.BinOp a .Add b pos) ds (xs ++ ys) := by
  obtain ⟨t1, p1, q1⟩ := ha
  obtain ⟨t2, p2, q2⟩ := hb
  refine ⟨_, pe_op op_catS p1 p2, fun Hd H σ E Q z => q1 Hd H σ E _ fun x Hd1 H1 g1 dx => q2 Hd1 H1 σ (E.up g1) _ fun y Hd2 H2 g2 dy => ?_⟩
  have dx2 := Dp.up dx g2.d
  cases dx2 with
  | @lst A us _ h1 h2 =>
    cases dy with
    | @lst B ws _ k1 k2 =>
      refine ⟨A, B, us, ws, rfl, rfl, sl_sub g2.h.s h1, sl_sub g2.h.s k1, by rw [dpa_len h2, dpa_len k2]; exact Nat.le_trans h (by decide), fun p hp => ?_⟩
      have g := (g1.trans g2).trans (Gr.newOut (o := .lst (us ++ ws)) g2.h hp)
      exact z p _ _ _ g ((g1.trans g2).e.n p hp) (none_of_dh g2.h hp) upd_same (dpa_app h2 k2)
end
end DL
/-! DL39: comprehensions over any target. -/
namespace DL
open PySem PySem.Spec PyProof.Rows L2
/-- a target that takes an item -/
structure Tg (K : PySem.W.Frag) (tb : List Addr) (g : TG) (is : List Nat) (ds : List Sl) (d : PyData) (ds' : List Sl) : Prop where
  run : ∀ (Hd H : Hp) (σ : L2.St) (v : V), Env K tb Hd H σ ds → Dp K Hd v d → ∀ Q : L2.St → Hp → Prop, (∀ σ', wipe σ' is = wipe σ is → Env K tb Hd H σ' ds' → Q σ' H) → g v (wipe σ is) H Q
theorem Env.wipe1 {K : PySem.W.Frag} {tb : List Addr} {Hd H : Hp} {σ : L2.St} {ds : List Sl} (E' : Env K tb Hd H σ ds) (j : Nat) : Env K tb Hd H (σ.set j none) (ds.set j .no) := by
  have nj : ∀ (m : Nat) (us : List PyData), (ds.set j .no)[m]? = some (.own us) → j ≠ m := fun m us e q => by
    subst q
    have hj : j < ds.length := by
      have := (List.getElem?_eq_some_iff.mp e).1
      rw [List.length_set] at this
      exact this
    rw [List.getElem?_set_self hj] at e
    cases e
  refine ⟨by rw [List.length_set, List.length_set]; exact E'.len, E'.dh, E'.tb, fun k t e => ?_, fun k l xs zs a n e1 e2 e3 e4 => ?_⟩
  · by_cases q : j = k
    · subst q
      have hj : j < ds.length := by
        have := (List.getElem?_eq_some_iff.mp e).1
        rw [List.length_set] at this
        exact this
      rw [List.getElem?_set_self hj] at e
      cases e
      exact ⟨none, List.getElem?_set_self (by rw [E'.len]; exact hj), trivial⟩
    · rw [List.getElem?_set_ne q] at e
      obtain ⟨oo, k1, k2⟩ := E'.sl k t e
      exact ⟨oo, by rw [List.getElem?_set_ne q]; exact k1, k2⟩
  · have n1 := nj k xs e1
    have n2 := nj l zs e2
    rw [List.getElem?_set_ne n1] at e1 e3
    rw [List.getElem?_set_ne n2] at e2 e4
    exact E'.ap k l xs zs a n e1 e2 e3 e4
theorem tgt_name {K : PySem.W.Frag} {tb : List Addr} {ds : List Sl} {d : PyData} (j : Nat) : Tg K tb (gName j) [j] ds d (ds.set j (.dat d)) := ⟨fun Hd H σ v E dv Q q => by
  refine q ((wipe σ [j]).set j (some v)) ?_ ?_
  · show List.set (List.set (List.set σ j none) j (some v)) j none = List.set σ j none
    rw [List.set_set, List.set_set]
  · have := (E.wipe1 j).set (i := j) (s := .dat d) dv fun _ z => nomatch z
    have e : (ds.set j Sl.no).set j (.dat d) = ds.set j (.dat d) := List.set_set ..
    rw [e] at this
    exact this⟩
theorem wipe2 {σ : L2.St} {i j : Nat} {a b : Option V} (h : i ≠ j) : wipe (((wipe σ [i, j]).set i a).set j b) [i, j] = wipe σ [i, j] := by
  show List.set (List.set (List.set (List.set (List.set (List.set σ j none) i none) i a) j b) j none) i none = List.set (List.set σ j none) i none
  simp only [List.set_set]
  rw [List.set_comm a none h]
  simp only [List.set_set]
/-- a, b : a pair -/
def gPair (K : PySem.W.Frag) (i j : Nat) : TG := fun v σ H Q => ∃ (A : Addr) (a b : V), v = .ref A ∧ SqT K H A [a, b] ∧ Q ((σ.set i (some a)).set j (some b)) H
theorem pg_pair {X : Cx} {x y : Str} {px py tp : Pos} {kk i j : Nat} (hc : X.calm = true) (hN : X.N.Nodup) (hi : X.N[i]? = some x := by rfl) (hj : X.N[j]? = some y := by rfl) (hx : locB X.env.scope x = true := by rfl) (hy : locB X.env.scope y = true := by rfl)
    (hfx : X.fn x = true ∨ X.env.scope.names.lookup x = some .local := by first | exact .inl rfl | exact .inr rfl) (hfy : X.fn y = true ∨ X.env.scope.names.lookup y = some .local := by first | exact .inl rfl | exact .inr rfl)
    (h1 : (assignEach [.Name x px, .Name y py] X.env).length = 2 := by rfl) (h2 : (assignEach [.Name x px, .Name y py] X.env).findIdx? (·.1) = none := by rfl)
    (h3 : (assignEach [.Name x px, .Name y py] X.env).map (·.2) = assign (.Name x px) X.env :: (assignEach [.Name y py] X.env).map (·.2) := by rfl) (h4 : (assignEach [.Name y py] X.env).map (·.2) = assign (.Name y py) X.env :: (assignEach [] X.env).map (·.2) := by rfl) :
    PG X (.Tuple [.Name x px, .Name y py] kk tp) (gPair X.K i j) := by
  have p := pg_tup (k := kk) (pos := tp) hc (pgs_cons (pg_name hN hi (locB_ok hx) hfx) (pgs_cons (pg_name hN hj (locB_ok hy) hfy) pgs_nil h4) h3) h1 h2
  refine ⟨fun pins s σ H x u Q I r h => ?_⟩
  obtain ⟨A, a, b, rfl, h, q⟩ := h
  exact p.run pins s σ H _ u Q I r ⟨A, [a, b], rfl, h, rfl, _, _, rfl, _, _, rfl, rfl, q⟩
theorem tgt_two {K : PySem.W.Frag} {tb : List Addr} {ds : List Sl} {d1 d2 : PyData} (i j : Nat) (hij : i ≠ j := by decide) : Tg K tb (gPair K i j) [i, j] ds (.tuple [d1, d2]) ((ds.set i (.dat d1)).set j (.dat d2)) := ⟨fun Hd H σ v E dv Q q => by
  cases dv with
  | @tup A vs _ k1 k2 =>
    cases k2 with
    | cons m1 m2 =>
      cases m2 with
      | @cons b bs d2 ds2 m3 m4 =>
        cases m4
        refine ⟨A, _, _, rfl, st_sub E.dh.s k1, q _ (wipe2 hij) ?_⟩
        have E1 := (((E.wipe1 j).wipe1 i).set (i := i) (s := .dat d1) m1 fun _ z => nomatch z).set (i := j) (s := .dat d2) m3 fun _ z => nomatch z
        have eds : ((((ds.set j .no).set i .no).set i (.dat d1)).set j (.dat d2)) = (ds.set i (.dat d1)).set j (.dat d2) := by
          simp only [List.set_set]
          rw [List.set_comm _ _ (Ne.symm hij), List.set_set]
        rw [eds] at E1
        exact E1⟩
section
variable {X : Cx} {tb : List Addr} {W : WX'} {ds : List Sl} {iter elt tg : Expr} {pos pos' px py spos : Pos} {x y : Str}
theorem ev_lcG {α : Type} {scope : Scope} {ifs : List Expr} {wi : TI} {g : TG} {is : List Nat} (ys : List α) (enc F : α → PyData) (ds' : α → List Sl) (p : α → Bool) (hlen : ys.length ≤ 1000000) (q1 : ∀ (Hd H : Hp) (σ : L2.St), Env X.K tb Hd H σ ds → ∀ R : It → Hp → Prop, (∀ J Hd1 H1, Gr Hd H Hd1 H1 → Walk X.K J Hd1 (ys.map enc) → R J H1) → wi σ H R)
    (hb : ∀ y ∈ ys, Tg X.K tb g is ds (enc y) (ds' y))
    (ht : ∀ y ∈ ys, ∀ (s : Shared) (H : Hp) (C : Addr) (cl : List (Str × Addr)) (fp : List Addr), ∃ t, PTs (X.blk s H scope (compEnvC scope cl C X.env) fp) ifs t ∧ EvT X.K tb t (ds' y) (p y))
    (he : ∀ y ∈ ys, p y = true → ∀ (s : Shared) (H : Hp) (C : Addr) (cl : List (Str × Addr)) (fp : List Addr), PEd (X.blk s H scope (compEnvC scope cl C X.env) fp) tb elt (ds' y) (F y)) :
    EvOw X.K tb (tLc wi g (lcT X scope ifs) (lcE X scope elt) is) ds ((ys.filter p).map F) := by
  intro Hd H σ E Q z
  refine q1 Hd H σ E _ fun J Hd1 H1 g1 wk D hD => ?_
  have hd0 : Hd1 D = none := none_of_dh g1.h hD
  refine ⟨fun i mm H' => mm = ys.length - i ∧ i ≤ ys.length ∧ ∃ Hd' vs, Gr Hd1 H1 Hd' H' ∧ Hd' D = none ∧ H' D = some (.lst vs) ∧ DpAll X.K Hd' vs (((ys.take i).filter p).map F), ⟨ys.length, by simp, Nat.zero_le _, Hd1, [], Gr.newOut g1.h hD, hd0, upd_same, .nil⟩, ?_⟩
  rintro i mm H' ⟨rfl, him, Hd', vs, g', d0, hl, hv⟩
  have E' : Env X.K tb Hd' H' σ ds := (E.up g1).up g'
  by_cases hlt : i < ys.length
  · have hil : i < (ys.map enc).length := by rw [List.length_map]; exact hlt
    have hy : ys[i] ∈ ys := List.getElem_mem hlt
    refine .inr ⟨wk.go i Hd' H' g'.d g'.h hil, fun H2 => i + 1 ≤ ys.length ∧ ∃ Hd2 vs, Gr Hd1 H1 Hd2 H2 ∧ Hd2 D = none ∧ H2 D = some (.lst vs) ∧ DpAll X.K Hd2 vs (((ys.take (i + 1)).filter p).map F), fun H2 z2 => ⟨ys.length - (i + 1), by omega, rfl, z2⟩, fun v H2 y => ?_⟩
    obtain ⟨Hd2, dd, e1, g2, dv⟩ := wk.yl i Hd' H' v H2 g'.d g'.h hil y
    have ed : dd = enc ys[i] := by
      rw [List.getElem?_map, List.getElem?_eq_getElem hlt] at e1
      exact (Option.some.inj e1).symm
    subst ed
    refine (hb ys[i] hy).run Hd2 H2 σ v (E'.up g2) dv _ fun σ' hw E2 => ⟨hw, fun s Hx C cl fp => ?_⟩
    obtain ⟨t, t1, t2⟩ := ht ys[i] hy s Hx C cl fp
    refine ⟨t, t1, t2 Hd2 H2 _ E2 _ fun Hd3 H3 g3 => ?_⟩
    have tk : ys.take (i + 1) = ys.take i ++ [ys[i]] := by rw [List.take_add_one, List.getElem?_eq_getElem hlt] <;> rfl
    have g13 : Gr Hd1 H1 Hd3 H3 := (g'.trans g2).trans g3
    have d3 : Hd3 D = none := (g2.trans g3).f D d0 (by rw [hl]; exact fun z => nomatch z)
    have l3 : H3 D = some (.lst vs) := (g2.trans g3).e.k D _ hl fun _ z => nomatch z
    cases hp : p ys[i] with
    | true =>
      refine iteT fun s Hx C cl fp => (he ys[i] hy hp s Hx C cl fp).can Hd3 H3 _ (E2.up g3) _ fun w Hd4 H4 g4 dw => ?_
      have d4 : Hd4 D = none := g4.f D d3 (by rw [l3]; exact fun z => nomatch z)
      have l4 : H4 D = some (.lst vs) := g4.e.k D _ l3 fun _ z => nomatch z
      have lv : vs.length ≤ ys.length := by
        rw [dpa_len hv, List.length_map]
        exact Nat.le_trans (List.length_filter_le _ _) (by rw [List.length_take]; exact Nat.min_le_right _ _)
      refine ⟨vs, l4, Nat.lt_of_le_of_lt (Nat.le_trans lv hlen) (by decide), hlt, Hd4, vs ++ [w], ?_, d4, upd_same, ?_⟩
      · have G := g13.trans g4
        exact ⟨G.d, ⟨fun b o q => by rw [upd_ne (ne_of_none q d4)]; exact G.h.s b o q, G.h.nt⟩, ⟨fun b o q n => by rw [upd_ne (ne_of_none q hD)]; exact G.e.k b o q n, fun P t => by
          obtain ⟨ps, e1, e2⟩ := G.e.t P t
          exact ⟨ps, by rw [upd_ne (not_tab l4 ⟨ps, e1, e2⟩)]; exact e1, e2⟩, fun b q => by
          by_cases q1 : b = D
          · rw [q1]; exact hD
          · rw [upd_ne q1] at q
            exact G.e.n b q⟩, G.f⟩
      · rw [tk, List.filter_append, List.map_append, List.filter_cons, if_pos hp]
        exact dpa_app (DpAll.up hv ((g2.trans g3).trans g4).d) (.cons dw .nil)
    | false =>
      refine iteF ⟨hlt, Hd3, vs, g13, d3, l3, ?_⟩
      rw [tk, List.filter_append, List.map_append, List.filter_cons, if_neg (by rw [hp]; exact Bool.false_ne_true)]
      show DpAll X.K Hd3 vs (_ ++ [])
      rw [List.append_nil]
      exact DpAll.up hv (g2.trans g3).d
  · have e : i = ys.length := by omega
    subst e
    refine .inl ⟨wk.st _ Hd' H' g'.d g'.h (by rw [List.length_map]; exact Nat.le_refl _), ?_⟩
    rw [List.take_length] at hv
    exact z D vs Hd' H' (g1.trans g') (g1.e.n D hD) d0 hl hv
/-- [e for tg in it if ..] -/
theorem od_lcG {α : Type} {scope : Scope} {ifs : List Expr} {g : TG} {own : List (Str × Nat)} (ys : List α) (enc F : α → PyData) (ds' : α → List Sl) (p : α → Bool) (hc : X.calm = true) (hN : X.N.Nodup) (hi : PId X tb tg iter ds (ys.map enc)) (hlen : ys.length ≤ 1000000) (ok : BlkOk X.N X.env.scope scope own)
    (hg : ∀ (s : Shared) (H : Hp) (C : Addr) (cl : List (Str × Addr)) (fp : List Addr), PG (X.blk s H scope (compEnvC scope cl C X.env) fp) tg g)
    (hb : ∀ y ∈ ys, Tg X.K tb g (own.map (·.2)) ds (enc y) (ds' y))
    (ht : ∀ y ∈ ys, ∀ (s : Shared) (H : Hp) (C : Addr) (cl : List (Str × Addr)) (fp : List Addr), ∃ t, PTs (X.blk s H scope (compEnvC scope cl C X.env) fp) ifs t ∧ EvT X.K tb t (ds' y) (p y))
    (he : ∀ y ∈ ys, p y = true → ∀ (s : Shared) (H : Hp) (C : Addr) (cl : List (Str × Addr)) (fp : List Addr), PEd (X.blk s H scope (compEnvC scope cl C X.env) fp) tb elt (ds' y) (F y))
    (hs : ∀ x, foldedSetIterable iter X.env x = pure x := by intro _; rfl) : POd' X tb (.ListComp elt [⟨tg, iter, ifs, 0⟩] scope pos) ds ((ys.filter p).map F) := by
  obtain ⟨wi, p1, q1⟩ := hi
  exact ⟨_, pe_lc (own := own) (g := g) (tt := lcT X scope ifs) (te := lcE X scope elt) hc hN p1 ok hg
    (fun s H C cl fp => ⟨fun pins s' σ H' Q I h => let ⟨t, a1, a2⟩ := h s H C cl fp; a1.run pins s' σ H' Q I a2⟩) (fun s H C cl fp => ⟨fun pins s' σ H' Q I h => pe_can.run pins s' σ H' Q I (h s H C cl fp)⟩) hs,
    ev_lcG (elt := elt) ys enc F ds' p hlen q1 hb ht he⟩
theorem od_lcGY {α : Type} {scope : Scope} {g : TG} {own : List (Str × Nat)} (ys : List α) (enc F : α → PyData) (ds' : α → List Sl) (hc : X.calm = true) (hN : X.N.Nodup) (hi : PId X tb tg iter ds (ys.map enc)) (hlen : ys.length ≤ 1000000) (ok : BlkOk X.N X.env.scope scope own)
    (hg : ∀ (s : Shared) (H : Hp) (C : Addr) (cl : List (Str × Addr)) (fp : List Addr), PG (X.blk s H scope (compEnvC scope cl C X.env) fp) tg g)
    (hb : ∀ y ∈ ys, Tg X.K tb g (own.map (·.2)) ds (enc y) (ds' y))
    (he : ∀ y ∈ ys, ∀ (s : Shared) (H : Hp) (C : Addr) (cl : List (Str × Addr)) (fp : List Addr), PEd (X.blk s H scope (compEnvC scope cl C X.env) fp) tb elt (ds' y) (F y))
    (hs : ∀ x, foldedSetIterable iter X.env x = pure x := by intro _; rfl) : POd' X tb (.ListComp elt [⟨tg, iter, [], 0⟩] scope pos) ds (ys.map F) := by
  have z := od_lcG (pos := pos) ys enc F ds' (fun _ => true) hc hN hi hlen ok hg hb (fun y hy s H C cl fp => ⟨tYes, pts_nil, fun Hd H σ E Q z => z Hd H (Gr.refl E.dh)⟩) (fun y hy _ => he y hy) hs
  rwa [List.filter_eq_self.mpr fun _ _ => rfl] at z
/-- y = [e for tg in it if ..], y a local name, its list one's own -/
theorem sd_setLcGO {α : Type} {scope : Scope} {ifs : List Expr} {g : TG} {own : List (Str × Nat)} (i : Nat) (ys : List α) (enc F : α → PyData) (ds' : α → List Sl) (p : α → Bool) (hc : X.calm = true) (hN : X.N.Nodup) (hi : PId X tb tg iter ds (ys.map enc)) (hlen : ys.length ≤ 1000000) (ok : BlkOk X.N X.env.scope scope own)
    (hg : ∀ (s : Shared) (H : Hp) (C : Addr) (cl : List (Str × Addr)) (fp : List Addr), PG (X.blk s H scope (compEnvC scope cl C X.env) fp) tg g)
    (hb : ∀ y ∈ ys, Tg X.K tb g (own.map (·.2)) ds (enc y) (ds' y))
    (ht : ∀ y ∈ ys, ∀ (s : Shared) (H : Hp) (C : Addr) (cl : List (Str × Addr)) (fp : List Addr), ∃ t, PTs (X.blk s H scope (compEnvC scope cl C X.env) fp) ifs t ∧ EvT X.K tb t (ds' y) (p y))
    (he : ∀ y ∈ ys, p y = true → ∀ (s : Shared) (H : Hp) (C : Addr) (cl : List (Str × Addr)) (fp : List Addr), PEd (X.blk s H scope (compEnvC scope cl C X.env) fp) tb elt (ds' y) (F y))
    (hy : X.N[i]? = some y := by rfl) (hk : X.env.scope.kind = .function := by rfl) (hyl : X.env.scope.names.lookup y = some .local := by rfl) (hl : (py.line == pos.line) = true := by rfl) (ha : (scope.names.any fun (n, k) => n == y && (k == .local || k == .cell)) = false := by decide +kernel)
    (hs : ∀ x, foldedSetIterable iter X.env x = pure x := by intro _; rfl) : PSd X tb W (.Assign [.Name y py] (.ListComp elt [⟨tg, iter, ifs, 0⟩] scope pos) spos) ds (.nx (ds.set i (.own ((ys.filter p).map F)))) := by
  obtain ⟨wi, p1, q1⟩ := hi
  refine ⟨_, ps_setLc (own := own) (g := g) (tt := lcT X scope ifs) (te := lcE X scope elt) hc hN hy hyl (sw_true hk hyl hl ha) p1 ok hg
    (fun s H C cl fp => ⟨fun pins s' σ H' Q I h => let ⟨t, a1, a2⟩ := h s H C cl fp; a1.run pins s' σ H' Q I a2⟩) (fun s H C cl fp => ⟨fun pins s' σ H' Q I h => pe_can.run pins s' σ H' Q I (h s H C cl fp)⟩) hs, fun Hd0 H0 Hd H σ D S z => ?_⟩
  exact ev_lcG (elt := elt) ys enc F ds' p hlen q1 hb ht he Hd H σ S.env _ fun fo ws Hd' H' g h1 h2 h3 h4 => z _ Hd' H' (S.getOwn i g h1 h2 h3 h4) g.d
theorem sd_setLcG {α : Type} {scope : Scope} {ifs : List Expr} {g : TG} {own : List (Str × Nat)} (i : Nat) (ys : List α) (enc F : α → PyData) (ds' : α → List Sl) (p : α → Bool) (hc : X.calm = true) (hN : X.N.Nodup) (hi : PId X tb tg iter ds (ys.map enc)) (hlen : ys.length ≤ 1000000) (ok : BlkOk X.N X.env.scope scope own)
    (hg : ∀ (s : Shared) (H : Hp) (C : Addr) (cl : List (Str × Addr)) (fp : List Addr), PG (X.blk s H scope (compEnvC scope cl C X.env) fp) tg g)
    (hb : ∀ y ∈ ys, Tg X.K tb g (own.map (·.2)) ds (enc y) (ds' y))
    (ht : ∀ y ∈ ys, ∀ (s : Shared) (H : Hp) (C : Addr) (cl : List (Str × Addr)) (fp : List Addr), ∃ t, PTs (X.blk s H scope (compEnvC scope cl C X.env) fp) ifs t ∧ EvT X.K tb t (ds' y) (p y))
    (he : ∀ y ∈ ys, p y = true → ∀ (s : Shared) (H : Hp) (C : Addr) (cl : List (Str × Addr)) (fp : List Addr), PEd (X.blk s H scope (compEnvC scope cl C X.env) fp) tb elt (ds' y) (F y))
    (hil : i < ds.length) (hy : X.N[i]? = some y := by rfl) (hk : X.env.scope.kind = .function := by rfl) (hyl : X.env.scope.names.lookup y = some .local := by rfl) (hl : (py.line == pos.line) = true := by rfl) (ha : (scope.names.any fun (n, k) => n == y && (k == .local || k == .cell)) = false := by decide +kernel)
    (hs : ∀ x, foldedSetIterable iter X.env x = pure x := by intro _; rfl) : PSd X tb W (.Assign [.Name y py] (.ListComp elt [⟨tg, iter, ifs, 0⟩] scope pos) spos) ds (.nx (ds.set i (.dat (.list ((ys.filter p).map F))))) := by
  obtain ⟨t, p1, q1⟩ := sd_setLcGO (W := W) (spos := spos) (pos := pos) (py := py) i ys enc F ds' p hc hN hi hlen ok hg hb ht he hy hk hyl hl ha hs
  refine ⟨t, p1, fun Hd0 H0 Hd H σ D S z => q1 Hd0 H0 Hd H σ D S fun σ' Hd' H' S' s' => ?_⟩
  obtain ⟨Hd2, s2, S2⟩ := S'.freeze (i := i) (List.getElem?_set_self hil)
  rw [List.set_set] at S2
  exact z σ' Hd2 H' S2 (s'.trans s2)
end
end DL
/-! DL40: a range that goes down. -/
namespace DL
open PySem PySem.Spec PyProof.Rows L2
/-- lo, lo - 1, .. (n of them) -/
def dwnD (lo : Int) (n : Nat) : List PyData := (List.range n).map fun (i : Nat) => .int (lo - (i : Int))
theorem dwn_len (lo : Int) (n : Nat) : (dwnD lo n).length = n := by unfold dwnD; rw [List.length_map, List.length_range]
theorem dwn_at {lo : Int} {n i : Nat} {d : PyData} (e : (dwnD lo n)[i]? = some d) : i < n ∧ d = .int (lo - (i : Int)) := by
  unfold dwnD at e
  rw [List.getElem?_map] at e
  cases q : (List.range n)[i]? with
  | none => rw [q] at e; cases e
  | some m =>
    rw [q] at e
    obtain ⟨h1, h2⟩ := List.getElem?_eq_some_iff.mp q
    rw [List.getElem_range] at h2
    rw [List.length_range] at h1
    subst h2
    exact ⟨h1, (Option.some.inj e).symm⟩
theorem walk_dwn {K : PySem.W.Frag} {Hd1 : Hp} (lo : Int) (n : Nat) : Walk K (Itc lo (-1) n) Hd1 (dwnD lo n) where
  go := fun i _ _ _ _ hi => by
    rw [dwn_len] at hi
    exact hi
  yl := fun i Hd H x H' _ D hi y => by
    obtain ⟨rfl, rfl⟩ := y
    rw [dwn_len] at hi
    refine ⟨Hd, .int (lo - i), ?_, Gr.refl D, ?_⟩
    · unfold dwnD
      rw [List.getElem?_map, List.getElem?_range hi] <;> rfl
    · have e : lo + (i : Int) * (-1) = lo - i := by omega
      rw [e]
      exact .int _
  st := fun i _ _ _ _ hi => by
    rw [dwn_len] at hi
    exact hi
section
variable {X : Cx} {tb : List Addr} {ds : List Sl} {tg a b c : Expr} {pos p : Pos}
theorem id_rngDown {i j : Int} (hm : X.mg "range" = none) (h : PEd X tb a ds (.int i)) (h' : PEd X tb b ds (.int j)) (h'' : PEd X tb c ds (.int (-1))) (hi : -(2 ^ 62) ≤ i ∧ i < 2 ^ 62 ∧ -(2 ^ 62) ≤ j ∧ j < 2 ^ 62) (hg : Gl X "range" := by rfl) (hs : starEach [a, b, c] X.env = (false, eval a X.env) :: starEach [b, c] X.env := by rfl) (hs2 : starEach [b, c] X.env = (false, eval b X.env) :: starEach [c] X.env := by rfl) (hs3 : starEach [c] X.env = [(false, eval c X.env)] := by rfl)
    (hpl : (backTo pos (starEach [b, c] X.env)).any (·.1) = false := by rfl) : PId X tb tg (.Call (.Name "range" p) [a, b, c] [] pos) ds (dwnD i (i - j).toNat) :=
  let ⟨_, p1, q1⟩ := ad_cons h (ad_cons h' (ad_cons h'' ad_nil hs3) hs2) hs; ⟨_, pi_range3 hg hm p1 hs hpl, fun Hd H σ E R z => q1 Hd H σ E _ fun vs Hd1 H1 g dv => by
    cases dv with
    | cons h1 h2 =>
      cases h2 with
      | cons h3 h4 =>
        cases h4 with
        | cons h5 h6 =>
          cases h6
          cases h1
          cases h3
          cases h5
          exact ⟨i, j, -1, _, rfl, RgC.neg hi.1 hi.2.1 hi.2.2.1 hi.2.2.2, z _ Hd1 H1 g (walk_dwn i _)⟩⟩
end
end DL
/-! DX: a shelf: its things, and for each key the numbers of its things. -/
namespace SHLF
open PySem PySem.Spec PyProof.Rows L2 DL LM RM PT
/-- the numbers of the things that begin so -/
def idxOf (xs : List S) (k : Str) : List Nat := (List.range xs.length).filter fun i => decide (begT (xs.getD i .fls) = k)
def numS (xs : List S) (s : S) : Option Nat := (List.range xs.length).find? fun i => decide (xs.getD i .fls = s)
theorem idx_snoc (xs : List S) (s : S) (k : Str) : idxOf (xs ++ [s]) k = idxOf xs k ++ (if k = begT s then [xs.length] else []) := by
  unfold idxOf
  rw [List.length_append, List.length_singleton, List.range_succ, List.filter_append, List.filter_cons]
  have e1 : (List.range xs.length).filter (fun i => decide (begT ((xs ++ [s]).getD i .fls) = k)) = (List.range xs.length).filter fun i => decide (begT (xs.getD i .fls) = k) := by
    refine List.filter_congr fun i hi => ?_
    have hi := List.mem_range.mp hi
    rw [List.getD_eq_getElem?_getD, List.getElem?_append_left hi, ← List.getD_eq_getElem?_getD]
  have e2 : (xs ++ [s]).getD xs.length .fls = s := by
    rw [List.getD_eq_getElem?_getD, List.getElem?_append_right (Nat.le_refl _), Nat.sub_self] <;> rfl
  rw [e1, e2]
  by_cases h : k = begT s
  · rw [if_pos h, decide_eq_true h.symm] <;> rfl
  · rw [if_neg h, decide_eq_false fun q => h q.symm] <;> rfl
theorem idx_lt {xs : List S} {k : Str} {i : Nat} (h : i ∈ idxOf xs k) : i < xs.length := List.mem_range.mp (List.mem_filter.mp h).1
theorem idx_len (xs : List S) (k : Str) : (idxOf xs k).length ≤ xs.length := by
  unfold idxOf
  exact Nat.le_trans (List.length_filter_le _ _) (by rw [List.length_range]; exact Nat.le_refl _)
theorem find_filter {α : Type} (p q : α → Bool) : ∀ l : List α, (∀ x ∈ l, q x = true → p x = true) → (l.filter p).find? q = l.find? q
  | [], _ => rfl
  | a :: l, h => by
    have ih := find_filter p q l fun x hx => h x (List.mem_cons_of_mem _ hx)
    rw [List.filter_cons, List.find?_cons]
    cases hq : q a with
    | true =>
      rw [if_pos (h a List.mem_cons_self hq), List.find?_cons, hq]
    | false =>
      split
      · rw [List.find?_cons, hq]
        exact ih
      · exact ih
theorem idx_find (xs : List S) (s : S) : (idxOf xs (begT s)).find? (fun i => decide (xs.getD i .fls = s)) = numS xs s := by
  unfold idxOf numS
  refine find_filter _ _ _ fun i _ h => ?_
  rw [of_decide_eq_true h]
  exact decide_eq_true rfl
theorem num_none {xs : List S} {s : S} : numS xs s = none ↔ s ∉ xs := by
  unfold numS
  rw [List.find?_eq_none]
  constructor
  · intro h hm
    obtain ⟨i, hi, e⟩ := List.getElem_of_mem hm
    refine h i (List.mem_range.mpr hi) (decide_eq_true ?_)
    rw [List.getD_eq_getElem?_getD, List.getElem?_eq_getElem hi]
    exact e
  · intro h i hi q
    have hi := List.mem_range.mp hi
    have q := of_decide_eq_true q
    rw [List.getD_eq_getElem?_getD, List.getElem?_eq_getElem hi] at q
    have q : xs[i] = s := q
    exact h (by rw [← q]; exact List.getElem_mem hi)
theorem num_some {xs : List S} {s : S} {i : Nat} (h : numS xs s = some i) : i < xs.length ∧ xs.getD i .fls = s := by
  unfold numS at h
  exact ⟨List.mem_range.mp (List.mem_of_find?_eq_some h), of_decide_eq_true (List.find?_some (p := fun i => decide (xs.getD i .fls = s)) h)⟩
/-! ### in the heap -/
structure Rws (K : PySem.W.Frag) (H : Hp) (kvs : List (Key × V)) (xs : List S) : Prop where
  there : ∀ (k : Str) (v : V), valV kvs (Sum.inr k : Key) = some v → ∃ l, v = .ref l ∧ H l = some (.lst ((idxOf xs k).map fun (i : Nat) => V.int (i : Int)))
  no : ∀ k : Str, valV kvs (Sum.inr k : Key) = none → idxOf xs k = []
/-- what number asks of a shelf -/
structure ShF (K : PySem.W.Frag) (C sh : Addr) (Hd H : Hp) (xs : List S) : Prop where
  ex : ∃ (dx t r : Addr) (vs : List V) (kvs : List (Key × V)), H sh = some (.ins C dx [("things", .ref t), ("rows", .ref r)]) ∧ H t = some (.lst vs) ∧ DpAll K Hd vs (xs.map enc) ∧ H r = some (.dK kvs) ∧ Rws K H kvs xs
theorem Rws.keeps {K : PySem.W.Frag} {H H' : Hp} {kvs : List (Key × V)} {xs : List S} (R : Rws K H kvs xs) (h : ∀ a o, H a = some o → (∀ ps, o ≠ .tbl ps) → H' a = some o) : Rws K H' kvs xs :=
  ⟨fun k v e => let ⟨l, e1, e2⟩ := R.there k v e; ⟨l, e1, h _ _ e2 fun _ z => nomatch z⟩, R.no⟩
theorem ShF.up {K : PySem.W.Frag} {C sh : Addr} {Hd H Hd' H' : Hp} {xs : List S} (h : ShF K C sh Hd H xs) (g : Gr Hd H Hd' H') : ShF K C sh Hd' H' xs := by
  obtain ⟨dx, t, r, vs, kvs, h1, h2, h3, h4, h5⟩ := h.ex
  exact ⟨dx, t, r, vs, kvs, g.e.k _ _ h1 (fun _ z => nomatch z), g.e.k _ _ h2 (fun _ z => nomatch z), DpAll.up h3 g.d, g.e.k _ _ h4 (fun _ z => nomatch z), h5.keeps g.e.k⟩
/-- a shelf that is being filled: all of it new since the entry -/
structure Shx (K : PySem.W.Frag) (tb : List Addr) (C sh t r : Addr) (Hd0 H0 : Hp) (m : Nat) (Hd H : Hp) (xs : List S) : Prop where
  gr : Gr Hd0 H0 Hd H
  tb : ∀ P ∈ tb, GxR.TabG H P
  ob : ∃ dx, H sh = some (.ins C dx [("things", .ref t), ("rows", .ref r)])
  th : ∃ vs, H t = some (.lst vs) ∧ DpAll K Hd vs (xs.map enc)
  nt : Hd t = none
  nr : Hd r = none
  ns : Hd sh = none
  ft : H0 t = none
  fr : H0 r = none
  fs : H0 sh = none
  rows : ∃ kvs, H r = some (.dK kvs) ∧ kvs.length ≤ m ∧ Rws K H kvs xs ∧ (∀ (k : Str) (l : Addr), valV kvs (Sum.inr k : Key) = some (.ref l) → Hd l = none ∧ l ≠ t ∧ H0 l = none) ∧
    ∀ (k1 k2 : Str) (l : Addr), valV kvs (Sum.inr k1 : Key) = some (.ref l) → valV kvs (Sum.inr k2 : Key) = some (.ref l) → k1 = k2
section
variable {K : PySem.W.Frag} {tb : List Addr} {C sh t r : Addr} {Hd0 H0 : Hp} {m : Nat} {Hd H Hd' H' : Hp} {xs : List S}
theorem Shx.dh (h : Shx K tb C sh t r Hd0 H0 m Hd H xs) : DH Hd H := h.gr.h
theorem Shx.f (h : Shx K tb C sh t r Hd0 H0 m Hd H xs) : ShF K C sh Hd H xs :=
  let ⟨dx, h1⟩ := h.ob; let ⟨vs, h2, h3⟩ := h.th; let ⟨kvs, h4, _, R, _⟩ := h.rows; ⟨dx, t, r, vs, kvs, h1, h2, h3, h4, R⟩
theorem Shx.up (h : Shx K tb C sh t r Hd0 H0 m Hd H xs) (g : Gr Hd H Hd' H') : Shx K tb C sh t r Hd0 H0 m Hd' H' xs := by
  obtain ⟨dx, h1⟩ := h.ob
  obtain ⟨vs, h2, h3⟩ := h.th
  obtain ⟨kvs, h4, h5, R, h6, h7⟩ := h.rows
  refine ⟨h.gr.trans g, fun P hp => g.e.t P (h.tb P hp), ⟨dx, g.e.k _ _ h1 (fun _ z => nomatch z)⟩, ⟨vs, g.e.k _ _ h2 (fun _ z => nomatch z), DpAll.up h3 g.d⟩, g.f _ h.nt (by rw [h2]; exact fun z => nomatch z), g.f _ h.nr (by rw [h4]; exact fun z => nomatch z), g.f _ h.ns (by rw [h1]; exact fun z => nomatch z), h.ft, h.fr, h.fs, kvs, g.e.k _ _ h4 (fun _ z => nomatch z), h5, R.keeps g.e.k, fun k l e => ?_, h7⟩
  obtain ⟨e1, e2, e3⟩ := h6 k l e
  obtain ⟨l', e4, e5⟩ := R.there k _ e
  cases e4
  exact ⟨g.f _ e1 (by rw [e5]; exact fun z => nomatch z), e2, e3⟩
theorem Shx.more {n : Nat} (h : Shx K tb C sh t r Hd0 H0 m Hd H xs) (hn : m ≤ n) : Shx K tb C sh t r Hd0 H0 n Hd H xs :=
  ⟨h.gr, h.tb, h.ob, h.th, h.nt, h.nr, h.ns, h.ft, h.fr, h.fs, let ⟨kvs, h4, h5, R⟩ := h.rows; ⟨kvs, h4, Nat.le_trans h5 hn, R⟩⟩
/-- a thing more: the row's list has its number, then the things have it -/
theorem Shx.put (h : Shx K tb C sh t r Hd0 H0 m Hd H xs) {kvs : List (Key × V)} {l : Addr} {vs : List V} {s : S} {v : V} (hr : H r = some (.dK kvs)) (hk : valV kvs (Sum.inr (begT s) : Key) = some (.ref l)) (ht : H t = some (.lst vs)) (hv : Dp K Hd v (enc s)) :
    Shx K tb C sh t r Hd0 H0 m Hd (upd (upd H l (.lst ((idxOf xs (begT s)).map (fun (i : Nat) => V.int (i : Int)) ++ [.int (xs.length : Int)]))) t (.lst (vs ++ [v]))) (xs ++ [s]) := by
  obtain ⟨dx, h1⟩ := h.ob
  obtain ⟨ws, h2, h3⟩ := h.th
  obtain ⟨kvs', h4, h5, R, h6, h7⟩ := h.rows
  have ek : kvs' = kvs := by
    rw [h4] at hr
    cases hr
    rfl
  subst ek
  have ew : ws = vs := by
    rw [h2] at ht
    cases ht
    rfl
  subst ew
  obtain ⟨e1, e2, e3⟩ := h6 _ _ hk
  obtain ⟨l', e4, e5⟩ := R.there _ _ hk
  cases e4
  have nrl : r ≠ l := fun q => by rw [q, e5] at h4; cases h4
  have nsl : sh ≠ l := fun q => by rw [q, e5] at h1; cases h1
  have nrt : r ≠ t := fun q => by rw [q, h2] at h4; cases h4
  have nst : sh ≠ t := fun q => by rw [q, h2] at h1; cases h1
  have htab : ∀ {a : Addr} {us : List V}, H a = some (.lst us) → ∀ ps, H a ≠ some (.tbl ps) := fun e ps z => by rw [e] at z; cases z
  refine ⟨gr_upd (gr_upd h.gr e3 e1) h.ft h.nt, fun P hP => tab_upd (tab_upd (h.tb P hP) (htab e5)) (fun ps z => by rw [upd_ne e2.symm, h2] at z; cases z), ⟨dx, by rw [upd_ne nst, upd_ne nsl]; exact h1⟩, ⟨_, upd_same, ?_⟩, h.nt, h.nr, h.ns, h.ft, h.fr, h.fs, kvs', by rw [upd_ne nrt, upd_ne nrl]; exact h4, h5, ⟨fun j u e => ?_, fun j e => ?_⟩, h6, h7⟩
  · rw [List.map_append]
    exact dpa_app h3 (.cons hv .nil)
  · obtain ⟨l2, g1, g2⟩ := R.there j u e
    subst g1
    have n2 : l2 ≠ t := (h6 j l2 e).2.1
    rw [idx_snoc, List.map_append]
    by_cases q : l2 = l
    · subst q
      have ej := h7 j _ l2 e hk
      refine ⟨l2, rfl, ?_⟩
      rw [upd_ne n2, upd_same, ej, if_pos rfl]
      rfl
    · have nj : ¬ j = begT s := fun z => by
        rw [z, hk] at e
        cases e
        exact q rfl
      refine ⟨l2, rfl, ?_⟩
      rw [upd_ne n2, upd_ne q, if_neg nj]
      show H l2 = some (.lst (_ ++ []))
      rw [List.append_nil]
      exact g2
  · have nj : ¬ j = begT s := fun z => by
      rw [z, hk] at e
      cases e
    rw [idx_snoc, if_neg nj, R.no j e] <;> rfl
/-- a new row of nothing -/
theorem Shx.addRow (h : Shx K tb C sh t r Hd0 H0 m Hd H xs) {p : Addr} {kvs : List (Key × V)} {k : Str} (hp : H p = some (.lst [])) (hd : Hd p = none) (h0 : H0 p = none) (hf : p ≠ t) (hnew : ∀ j, valV kvs (Sum.inr j : Key) ≠ some (.ref p)) (hr : H r = some (.dK kvs)) (hk : valV kvs (Sum.inr k : Key) = none) :
    Shx K tb C sh t r Hd0 H0 (m + 1) Hd (upd H r (.dK (putK kvs (Sum.inr k : Key) (.ref p)))) xs := by
  obtain ⟨dx, h1⟩ := h.ob
  obtain ⟨vs, h2, h3⟩ := h.th
  obtain ⟨kvs', h4, h5, R, h6, h7⟩ := h.rows
  have ek : kvs' = kvs := by
    rw [h4] at hr
    cases hr
    rfl
  subst ek
  have ne : ∀ {a : Addr} {us : List V}, H a = some (.lst us) → a ≠ r := fun {a us} e q => by rw [q, h4] at e; cases e
  have nsh : sh ≠ r := fun q => by rw [q, h4] at h1; cases h1
  refine ⟨gr_upd h.gr h.fr h.nr, fun P hP => tab_upd (h.tb P hP) (fun ps z => by rw [h4] at z; cases z), ⟨dx, by rw [upd_ne nsh]; exact h1⟩, ⟨vs, by rw [upd_ne (ne h2)]; exact h2, h3⟩, h.nt, h.nr, h.ns, h.ft, h.fr, h.fs, _, upd_same, Nat.le_trans (length_putK _ _ _) (by omega), ⟨fun j v e => ?_, fun j e => ?_⟩, fun j l e => ?_, fun j1 j2 l e1 e2 => ?_⟩
  · rw [valV_put] at e
    split at e
    · rename_i q
      have q : j = k := Sum.inr.inj q
      cases e
      refine ⟨p, rfl, ?_⟩
      rw [upd_ne (ne hp), q, R.no k hk]
      exact hp
    · obtain ⟨l, e1, e2⟩ := R.there j v e
      exact ⟨l, e1, by rw [upd_ne (ne e2)]; exact e2⟩
  · rw [valV_put] at e
    split at e
    · cases e
    · exact R.no j e
  · rw [valV_put] at e
    split at e
    · cases e
      exact ⟨hd, hf, h0⟩
    · exact h6 j l e
  · rw [valV_put] at e1 e2
    split at e1
    · rename_i q1
      split at e2
      · rename_i q2
        exact (Sum.inr.inj q1).trans (Sum.inr.inj q2).symm
      · cases e1
        exact absurd e2 (hnew j2)
    · split at e2
      · cases e2
        exact absurd e1 (hnew j1)
      · exact h7 j1 j2 l e1 e2
end
/-! ### what is new since the entry, as data -/
open Classical in
noncomputable def frz (Hd H0 H : Hp) : Hp := fun a => if H0 a = none then noTab H a else Hd a
theorem frz_new {Hd H0 H : Hp} {a : Addr} (h : H0 a = none) : frz Hd H0 H a = noTab H a := if_pos h
theorem frz_old {Hd H0 H : Hp} {a : Addr} (h : H0 a ≠ none) : frz Hd H0 H a = Hd a := if_neg h
theorem gr_frzAll {Hd0 H0 Hd H : Hp} (g : Gr Hd0 H0 Hd H) : Sub Hd (frz Hd H0 H) ∧ Gr Hd0 H0 (frz Hd H0 H) H := by
  have s : Sub Hd (frz Hd H0 H) := fun a o e => by
    by_cases q : H0 a = none
    · rw [frz_new q]
      exact noTab_at (g.h.s a o e) fun ps z => g.h.nt a ps (by rw [e, z])
    · rw [frz_old q]
      exact e
  refine ⟨s, g.d.trans s, ⟨fun a o e => ?_, fun a ps e => ?_⟩, g.e, fun a e n => ?_⟩
  · by_cases q : H0 a = none
    · rw [frz_new q] at e
      exact (noTab_dh H).s a o e
    · rw [frz_old q] at e
      exact g.h.s a o e
  · by_cases q : H0 a = none
    · rw [frz_new q] at e
      exact (noTab_dh H).nt a ps e
    · rw [frz_old q] at e
      exact g.h.nt a ps e
  · rw [frz_old n]
    exact g.f a e n
end SHLF
/-! DY: a shelf that is looked at. -/
namespace SHLF
open PySem PySem.Spec PyProof.Rows L2 DL LM RM PT
theorem ShF.sub {K : PySem.W.Frag} {C sh : Addr} {A B : Hp} {xs : List S} (h : ShF K C sh A A xs) (s : Sub A B) : ShF K C sh B B xs := by
  obtain ⟨dx, t, r, vs, kvs, h1, h2, h3, h4, h5⟩ := h.ex
  exact ⟨dx, t, r, vs, kvs, s _ _ h1, s _ _ h2, DpAll.up h3 s, s _ _ h4, h5.keeps fun a o e _ => s a o e⟩
def shelfS (K : PySem.W.Frag) (C : Addr) (xs : List S) : Sl := .hp (fun v Hd => ∃ sh, v = .ref sh ∧ ShF K C sh Hd Hd xs) fun _ _ _ s ⟨sh, e, h⟩ => ⟨sh, e, h.sub s⟩
/-- the class Shelf -/
structure ShC (K : PySem.W.Frag) (mg : Str → Option Value) (C : Addr) : Prop where
  cl : Cls K C
  nR : NoAttr K C "rows"
  nT : NoAttr K C "things"
  g : mg "Shelf" = some (.ref C)
theorem shf_noTab {K : PySem.W.Frag} {C sh : Addr} {Hd H : Hp} {xs : List S} (D : DH Hd H) (h : ShF K C sh Hd H xs) : ShF K C sh (noTab H) (noTab H) xs := by
  obtain ⟨dx, t, r, vs, kvs, h1, h2, h3, h4, h5⟩ := h.ex
  have s : Sub Hd (noTab H) := fun a o e => noTab_at (D.s a o e) fun ps z => D.nt a ps (by rw [e, z])
  exact ⟨dx, t, r, vs, kvs, noTab_at h1 (fun _ z => nomatch z), noTab_at h2 (fun _ z => nomatch z), DpAll.up h3 s, noTab_at h4 (fun _ z => nomatch z), h5.keeps fun a o e n => noTab_at e n⟩
/-- all of the heap taken as data, nothing of it changed: nothing else is seen -/
theorem gr_back {Hd H Hd' H' : Hp} (D : DH Hd H) (g : Gr (noTab H) H Hd' H') : Gr Hd H Hd H' :=
  ⟨Sub.refl _, ⟨fun a o e => g.e.k a o (D.s a o e) fun ps z => D.nt a ps (by rw [e, z]), D.nt⟩, g.e, fun a e _ => e⟩
section
variable {X : Cx} {tb : List Addr} {ds : List Sl} {a b : Expr} {pos p px cpos apos : Pos} {x : Str} {xs : List S} {C : Addr} {k : Nat}
/-- shelf.things -/
theorem ed_things (i : Nat) (T : ShC X.K X.mg C) (hd : ds[i]? = some (shelfS X.K C xs) := by rfl) (hN : X.N[i]? = some x := by rfl) (hv : visB X.env.scope x = true := by rfl) (h1 : (x == ("__debug__" : Str)) = false := by decide) (h2 : (x == ("__classdict__" : Str)) = false := by decide) (hb : attributeBase (.Name x px) "things" X.env (eval (.Name x px) X.env) = eval (.Name x px) X.env := by rfl) :
    PEd X tb (.Attribute (.Name x px) "things" pos) ds (.list (xs.map enc)) :=
  ⟨_, pe_fld (pe_var hN (visB_ok hv) h1 h2) hb, fun Hd H σ E Q q => by
    obtain ⟨o, e1, e2⟩ := E.sl i _ hd
    cases o with
    | none => exact e2.elim
    | some w =>
      obtain ⟨sh, rfl, F⟩ : ∃ sh, w = .ref sh ∧ ShF X.K C sh Hd Hd xs := e2
      obtain ⟨dx, t, r, vs, kvs, h1, h2, h3, h4, h5⟩ := F.ex
      exact ⟨_, e1, sh, C, dx, _, _, rfl, E.dh.s _ _ h1, T.cl, T.nT, rfl, q _ Hd H (Gr.refl E.dh) (.lst (.of h2) h3)⟩⟩
def natsV (l : List Nat) : List PyData := l.map fun (i : Nat) => PyData.int (i : Int)
theorem dpa_nats {K : PySem.W.Frag} {Hd : Hp} : ∀ l : List Nat, DpAll K Hd (l.map fun (i : Nat) => V.int (i : Int)) (natsV l)
  | [] => .nil
  | i :: r => .cons (.int _) (dpa_nats r)
/-- shelf.rows.get(words, []) -/
theorem ed_rowOf (i : Nat) {z : Str} {p1 p2 : Pos} (hr : Room k X.A) (T : ShC X.K X.mg C) (ha : PEd X tb a ds (.str z)) (hd : ds[i]? = some (shelfS X.K C xs) := by rfl) (hN : X.N[i]? = some x := by rfl) (hv : visB X.env.scope x = true := by rfl) (h1 : (x == ("__debug__" : Str)) = false := by decide) (h2 : (x == ("__classdict__" : Str)) = false := by decide) (hb : attributeBase (.Name x px) "rows" X.env (eval (.Name x px) X.env) = eval (.Name x px) X.env := by rfl)
    (hbase : attributeBase (.Attribute (.Name x px) "rows" p1) "get" X.env (eval (.Attribute (.Name x px) "rows" p1) X.env) = eval (.Attribute (.Name x px) "rows" p1) X.env := by rfl)
    (hfew : ((backTo cpos (starEach [a, .List [] p2] X.env)).all (fun x => !x.1) && (backToKw cpos (keywordEach [] X.env)).all (fun x => x.1.isSome)
      && decide (([a, .List [] p2] : List Expr).length + ([] : List Keyword).length + (if ([] : List Keyword).isEmpty then 0 else 1) < 30)) = true := by rfl)
    (hline : (apos.endLine == cpos.line) = true := by rfl) (htrees : backTo cpos (starEach [a, .List [] p2] X.env) = [(false, eval a X.env), (false, eval (.List [] p2) X.env)] := by rfl) :
    PEd X tb (.Call (.Attribute (.Attribute (.Name x px) "rows" p1) "get" apos) [a, .List [] p2] [] cpos) ds (.list (natsV (idxOf xs z))) := by
  obtain ⟨t1, q1, r1⟩ := ha
  refine ⟨_, pe_dget2 (hu_of hr) (pe_fld (pe_var hN (visB_ok hv) h1 h2) hb) q1 (pe_lst pa_nil) ⟨hbase, hfew, hline, htrees⟩, fun Hd H σ E Q q => ?_⟩
  obtain ⟨o, e1, e2⟩ := E.sl i _ hd
  cases o with
  | none => exact e2.elim
  | some w =>
    obtain ⟨sh, rfl, F⟩ : ∃ sh, w = .ref sh ∧ ShF X.K C sh Hd Hd xs := e2
    obtain ⟨dx, t, r, vs, kvs, h1, h2, h3, h4, R⟩ := F.ex
    refine ⟨_, e1, sh, C, dx, _, _, rfl, E.dh.s _ _ h1, T.cl, T.nR, rfl, r, rfl, .inl ⟨kvs, .inl (E.dh.s _ _ h4)⟩, r1 Hd H σ E _ fun v Hd1 H1 g1 dv => ?_⟩
    cases dv
    refine ⟨Nat.zero_le _, fun c hc => ?_⟩
    have g2 := Gr.new (o := .lst []) g1.h hc fun _ z => HO.noConfusion z
    have h4' : (upd Hd1 c (.lst [])) r = some (.dK kvs) := g2.d _ _ (g1.d _ _ h4)
    refine ⟨_, DGet.k (k := Sum.inr z) (g2.h.s r _ h4'), ?_⟩
    cases e : valV kvs (.inr z) with
    | none =>
      have hn := R.no z e
      rw [hn] at q
      exact q (.ref c) _ _ (g1.trans g2) (.lst (xs := []) (.of upd_same) .nil)
    | some v =>
      obtain ⟨l, rfl, hl⟩ := R.there z v e
      exact q (.ref l) _ _ (g1.trans g2) (.lst (.of (g2.d _ _ (g1.d _ _ hl))) (dpa_nats _))
end
end SHLF
/-! DZ: the parts, half by half. -/
namespace SHLF
open PySem PySem.Spec PyProof.Rows L2 DL LM RM PT
def foldP (l : List S) (f : List S) : List S := l.foldl (fun f h => lp h f) f
theorem lp_in {s : S} {f : List S} (h : s ∈ f) : lp s f = f := by cases s <;> (unfold lp; exact if_pos h)
theorem lp_out {s : S} {f : List S} (h : s ∉ f) : lp s f = foldP (halvesS s) f ++ [s] := by cases s <;> (unfold lp; exact if_neg h)
theorem lp_low : ∀ (s : S) (f : List S) (x : S), dep s < dep x → (x ∈ lp s f ↔ x ∈ f)
  | .nm v, f, x, h => by
    have ne : x ≠ .nm v := fun q => by rw [q] at h; exact absurd h (Nat.lt_irrefl _)
    unfold lp
    split
    · exact Iff.rfl
    · rw [List.mem_append, List.mem_singleton]
      exact ⟨fun q => q.elim id fun z => absurd z ne, .inl⟩
  | .fls, f, x, h => by
    have ne : x ≠ .fls := fun q => by rw [q] at h; exact absurd h (Nat.lt_irrefl _)
    unfold lp
    split
    · exact Iff.rfl
    · rw [List.mem_append, List.mem_singleton]
      exact ⟨fun q => q.elim id fun z => absurd z ne, .inl⟩
  | .bin o a b, f, x, h => by
    have ne : x ≠ .bin o a b := fun q => by rw [q] at h; exact absurd h (Nat.lt_irrefl _)
    have h : max (dep a) (dep b) + 1 < dep x := h
    unfold lp
    split
    · exact Iff.rfl
    · rw [List.mem_append, List.mem_singleton, lp_low b _ x (by omega), lp_low a _ x (by omega)]
      exact ⟨fun q => q.elim id fun z => absurd z ne, .inl⟩
theorem foldP_low {s : S} {f : List S} (h : s ∉ f) : s ∉ foldP (halvesS s) f := by
  cases s with
  | nm v => exact h
  | fls => exact h
  | bin o a b =>
    show S.bin o a b ∉ lp b (lp a f)
    rw [lp_low b _ (S.bin o a b) (show dep b < max (dep a) (dep b) + 1 by omega), lp_low a _ (S.bin o a b) (show dep a < max (dep a) (dep b) + 1 by omega)]
    exact h
theorem foldP_snoc (l : List S) (h : S) (f : List S) : foldP (l ++ [h]) f = lp h (foldP l f) := by
  unfold foldP
  rw [List.foldl_append] <;> rfl
theorem foldP_len : ∀ (l : List S) (f : List S), (foldP l f).length ≤ f.length + szs l
  | [], f => Nat.le_add_right _ _
  | h :: l, f => by
    have h1 := lp_len h f
    have h2 := foldP_len l (lp h f)
    have e : szs (h :: l) = sz h + szs l := by
      unfold szs
      rw [List.map_cons, List.sum_cons]
    rw [e]
    show (foldP l (lp h f)).length ≤ _
    omega
theorem foldP_good {n : Nat} : ∀ (l : List S) (f : List S), (∀ x ∈ l, Ok x ∧ dep x ≤ n) → Good n f → Good n (foldP l f)
  | [], f, _, h => h
  | h :: l, f, hl, g => by
    obtain ⟨a, b⟩ := hl h List.mem_cons_self
    exact foldP_good l (lp h f) (fun x hx => hl x (List.mem_cons_of_mem _ hx)) (lp_good h f a b g)
end SHLF
/-! DL41: a new list as data; a shelf that is looked at from now on. -/
namespace DL
open PySem PySem.Spec PyProof.Rows L2
theorem gr_frzO {Hd H Hd' H' : Hp} {fo : Addr} {ws : List V} (g : Gr Hd H Hd' H') (h0 : H fo = none) (hn : Hd' fo = none) (hl : H' fo = some (.lst ws)) : Gr Hd H (upd Hd' fo (.lst ws)) H' where
  d := fun a o e => by
    have := g.d a o e
    rw [upd_ne (ne_of_none this hn)]
    exact this
  h := ⟨fun a o e => by
    by_cases q : a = fo
    · rw [q, upd_same] at e
      cases e
      rw [q]
      exact hl
    · rw [upd_ne q] at e
      exact g.h.s a o e, fun a ps e => by
    by_cases q : a = fo
    · rw [q, upd_same] at e
      cases e
    · rw [upd_ne q] at e
      exact g.h.nt a ps e⟩
  e := g.e
  f := fun a e n => by
    have q : a ≠ fo := fun z => n (by rw [z]; exact h0)
    rw [upd_ne q]
    exact g.f a e n
theorem sub_updO {Hd : Hp} {fo : Addr} {o : HO} (hn : Hd fo = none) : Sub Hd (upd Hd fo o) := fun a u e => by
  rw [upd_ne (ne_of_none e hn)]
  exact e
def asD (R : List PyData → List PyData → Prop) (ds : List PyData) (d : PyData) : Prop := ∃ xs, R ds xs ∧ d = .list xs
theorem fno_data {P : Program} {w : World} {K : PySem.W.Frag} {mg : Str → Option Value} {base : Heap} {CX : CXT} {k n : Nat} {f : Addr} {fd : FuncData} {ps : List Str} {tb : List Addr} {R : List PyData → List PyData → Prop} (F : FnOk P w K mg base CX k f fd ps (spO K tb n R)) : FnOk P w K mg base CX k f fd ps (spD K tb n (asD R)) :=
  F.imp fun vs H Q E h => by
    obtain ⟨Hd, ds, d, hl, D, ht, dv, ⟨xs, hR, rfl⟩, q⟩ := h
    exact ⟨Hd, ds, xs, hl, D, ht, dv, hR, fun fo ws Hd' H' g t hf hn hl hd => q (.ref fo) _ H' (gr_frzO g hf hn hl) t (.lst (.of upd_same) (DpAll.up hd (sub_updO hn)))⟩
theorem FnO.dat {P : Program} {w : World} {K : PySem.W.Frag} {mg : Str → Option Value} {base : Heap} {tb : List Addr} {x : Str} {ps : List Str} {k : Nat} {R : List PyData → List PyData → Prop} (h : FnO P w K mg base tb x ps k R) : FnG P w K mg base tb x ps k (asD R) :=
  let ⟨f, fd, F, a, b, c⟩ := h.ex; ⟨f, fd, fno_data F, a, b, c⟩
end DL
namespace SHLF
open PySem PySem.Spec PyProof.Rows L2 DL LM RM PT
section
variable {K : PySem.W.Frag} {tb : List Addr} {C sh t r : Addr} {Hd0 H0 : Hp} {m : Nat} {Hd H : Hp} {xs : List S}
/-- all that is new since the entry is data from now on -/
theorem Shx.frozen (h : Shx K tb C sh t r Hd0 H0 m Hd H xs) : Gr Hd0 H0 (frz Hd H0 H) H ∧ Sub Hd (frz Hd H0 H) ∧ ShF K C sh (frz Hd H0 H) (frz Hd H0 H) xs := by
  obtain ⟨s, g⟩ := gr_frzAll h.gr
  refine ⟨g, s, ?_⟩
  obtain ⟨dx, h1⟩ := h.ob
  obtain ⟨vs, h2, h3⟩ := h.th
  obtain ⟨kvs, h4, _, R, h6, _⟩ := h.rows
  refine ⟨dx, t, r, vs, kvs, ?_, ?_, DpAll.up h3 s, ?_, ⟨fun k v e => ?_, R.no⟩⟩
  · rw [frz_new h.fs]
    exact noTab_at h1 fun _ z => nomatch z
  · rw [frz_new h.ft]
    exact noTab_at h2 fun _ z => nomatch z
  · rw [frz_new h.fr]
    exact noTab_at h4 fun _ z => nomatch z
  · obtain ⟨l, rfl, e2⟩ := R.there k v e
    refine ⟨l, rfl, ?_⟩
    rw [frz_new (h6 k l e).2.2]
    exact noTab_at e2 fun _ z => nomatch z
end
theorem ShF.toH {K : PySem.W.Frag} {C sh : Addr} {Hd H : Hp} {xs : List S} (D : DH Hd H) (h : ShF K C sh Hd Hd xs) : ShF K C sh Hd H xs := by
  obtain ⟨dx, t, r, vs, kvs, h1, h2, h3, h4, h5⟩ := h.ex
  exact ⟨dx, t, r, vs, kvs, D.s _ _ h1, D.s _ _ h2, h3, D.s _ _ h4, h5.keeps fun a o e _ => D.s a o e⟩
end SHLF
/-! DXV: a shelf of any data, and a list of what was found. -/
namespace SHLV
open PySem PySem.Spec PyProof.Rows L2 DL LM RM
open PK (begTD Fn)
open PT (gr_upd dh_upd tab_upd n_upd Ste)
/-- the numbers of the things that begin so -/
def idxOf (xs : List PyData) (k : Str) : List Nat := (List.range xs.length).filter fun i => decide (begTD (xs.getD i .none) = k)
def numS (xs : List PyData) (s : PyData) : Option Nat := (idxOf xs (begTD s)).find? fun i => PyData.eqv (xs.getD i .none) s
theorem idx_snoc (xs : List PyData) (s : PyData) (k : Str) : idxOf (xs ++ [s]) k = idxOf xs k ++ (if k = begTD s then [xs.length] else []) := by
  unfold idxOf
  rw [List.length_append, List.length_singleton, List.range_succ, List.filter_append, List.filter_cons]
  have e1 : (List.range xs.length).filter (fun i => decide (begTD ((xs ++ [s]).getD i .none) = k)) = (List.range xs.length).filter fun i => decide (begTD (xs.getD i .none) = k) := by
    refine List.filter_congr fun i hi => ?_
    have hi := List.mem_range.mp hi
    rw [List.getD_eq_getElem?_getD, List.getElem?_append_left hi, ← List.getD_eq_getElem?_getD]
  have e2 : (xs ++ [s]).getD xs.length .none = s := by
    rw [List.getD_eq_getElem?_getD, List.getElem?_append_right (Nat.le_refl _), Nat.sub_self] <;> rfl
  rw [e1, e2]
  by_cases h : k = begTD s
  · rw [if_pos h, decide_eq_true h.symm] <;> rfl
  · rw [if_neg h, decide_eq_false fun q => h q.symm] <;> rfl
theorem idx_lt {xs : List PyData} {k : Str} {i : Nat} (h : i ∈ idxOf xs k) : i < xs.length := List.mem_range.mp (List.mem_filter.mp h).1
theorem idx_len (xs : List PyData) (k : Str) : (idxOf xs k).length ≤ xs.length := by
  unfold idxOf
  exact Nat.le_trans (List.length_filter_le _ _) (by rw [List.length_range]; exact Nat.le_refl _)
/-- it stands there already -/
def inB (xs : List PyData) (s : PyData) : Bool := (numS xs s).isSome
def took (xs : List PyData) (s : PyData) : List PyData := if inB xs s = true then xs else xs ++ [s]
theorem inB_mem {xs : List PyData} {s : PyData} (h : inB xs s = true) : ∃ y ∈ xs, PyData.eqv y s = true := by
  unfold inB at h
  cases q : numS xs s with
  | none => rw [q] at h; cases h
  | some i =>
    have hi := idx_lt (List.mem_of_find?_eq_some q)
    have he := List.find?_some (p := fun i => PyData.eqv (xs.getD i .none) s) q
    refine ⟨xs.getD i .none, ?_, he⟩
    rw [List.getD_eq_getElem?_getD, List.getElem?_eq_getElem hi]
    exact List.getElem_mem hi
/-! ### in the heap -/
structure Rws (K : PySem.W.Frag) (H : Hp) (kvs : List (Key × V)) (xs : List PyData) : Prop where
  there : ∀ (k : Str) (v : V), valV kvs (Sum.inr k : Key) = some v → ∃ l, v = .ref l ∧ H l = some (.lst ((idxOf xs k).map fun (i : Nat) => V.int (i : Int)))
  no : ∀ k : Str, valV kvs (Sum.inr k : Key) = none → idxOf xs k = []
/-- what number asks of a shelf -/
structure ShF (K : PySem.W.Frag) (C sh : Addr) (Hd H : Hp) (xs : List PyData) : Prop where
  ex : ∃ (dx t r : Addr) (vs : List V) (kvs : List (Key × V)), H sh = some (.ins C dx [("things", .ref t), ("rows", .ref r)]) ∧ H t = some (.lst vs) ∧ DpAll K Hd vs xs ∧ H r = some (.dK kvs) ∧ Rws K H kvs xs
theorem Rws.keeps {K : PySem.W.Frag} {H H' : Hp} {kvs : List (Key × V)} {xs : List PyData} (R : Rws K H kvs xs) (h : ∀ a o, H a = some o → (∀ ps, o ≠ .tbl ps) → H' a = some o) : Rws K H' kvs xs :=
  ⟨fun k v e => let ⟨l, e1, e2⟩ := R.there k v e; ⟨l, e1, h _ _ e2 fun _ z => nomatch z⟩, R.no⟩
theorem ShF.up {K : PySem.W.Frag} {C sh : Addr} {Hd H Hd' H' : Hp} {xs : List PyData} (h : ShF K C sh Hd H xs) (g : Gr Hd H Hd' H') : ShF K C sh Hd' H' xs := by
  obtain ⟨dx, t, r, vs, kvs, h1, h2, h3, h4, h5⟩ := h.ex
  exact ⟨dx, t, r, vs, kvs, g.e.k _ _ h1 (fun _ z => nomatch z), g.e.k _ _ h2 (fun _ z => nomatch z), DpAll.up h3 g.d, g.e.k _ _ h4 (fun _ z => nomatch z), h5.keeps g.e.k⟩
/-- a shelf that is being filled: all of it new since the entry -/
structure Shx (K : PySem.W.Frag) (tb : List Addr) (C sh t r fo : Addr) (Hd0 H0 : Hp) (m : Nat) (Hd H : Hp) (xs found : List PyData) : Prop where
  gr : Gr Hd0 H0 Hd H
  tb : ∀ P ∈ tb, GxR.TabG H P
  ob : ∃ dx, H sh = some (.ins C dx [("things", .ref t), ("rows", .ref r)])
  th : ∃ vs, H t = some (.lst vs) ∧ DpAll K Hd vs xs
  nt : Hd t = none
  nr : Hd r = none
  ns : Hd sh = none
  ft : H0 t = none
  fr : H0 r = none
  fs : H0 sh = none
  hfo : ∃ vs, H fo = some (.lst vs) ∧ DpAll K Hd vs found
  nfo : Hd fo = none
  ffo : H0 fo = none
  nft : fo ≠ t
  rows : ∃ kvs, H r = some (.dK kvs) ∧ kvs.length ≤ m ∧ Rws K H kvs xs ∧ (∀ (k : Str) (l : Addr), valV kvs (Sum.inr k : Key) = some (.ref l) → Hd l = none ∧ l ≠ t ∧ H0 l = none ∧ l ≠ fo) ∧
    ∀ (k1 k2 : Str) (l : Addr), valV kvs (Sum.inr k1 : Key) = some (.ref l) → valV kvs (Sum.inr k2 : Key) = some (.ref l) → k1 = k2
section
variable {K : PySem.W.Frag} {tb : List Addr} {C sh t r fo : Addr} {Hd0 H0 : Hp} {m : Nat} {Hd H Hd' H' : Hp} {xs found : List PyData}
theorem Shx.dh (h : Shx K tb C sh t r fo Hd0 H0 m Hd H xs found) : DH Hd H := h.gr.h
theorem Shx.f (h : Shx K tb C sh t r fo Hd0 H0 m Hd H xs found) : ShF K C sh Hd H xs :=
  let ⟨dx, h1⟩ := h.ob; let ⟨vs, h2, h3⟩ := h.th; let ⟨kvs, h4, _, R, _⟩ := h.rows; ⟨dx, t, r, vs, kvs, h1, h2, h3, h4, R⟩
theorem Shx.up (h : Shx K tb C sh t r fo Hd0 H0 m Hd H xs found) (g : Gr Hd H Hd' H') : Shx K tb C sh t r fo Hd0 H0 m Hd' H' xs found := by
  obtain ⟨dx, h1⟩ := h.ob
  obtain ⟨vs, h2, h3⟩ := h.th
  obtain ⟨us, g2, g3⟩ := h.hfo
  obtain ⟨kvs, h4, h5, R, h6, h7⟩ := h.rows
  refine ⟨h.gr.trans g, fun P hp => g.e.t P (h.tb P hp), ⟨dx, g.e.k _ _ h1 (fun _ z => nomatch z)⟩, ⟨vs, g.e.k _ _ h2 (fun _ z => nomatch z), DpAll.up h3 g.d⟩, g.f _ h.nt (by rw [h2]; exact fun z => nomatch z), g.f _ h.nr (by rw [h4]; exact fun z => nomatch z), g.f _ h.ns (by rw [h1]; exact fun z => nomatch z), h.ft, h.fr, h.fs,
    ⟨us, g.e.k _ _ g2 (fun _ z => nomatch z), DpAll.up g3 g.d⟩, g.f _ h.nfo (by rw [g2]; exact fun z => nomatch z), h.ffo, h.nft, kvs, g.e.k _ _ h4 (fun _ z => nomatch z), h5, R.keeps g.e.k, fun k l e => ?_, h7⟩
  obtain ⟨e1, e2, e3⟩ := h6 k l e
  obtain ⟨l', e4, e5⟩ := R.there k _ e
  cases e4
  exact ⟨g.f _ e1 (by rw [e5]; exact fun z => nomatch z), e2, e3⟩
theorem Shx.more {n : Nat} (h : Shx K tb C sh t r fo Hd0 H0 m Hd H xs found) (hn : m ≤ n) : Shx K tb C sh t r fo Hd0 H0 n Hd H xs found :=
  ⟨h.gr, h.tb, h.ob, h.th, h.nt, h.nr, h.ns, h.ft, h.fr, h.fs, h.hfo, h.nfo, h.ffo, h.nft, let ⟨kvs, h4, h5, R⟩ := h.rows; ⟨kvs, h4, Nat.le_trans h5 hn, R⟩⟩
/-- a thing more: the row's list has its number, then the things have it -/
theorem Shx.put (h : Shx K tb C sh t r fo Hd0 H0 m Hd H xs found) {kvs : List (Key × V)} {l : Addr} {vs : List V} {s : PyData} {v : V} (hr : H r = some (.dK kvs)) (hk : valV kvs (Sum.inr (begTD s) : Key) = some (.ref l)) (ht : H t = some (.lst vs)) (hv : Dp K Hd v s) :
    Shx K tb C sh t r fo Hd0 H0 m Hd (upd (upd H l (.lst ((idxOf xs (begTD s)).map (fun (i : Nat) => V.int (i : Int)) ++ [.int (xs.length : Int)]))) t (.lst (vs ++ [v]))) (xs ++ [s]) found := by
  obtain ⟨dx, h1⟩ := h.ob
  obtain ⟨ws, h2, h3⟩ := h.th
  obtain ⟨us, k2, k3⟩ := h.hfo
  obtain ⟨kvs', h4, h5, R, h6, h7⟩ := h.rows
  have ek : kvs' = kvs := by
    rw [h4] at hr
    cases hr
    rfl
  subst ek
  have ew : ws = vs := by
    rw [h2] at ht
    cases ht
    rfl
  subst ew
  obtain ⟨e1, e2, e3, e3'⟩ := h6 _ _ hk
  obtain ⟨l', e4, e5⟩ := R.there _ _ hk
  cases e4
  have nrl : r ≠ l := fun q => by rw [q, e5] at h4; cases h4
  have nsl : sh ≠ l := fun q => by rw [q, e5] at h1; cases h1
  have nrt : r ≠ t := fun q => by rw [q, h2] at h4; cases h4
  have nst : sh ≠ t := fun q => by rw [q, h2] at h1; cases h1
  have htab : ∀ {a : Addr} {us : List V}, H a = some (.lst us) → ∀ ps, H a ≠ some (.tbl ps) := fun e ps z => by rw [e] at z; cases z
  refine ⟨gr_upd (gr_upd h.gr e3 e1) h.ft h.nt, fun P hP => tab_upd (tab_upd (h.tb P hP) (htab e5)) (fun ps z => by rw [upd_ne e2.symm, h2] at z; cases z), ⟨dx, by rw [upd_ne nst, upd_ne nsl]; exact h1⟩, ⟨_, upd_same, ?_⟩, h.nt, h.nr, h.ns, h.ft, h.fr, h.fs, ⟨us, by rw [upd_ne h.nft, upd_ne e3'.symm]; exact k2, k3⟩, h.nfo, h.ffo, h.nft, kvs', by rw [upd_ne nrt, upd_ne nrl]; exact h4, h5, ⟨fun j u e => ?_, fun j e => ?_⟩, h6, h7⟩
  · exact dpa_app h3 (.cons hv .nil)
  · obtain ⟨l2, g1, g2⟩ := R.there j u e
    subst g1
    have n2 : l2 ≠ t := (h6 j l2 e).2.1
    rw [idx_snoc, List.map_append]
    by_cases q : l2 = l
    · subst q
      have ej := h7 j _ l2 e hk
      refine ⟨l2, rfl, ?_⟩
      rw [upd_ne n2, upd_same, ej, if_pos rfl]
      rfl
    · have nj : ¬ j = begTD s := fun z => by
        rw [z, hk] at e
        cases e
        exact q rfl
      refine ⟨l2, rfl, ?_⟩
      rw [upd_ne n2, upd_ne q, if_neg nj]
      show H l2 = some (.lst (_ ++ []))
      rw [List.append_nil]
      exact g2
  · have nj : ¬ j = begTD s := fun z => by
      rw [z, hk] at e
      cases e
    rw [idx_snoc, if_neg nj, R.no j e] <;> rfl
/-- a new row of nothing -/
theorem Shx.addRow (h : Shx K tb C sh t r fo Hd0 H0 m Hd H xs found) {p : Addr} {kvs : List (Key × V)} {k : Str} (hp : H p = some (.lst [])) (hd : Hd p = none) (h0 : H0 p = none) (hf : p ≠ t) (hfo : p ≠ fo) (hnew : ∀ j, valV kvs (Sum.inr j : Key) ≠ some (.ref p)) (hr : H r = some (.dK kvs)) (hk : valV kvs (Sum.inr k : Key) = none) :
    Shx K tb C sh t r fo Hd0 H0 (m + 1) Hd (upd H r (.dK (putK kvs (Sum.inr k : Key) (.ref p)))) xs found := by
  obtain ⟨dx, h1⟩ := h.ob
  obtain ⟨vs, h2, h3⟩ := h.th
  obtain ⟨us, k2, k3⟩ := h.hfo
  obtain ⟨kvs', h4, h5, R, h6, h7⟩ := h.rows
  have ek : kvs' = kvs := by
    rw [h4] at hr
    cases hr
    rfl
  subst ek
  have ne : ∀ {a : Addr} {us : List V}, H a = some (.lst us) → a ≠ r := fun {a us} e q => by rw [q, h4] at e; cases e
  have nsh : sh ≠ r := fun q => by rw [q, h4] at h1; cases h1
  refine ⟨gr_upd h.gr h.fr h.nr, fun P hP => tab_upd (h.tb P hP) (fun ps z => by rw [h4] at z; cases z), ⟨dx, by rw [upd_ne nsh]; exact h1⟩, ⟨vs, by rw [upd_ne (ne h2)]; exact h2, h3⟩, h.nt, h.nr, h.ns, h.ft, h.fr, h.fs, ⟨us, by rw [upd_ne (ne k2)]; exact k2, k3⟩, h.nfo, h.ffo, h.nft, _, upd_same, Nat.le_trans (length_putK _ _ _) (by omega), ⟨fun j v e => ?_, fun j e => ?_⟩, fun j l e => ?_, fun j1 j2 l e1 e2 => ?_⟩
  · rw [valV_put] at e
    split at e
    · rename_i q
      have q : j = k := Sum.inr.inj q
      cases e
      refine ⟨p, rfl, ?_⟩
      rw [upd_ne (ne hp), q, R.no k hk]
      exact hp
    · obtain ⟨l, e1, e2⟩ := R.there j v e
      exact ⟨l, e1, by rw [upd_ne (ne e2)]; exact e2⟩
  · rw [valV_put] at e
    split at e
    · cases e
    · exact R.no j e
  · rw [valV_put] at e
    split at e
    · cases e
      exact ⟨hd, hf, h0, hfo⟩
    · exact h6 j l e
  · rw [valV_put] at e1 e2
    split at e1
    · rename_i q1
      split at e2
      · rename_i q2
        exact (Sum.inr.inj q1).trans (Sum.inr.inj q2).symm
      · cases e1
        exact absurd e2 (hnew j2)
    · split at e2
      · cases e2
        exact absurd e1 (hnew j1)
      · exact h7 j1 j2 l e1 e2
/-- one more found -/
theorem Shx.find (h : Shx K tb C sh t r fo Hd0 H0 m Hd H xs found) {vs : List V} {s : PyData} {v : V} (hf : H fo = some (.lst vs)) (hv : Dp K Hd v s) : Shx K tb C sh t r fo Hd0 H0 m Hd (upd H fo (.lst (vs ++ [v]))) xs (found ++ [s]) := by
  obtain ⟨dx, h1⟩ := h.ob
  obtain ⟨ws, h2, h3⟩ := h.th
  obtain ⟨us, k2, k3⟩ := h.hfo
  obtain ⟨kvs, h4, h5, R, h6, h7⟩ := h.rows
  have eu : us = vs := by
    rw [k2] at hf
    cases hf
    rfl
  subst eu
  have nr : r ≠ fo := fun q => by rw [q, k2] at h4; cases h4
  have nsh : sh ≠ fo := fun q => by rw [q, k2] at h1; cases h1
  refine ⟨gr_upd h.gr h.ffo h.nfo, fun P hP => tab_upd (h.tb P hP) (fun ps z => by rw [k2] at z; cases z), ⟨dx, by rw [upd_ne nsh]; exact h1⟩, ⟨ws, by rw [upd_ne h.nft.symm]; exact h2, h3⟩, h.nt, h.nr, h.ns, h.ft, h.fr, h.fs, ⟨us ++ [v], upd_same, dpa_app k3 (.cons hv .nil)⟩, h.nfo, h.ffo, h.nft, kvs, by rw [upd_ne nr]; exact h4, h5, ⟨fun j u e => ?_, R.no⟩, h6, h7⟩
  obtain ⟨l, g1, g2⟩ := R.there j u e
  subst g1
  exact ⟨l, rfl, by rw [upd_ne (h6 j l e).2.2.2]; exact g2⟩
end
end SHLV
/-! DYV: a shelf of any data that is looked at. -/
namespace SHLV
open PySem PySem.Spec PyProof.Rows L2 DL LM RM
open PK (begTD Fn)
open SHLF (ShC gr_back natsV dpa_nats)
theorem ShF.sub {K : PySem.W.Frag} {C sh : Addr} {A B : Hp} {xs : List PyData} (h : ShF K C sh A A xs) (s : Sub A B) : ShF K C sh B B xs := by
  obtain ⟨dx, t, r, vs, kvs, h1, h2, h3, h4, h5⟩ := h.ex
  exact ⟨dx, t, r, vs, kvs, s _ _ h1, s _ _ h2, DpAll.up h3 s, s _ _ h4, h5.keeps fun a o e _ => s a o e⟩
def shelfS (K : PySem.W.Frag) (C : Addr) (xs : List PyData) : Sl := .hp (fun v Hd => ∃ sh, v = .ref sh ∧ ShF K C sh Hd Hd xs) fun _ _ _ s ⟨sh, e, h⟩ => ⟨sh, e, h.sub s⟩
theorem shf_noTab {K : PySem.W.Frag} {C sh : Addr} {Hd H : Hp} {xs : List PyData} (D : DH Hd H) (h : ShF K C sh Hd H xs) : ShF K C sh (noTab H) (noTab H) xs := by
  obtain ⟨dx, t, r, vs, kvs, h1, h2, h3, h4, h5⟩ := h.ex
  have s : Sub Hd (noTab H) := fun a o e => noTab_at (D.s a o e) fun ps z => D.nt a ps (by rw [e, z])
  exact ⟨dx, t, r, vs, kvs, noTab_at h1 (fun _ z => nomatch z), noTab_at h2 (fun _ z => nomatch z), DpAll.up h3 s, noTab_at h4 (fun _ z => nomatch z), h5.keeps fun a o e n => noTab_at e n⟩
section
variable {X : Cx} {tb : List Addr} {ds : List Sl} {a b : Expr} {pos p px cpos apos : Pos} {x : Str} {xs : List PyData} {C : Addr} {k : Nat}
/-- shelf.things -/
theorem ed_things (i : Nat) (T : ShC X.K X.mg C) (hd : ds[i]? = some (shelfS X.K C xs) := by rfl) (hN : X.N[i]? = some x := by rfl) (hv : visB X.env.scope x = true := by rfl) (h1 : (x == ("__debug__" : Str)) = false := by decide) (h2 : (x == ("__classdict__" : Str)) = false := by decide) (hb : attributeBase (.Name x px) "things" X.env (eval (.Name x px) X.env) = eval (.Name x px) X.env := by rfl) :
    PEd X tb (.Attribute (.Name x px) "things" pos) ds (.list xs) :=
  ⟨_, pe_fld (pe_var hN (visB_ok hv) h1 h2) hb, fun Hd H σ E Q q => by
    obtain ⟨o, e1, e2⟩ := E.sl i _ hd
    cases o with
    | none => exact e2.elim
    | some w =>
      obtain ⟨sh, rfl, F⟩ : ∃ sh, w = .ref sh ∧ ShF X.K C sh Hd Hd xs := e2
      obtain ⟨dx, t, r, vs, kvs, h1, h2, h3, h4, h5⟩ := F.ex
      exact ⟨_, e1, sh, C, dx, _, _, rfl, E.dh.s _ _ h1, T.cl, T.nT, rfl, q _ Hd H (Gr.refl E.dh) (.lst (.of h2) h3)⟩⟩
/-- shelf.rows.get(words, []) -/
theorem ed_rowOf (i : Nat) {z : Str} {p1 p2 : Pos} (hr : Room k X.A) (T : ShC X.K X.mg C) (ha : PEd X tb a ds (.str z)) (hd : ds[i]? = some (shelfS X.K C xs) := by rfl) (hN : X.N[i]? = some x := by rfl) (hv : visB X.env.scope x = true := by rfl) (h1 : (x == ("__debug__" : Str)) = false := by decide) (h2 : (x == ("__classdict__" : Str)) = false := by decide) (hb : attributeBase (.Name x px) "rows" X.env (eval (.Name x px) X.env) = eval (.Name x px) X.env := by rfl)
    (hbase : attributeBase (.Attribute (.Name x px) "rows" p1) "get" X.env (eval (.Attribute (.Name x px) "rows" p1) X.env) = eval (.Attribute (.Name x px) "rows" p1) X.env := by rfl)
    (hfew : ((backTo cpos (starEach [a, .List [] p2] X.env)).all (fun x => !x.1) && (backToKw cpos (keywordEach [] X.env)).all (fun x => x.1.isSome)
      && decide (([a, .List [] p2] : List Expr).length + ([] : List Keyword).length + (if ([] : List Keyword).isEmpty then 0 else 1) < 30)) = true := by rfl)
    (hline : (apos.endLine == cpos.line) = true := by rfl) (htrees : backTo cpos (starEach [a, .List [] p2] X.env) = [(false, eval a X.env), (false, eval (.List [] p2) X.env)] := by rfl) :
    PEd X tb (.Call (.Attribute (.Attribute (.Name x px) "rows" p1) "get" apos) [a, .List [] p2] [] cpos) ds (.list (natsV (idxOf xs z))) := by
  obtain ⟨t1, q1, r1⟩ := ha
  refine ⟨_, pe_dget2 (hu_of hr) (pe_fld (pe_var hN (visB_ok hv) h1 h2) hb) q1 (pe_lst pa_nil) ⟨hbase, hfew, hline, htrees⟩, fun Hd H σ E Q q => ?_⟩
  obtain ⟨o, e1, e2⟩ := E.sl i _ hd
  cases o with
  | none => exact e2.elim
  | some w =>
    obtain ⟨sh, rfl, F⟩ : ∃ sh, w = .ref sh ∧ ShF X.K C sh Hd Hd xs := e2
    obtain ⟨dx, t, r, vs, kvs, h1, h2, h3, h4, R⟩ := F.ex
    refine ⟨_, e1, sh, C, dx, _, _, rfl, E.dh.s _ _ h1, T.cl, T.nR, rfl, r, rfl, .inl ⟨kvs, .inl (E.dh.s _ _ h4)⟩, r1 Hd H σ E _ fun v Hd1 H1 g1 dv => ?_⟩
    cases dv
    refine ⟨Nat.zero_le _, fun c hc => ?_⟩
    have g2 := Gr.new (o := .lst []) g1.h hc fun _ z => HO.noConfusion z
    have h4' : (upd Hd1 c (.lst [])) r = some (.dK kvs) := g2.d _ _ (g1.d _ _ h4)
    refine ⟨_, DGet.k (k := Sum.inr z) (g2.h.s r _ h4'), ?_⟩
    cases e : valV kvs (.inr z) with
    | none =>
      have hn := R.no z e
      rw [hn] at q
      exact q (.ref c) _ _ (g1.trans g2) (.lst (xs := []) (.of upd_same) .nil)
    | some v =>
      obtain ⟨l, rfl, hl⟩ := R.there z v e
      exact q (.ref l) _ _ (g1.trans g2) (.lst (.of (g2.d _ _ (g1.d _ _ hl))) (dpa_nats _))
end
end SHLV
namespace K1
open PySem PySem.Spec PyProof.Rows L2 DL LM
local macro_rules | `(tactic| walk_at "side") => `(tactic| first | assumption | decide | omega | (simp; done) | (simp; omega))
local macro_rules | `(tactic| walk_at "bin") => `(tactic| first | exact bin_add | exact bin_sub | exact bin_mul (by walk_at "side") | exact bin_fdiv (by walk_at "side") | exact bin_mod (by walk_at "side") | exact bin_catm (by walk_at "side") | exact bin_cat (by walk_at "side") | exact bin_addS (by walk_at "side"))
local macro_rules | `(tactic| walk_at "cmp") => `(tactic| first | exact cmp_lt | exact cmp_le | exact cmp_gt | exact cmp_ge | exact cmp_eqI | exact cmp_neI | exact cmp_eqS | exact cmp_neS | exact cmp_eqB | exact cmp_neB | exact cmp_isN | exact cmp_notN)
local macro_rules | `(tactic| walk_at "slc") => `(tactic| first | exact slc_lm | exact slc_l | exact slc_s (by walk_at "side"))
local macro_rules | `(tactic| walk_at "len") => `(tactic| first | exact len_lm | exact len_l rfl | exact len_t rfl | exact len_s (by walk_at "side"))
local macro_rules | `(tactic| walk_at "room") => `(tactic| exact Room.mono (by assumption) (by decide))
def topS (i : Nat) : Stmt := PySem.Challenge.pw_showtree_k01_statements_told.main.body.getD i (.Pass ⟨0, 0, 0, 0⟩)
abbrev FnP (K : PySem.W.Frag) (x : Str) (st : Stmt) (f : Addr) (fd : FuncData) : Prop := FunD K x x (defArgs st) (defBody st) (defScope st) [] [] f fd
abbrev sName : Stmt := (topS 13)
abbrev nName : List Str := ["_law_seed", "_law_k", "_law_letters", "_law_size", "_law_word", "_law_j", "_law_spot", "_law_sign"]
theorem scName : FnScope nName ["_law_seed", "_law_k"] (defScope sName) := ⟨rfl, rfl, rfl, by decide +kernel, rfl, by decide +kernel, by decide +kernel⟩
section
variable {P : Program} {w : World} {K : PySem.W.Frag} {mg : Str → Option Value} {base : Heap} {f : Addr} {fd : FuncData} {tb : List Addr} {k : Nat}
def rName (ds : List PyData) (d : PyData) : Prop := ∃ (seed k : Int), ds = [.int seed, .int k] ∧ 0 ≤ k ∧ k < 1000 ∧ d = .str (nameBy seed k)
theorem ok_name (F : FnP K "_law_name_by" sName f fd) (mr : mg "range" = none) : FnOk P w K mg base CX0 (k + 1) f fd ["_law_seed", "_law_k"] (spD K tb 2 rName) := by
  refine fn_ok F scName (by decide) ?_
  rintro ds d ⟨seed, i, rfl, hi0, hi1, rfl⟩ A outer s H E hr
  have nd := scName.nd
  have hs := sizeN_lo seed
  have hp := spotN_lo seed
  refine (bd_cons (sd_set 2 ed_str nd)
    (bd_cons (sd_set 3 ((ed_bin ed_int (ed_bin (ed_var 0) ed_int (by walk_at "bin")) (by walk_at "bin")).is (g := .int (sizeN seed)) rfl) nd) ?_))
  have hw : (wordParts seed).map PyData.str = (List.range (sizeN seed).toNat).map fun (j : Nat) => PyData.str (oneS (letAt (sgnIx seed j))) := by
    unfold wordParts
    rw [List.map_map] <;> rfl
  refine (bd_cons (sd_set 4 ((ed_join (ys := wordParts seed) ed_str (((ed_lcY 5 (List.range (sizeN seed).toNat) (fun (j : Nat) => .int (0 + (j : Int))) (fun (j : Nat) => .str (oneS (letAt (sgnIx seed j)))) rfl nd (id_rng1 mr (ed_var 3) ?_ ?_) ?_
    (blkOk_by (N := nName) (sc := defScope sName) (by decide +kernel)) (fun _ _ _ _ _ => pg_name nd rfl (Or.inl rfl)) ?_)).is ?_) ?_).is (g := .str (word0 seed)) rfl) nd) ?_)
  · omega
  · omega
  · rw [List.length_range]; omega
  · intro j hj s' H' C cl fp
    have hj := List.mem_range.mp hj
    refine (ed_item (ed_var 2) (ed_bin (ed_bin (ed_bin (ed_bin (ed_var 0) ed_int (by walk_at "bin")) (ed_bin ed_int (ed_var 5) (by walk_at "bin")) (by walk_at "bin")) (ed_bin (ed_var 5) (ed_var 5) (by walk_at "bin")) (by walk_at "bin")) ed_int (by walk_at "bin")) (item_so (by decide +kernel) (Int.emod_nonneg _ (by decide)) (Int.emod_lt_of_pos _ (by decide)))).is ?_
    rw [Int.zero_add]
    rfl
  · rw [hw]
  · have e : (wordParts seed).length = (sizeN seed).toNat := by
      unfold wordParts
      rw [List.length_map, List.length_range]
    have e2 : (wordParts seed).map (fun x => x.length) = (List.range (sizeN seed).toNat).map fun _ => 1 := by
      unfold wordParts
      rw [List.map_map] <;> rfl
    rw [e, e2, List.map_const', List.length_range, List.sum_replicate_nat, show ("" : Str).length = 0 from rfl]
    omega
  have lw := word0_len seed
  refine (bd_cons (sd_set 6 ((ed_bin (ed_bin (ed_var 0) ed_int (by walk_at "bin")) (ed_var 3) (bin_mod (by omega))).is (g := .int (spotN seed)) rfl) nd) ?_)
  have hx : (word0 seed).cps.toList.getD (spotN seed).toNat 0 = letAt (sgnIx seed (spotN seed).toNat) := by
    rw [word0_list, List.getD_eq_getElem?_getD, List.getElem?_map, List.getElem?_range (by omega)] <;> rfl
  have m26 : 0 ≤ sgnIx seed (spotN seed).toNat ∧ sgnIx seed (spotN seed).toNat < 26 := ⟨Int.emod_nonneg _ (by decide), Int.emod_lt_of_pos _ (by decide)⟩
  have ho : Builtin.Str.occurrences letters ⟨#[(word0 seed).cps.toList.getD (spotN seed).toNat 0]⟩ 0 letters.length 1 = [(sgnIx seed (spotN seed).toNat).toNat] := by
    rw [hx]
    exact let_occ _ (by omega)
  refine (bd_cons (sd_set 7 ((ed_item (ed_var 2) (ed_bin (ed_bin (ed_index (ed_var 2) (ed_item (ed_var 4) (ed_var 6) (item_so (z := word0 seed) (by omega) hp.1 (by omega))) ho) (ed_bin (ed_var 1) (ed_bin ed_int (ed_bin (ed_bin (ed_var 0) ed_int (by walk_at "bin")) ed_int (by walk_at "bin")) (by walk_at "bin")) (by walk_at "bin")) (by walk_at "bin")) ed_int (by walk_at "bin")) (item_so (by decide +kernel) (Int.emod_nonneg _ (by decide)) (Int.emod_lt_of_pos _ (by decide)))).is (g := .str (signN seed i)) ?_) nd) ?_)
  · rw [Int.toNat_of_nonneg m26.1]
    rfl
  have hc : nameBy seed i = if (decide (i = 2) && (decide (seed / 13312 % 2 = 1) && decide (sizeN seed < 8))) = true then word0 seed ++ signN seed i
      else cutS (word0 seed) none (some (spotN seed)) ++ signN seed i ++ cutS (word0 seed) (some (spotN seed + 1)) none := by
    unfold nameBy
    simp only [Bool.and_eq_true, decide_eq_true_eq]
  have l1 : (cutS (word0 seed) none (some (spotN seed))).length ≤ 8 := by
    rw [str_len, cutS_cut]
    refine Nat.le_trans (List.length_take_le' _ _) ?_
    rw [List.length_drop, ← str_len]
    omega
  have l2 : (cutS (word0 seed) (some (spotN seed + 1)) none).length ≤ 8 := by
    rw [str_len, cutS_cut]
    refine Nat.le_trans (List.length_take_le' _ _) ?_
    rw [List.length_drop, ← str_len]
    omega
  have l3 := signN_len seed i
  refine (bd_if (PWd.pt (wd_and2 (td_cmpD (ed_var 1) ed_int (by walk_at "cmp")) fun hw => (wd_and2 (td_cmpD (ed_bin (ed_bin (ed_var 0) ed_int (by walk_at "bin")) ed_int (by walk_at "bin")) ed_int (by walk_at "cmp")) fun hw => (wd_and1 (td_cmpD (ed_var 3) ed_int (by walk_at "cmp")))))) (fun h =>
    (bd_left ((sd_ret (ed_bin (ed_var 4) (ed_var 7) (bin_addS (by rw [lw, l3]; omega)))).is ?_))) rfl fun h =>
    (bd_left ((sd_ret (ed_bin (ed_bin (ed_slc (ed_var 4) od_none (od_some (ed_var 6)) (slc_s (by omega))) (ed_var 7) (bin_addS ?_)) (ed_slc (ed_var 4) (od_some (ed_bin (ed_var 6) ed_int (by walk_at "bin"))) od_none (slc_s (by omega))) (bin_addS ?_))).is ?_)))
  · rw [hc, if_pos h] <;> rfl
  · exact Nat.le_trans (Nat.add_le_add l1 (Nat.le_of_eq l3)) (by decide)
  · rw [app_len]
    exact Nat.le_trans (Nat.add_le_add (Nat.add_le_add l1 (Nat.le_of_eq l3)) l2) (by decide)
  · rw [hc, if_neg (by rw [h]; exact Bool.false_ne_true)] <;> rfl
end
end K1
namespace K1
open PySem PySem.Spec PyProof.Rows L2 DL LM RM
local macro_rules | `(tactic| walk_at "side") => `(tactic| first | assumption | decide | omega | (simp; done) | (simp; omega))
local macro_rules | `(tactic| walk_at "bin") => `(tactic| first | exact bin_add | exact bin_sub | exact bin_mul (by walk_at "side") | exact bin_fdiv (by walk_at "side") | exact bin_mod (by walk_at "side") | exact bin_catm (by walk_at "side") | exact bin_cat (by walk_at "side") | exact bin_addS (by walk_at "side"))
local macro_rules | `(tactic| walk_at "cmp") => `(tactic| first | exact cmp_lt | exact cmp_le | exact cmp_gt | exact cmp_ge | exact cmp_eqI | exact cmp_neI | exact cmp_eqS | exact cmp_neS | exact cmp_eqB | exact cmp_neB | exact cmp_isN | exact cmp_notN)
local macro_rules | `(tactic| walk_at "slc") => `(tactic| first | exact slc_lm | exact slc_l | exact slc_s (by walk_at "side"))
local macro_rules | `(tactic| walk_at "len") => `(tactic| first | exact len_lm | exact len_l rfl | exact len_t rfl | exact len_s (by walk_at "side"))
local macro_rules | `(tactic| walk_at "room") => `(tactic| exact Room.mono (by assumption) (by decide))
abbrev sCell : Stmt := (topS 12)
theorem scCell : FnScope ["_law_script", "_law_k"] ["_law_script", "_law_k"] (defScope sCell) := ⟨rfl, rfl, rfl, by decide +kernel, rfl, by decide +kernel, by decide +kernel⟩
section
variable {P : Program} {w : World} {K : PySem.W.Frag} {mg : Str → Option Value} {base : Heap} {f : Addr} {fd : FuncData} {tb : List Addr} {k : Nat} {Rx : List PyData → Value → Prop}
def rCell (ds : List PyData) (d : PyData) : Prop := ∃ (ns : List Int) (k : Nat), ds = [.list (ns.map .int), .int k] ∧ d = .int (ns.getD k 0)
theorem ok_cell (F : FnP K "_law_cell_at" sCell f fd) (ml : mg "len" = none) : FnOk P w K mg base CX0 (k + 1) f fd ["_law_script", "_law_k"] (spD K tb 2 rCell) := by
  refine fn_ok F scCell (by decide) ?_
  rintro ds d ⟨ns, i, rfl, rfl⟩ A outer s H E hr
  refine bd_if (td_cmp op_lt rv_lt (ed_var 1) (ed_lenL ml (ed_var 0))) (fun h => bd_one (sd_ret (ed_ixL (ed_var 0) (ed_var 1) ?_))) rfl (fun h => bd_one ((sd_ret ed_int).is ?_))
  · have h1 := of_decide_eq_true h
    rw [List.length_map] at h1
    have h2 : i < ns.length := by omega
    refine atI_nat ?_
    rw [List.getElem?_map, List.getD_eq_getElem?_getD, List.getElem?_eq_getElem h2] <;> rfl
  · have h1 := of_decide_eq_false h
    rw [List.length_map] at h1
    have h2 : ns.length ≤ i := by omega
    rw [List.getD_eq_getElem?_getD, List.getElem?_eq_none h2] <;> rfl
end
end K1
namespace K1
open PySem PySem.Spec PyProof.Rows L2 DL LM
local macro_rules | `(tactic| walk_at "side") => `(tactic| first | assumption | decide | omega | (simp; done) | (simp; omega))
local macro_rules | `(tactic| walk_at "bin") => `(tactic| first | exact bin_add | exact bin_sub | exact bin_mul (by walk_at "side") | exact bin_fdiv (by walk_at "side") | exact bin_mod (by walk_at "side") | exact bin_catm (by walk_at "side") | exact bin_cat (by walk_at "side") | exact bin_addS (by walk_at "side"))
local macro_rules | `(tactic| walk_at "cmp") => `(tactic| first | exact cmp_lt | exact cmp_le | exact cmp_gt | exact cmp_ge | exact cmp_eqI | exact cmp_neI | exact cmp_eqS | exact cmp_neS | exact cmp_eqB | exact cmp_neB | exact cmp_isN | exact cmp_notN)
local macro_rules | `(tactic| walk_at "slc") => `(tactic| first | exact slc_lm | exact slc_l | exact slc_s (by walk_at "side"))
local macro_rules | `(tactic| walk_at "len") => `(tactic| first | exact len_lm | exact len_l rfl | exact len_t rfl | exact len_s (by walk_at "side"))
local macro_rules | `(tactic| walk_at "room") => `(tactic| exact Room.mono (by assumption) (by decide))
abbrev sJoined : Stmt := (topS 14)
abbrev sStep : Stmt := (topS 15)
abbrev sStBy : Stmt := (topS 16)
abbrev nJoined : List Str := ["_law_way", "_law_one", "_law_other"]
theorem scJoined : FnScope nJoined ["_law_way", "_law_one", "_law_other"] (defScope sJoined) := ⟨rfl, rfl, rfl, by decide +kernel, rfl, by decide +kernel, by decide +kernel⟩
abbrev nStep : List Str := ["_law_pile", "_law_cell", "_law_seed", "_law_way", "_law_rest"]
theorem scStep : FnScope nStep ["_law_pile", "_law_cell", "_law_seed"] (defScope sStep) := ⟨rfl, rfl, rfl, by decide +kernel, rfl, by decide +kernel, by decide +kernel⟩
abbrev nStBy : List Str := ["_law_cells", "_law_seed", "_law_pile", "_law_cell"]
theorem scStBy : FnScope nStBy ["_law_cells", "_law_seed"] (defScope sStBy) := ⟨rfl, rfl, rfl, by decide +kernel, rfl, by decide +kernel, by decide +kernel⟩
section
variable {P : Program} {w : World} {K : PySem.W.Frag} {mg : Str → Option Value} {base : Heap} {f : Addr} {fd : FuncData} {tb : List Addr} {k : Nat}
def rJoined (ds : List PyData) (d : PyData) : Prop := ∃ (way : Int) (one other : S), ds = [.int way, enc one, enc other] ∧ d = enc (joined way one other)
theorem ok_joined (F : FnP K "_law_joined" sJoined f fd) : FnOk P w K mg base CX0 (k + 1) f fd ["_law_way", "_law_one", "_law_other"] (spD K tb 3 rJoined) := by
  refine fn_ok F scJoined (by decide) ?_
  rintro ds d ⟨way, one, other, rfl, rfl⟩ A outer s H E hr
  have e0 : 0 ≤ way % 4 := Int.emod_nonneg _ (by decide)
  have e1 : way % 4 < 4 := Int.emod_lt_of_pos _ (by decide)
  refine (bd_if (td_cmpD (ed_bin (ed_bin (ed_var 0) ed_int (by walk_at "bin")) ed_int (by walk_at "bin")) ed_int (by walk_at "cmp")) (fun h =>
    (bd_left ((sd_ret (ed_tup (ad_cons (ed_item (ed_lst (ad_cons ed_str (ad_cons ed_str (ad_cons ed_str (ad_cons ed_str ad_nil)))) (by decide)) (ed_bin (ed_var 0) ed_int (by walk_at "bin")) (item_lo e0 e1)) (ad_cons (ed_var 2) (ad_cons (ed_var 1) ad_nil))) (by walk_at "side"))).is ?_))) rfl fun h =>
  (bd_left ((sd_ret (ed_tup (ad_cons (ed_item (ed_lst (ad_cons ed_str (ad_cons ed_str (ad_cons ed_str (ad_cons ed_str ad_nil)))) (by decide)) (ed_bin (ed_var 0) ed_int (by walk_at "bin")) (item_lo e0 e1)) (ad_cons (ed_var 1) (ad_cons (ed_var 2) ad_nil))) (by walk_at "side"))).is ?_)))
  · rw [op_item]
    unfold joined
    rw [if_pos (of_decide_eq_true h)] <;> rfl
  · rw [op_item]
    unfold joined
    rw [if_neg (of_decide_eq_false h)] <;> rfl
def rStep (ds : List PyData) (d : PyData) : Prop := ∃ (pile : List S) (cell seed : Int), ds = [.list (pile.map enc), .int cell, .int seed] ∧ pile.length ≤ 1000 ∧ d = .list ((stepP seed pile cell).map enc)
theorem ok_step {kn kj : Nat} (F : FnP K "_law_step" sStep f fd) (GN : FnG P w K mg base tb "_law_name_by" ["_law_seed", "_law_k"] kn rName) (GJ : FnG P w K mg base tb "_law_joined" ["_law_way", "_law_one", "_law_other"] kj rJoined)
    (ml : mg "len" = none) (h1 : kn ≤ k) (h2 : kj ≤ k) : FnOk P w K mg base CX0 (k + 1) f fd ["_law_pile", "_law_cell", "_law_seed"] (spD K tb 3 rStep) := by
  refine fn_ok F scStep (by decide) ?_
  rintro ds d ⟨pile, cell, seed, rfl, hl, rfl⟩ A outer s H E hr
  have nd := scStep.nd
  refine (bd_cons (sd_set 3 (ed_bin (ed_var 1) ed_int (by walk_at "bin")) nd)
    (bd_cons (sd_set 4 (ed_bin (ed_var 1) ed_int (by walk_at "bin")) nd) ?_))
  unfold stepP
  refine (bd_if (td_cmpD (ed_var 3) ed_int (by walk_at "cmp")) (fun h => ?_) rfl fun h => ?_)
  · have h := of_decide_eq_true h
    rw [if_pos h]
    exact bd_left (sd_ret (ed_bin (ed_var 0) ((ed_lst (ad_cons (ed_tup (ad_cons ed_str ad_nil) (by decide)) ad_nil) (by decide)).is (g := .list (([S.fls] : List S).map enc)) rfl) (bin_catm (by simp; omega))))
  have n1 := of_decide_eq_false h
  rw [if_neg n1]
  refine (bd_if (PWd.pt (wd_and2 (td_cmpD (ed_var 3) ed_int (by walk_at "cmp")) fun hw => (wd_and1 (td_cmpD (ed_len ml (ed_var 0) (by walk_at "len")) ed_int (by walk_at "cmp"))))) (fun h => ?_) rfl fun h => ?_)
  · simp only [Bool.and_eq_true, decide_eq_true_eq] at h
    have hp : 0 < pile.length := by omega
    rw [if_pos ⟨h.1, hp⟩]
    have r0 : 0 ≤ cell / 10 % (pile.length : Int) := Int.emod_nonneg _ (by omega)
    have r1 : cell / 10 % (pile.length : Int) < pile.length := Int.emod_lt_of_pos _ (by omega)
    exact bd_left (sd_ret (ed_bin (ed_var 0) ((ed_lst (ad_cons (ed_item (ed_var 0) (ed_bin (ed_var 4) (ed_len ml (ed_var 0) (by walk_at "len")) (bin_mod (by omega))) (item_lm (atI_pos .fls r0 r1))) ad_nil) (by simp)).is (g := .list (([pile.getD (cell / 10 % (pile.length : Int)).toNat .fls] : List S).map enc)) rfl) (bin_catm (by simp; omega))))
  have n2 : ¬ (cell % 10 = 5 ∧ 0 < pile.length) := fun z => by
    rw [decide_eq_true z.1, decide_eq_true (show (0 : Int) < pile.length by omega)] at h
    cases h
  rw [if_neg n2]
  refine (bd_if (PWd.pt (wd_and2 (td_cmpD (ed_var 3) ed_int (by walk_at "cmp")) fun hw => (wd_and1 (td_cmpD (ed_len ml (ed_var 0) (by walk_at "len")) ed_int (by walk_at "cmp"))))) (fun h => ?_) rfl fun h => ?_)
  · simp only [Bool.and_eq_true, decide_eq_true_eq] at h
    have hp : 0 < pile.length := by omega
    rw [if_pos ⟨h.1, hp⟩]
    exact bd_left (sd_ret (ed_bin ((ed_slc (ed_var 0) od_none (od_some (ed_neg ed_int)) slc_lm).is (g := .list (pile.dropLast.map enc)) (by rw [cut_init])) ((ed_lst (ad_cons (ed_tup (ad_cons ed_str (ad_cons (ed_item (ed_var 0) (ed_neg ed_int) (item_lm (getLastD_last hp))) (ad_cons (ed_tup (ad_cons ed_str ad_nil) (by decide)) ad_nil))) (by simp)) ad_nil) (by simp)).is (g := .list (([S.bin .thn (pile.getLastD .fls) .fls] : List S).map enc)) rfl) (bin_catm (by simp; omega))))
  have n3 : ¬ (cell % 10 = 6 ∧ 0 < pile.length) := fun z => by
    rw [decide_eq_true z.1, decide_eq_true (show (0 : Int) < pile.length by omega)] at h
    cases h
  rw [if_neg n3]
  refine (bd_if (PWd.pt (wd_and2 (td_cmpD (ed_var 3) ed_int (by walk_at "cmp")) fun hw => (wd_and1 (td_cmpD (ed_len ml (ed_var 0) (by walk_at "len")) ed_int (by walk_at "cmp"))))) (fun h => ?_) rfl fun h => ?_)
  · simp only [Bool.and_eq_true, decide_eq_true_eq] at h
    have hp : 1 < pile.length := by omega
    rw [if_pos ⟨h.1, hp⟩]
    exact bd_left (sd_ret (ed_bin ((ed_slc (ed_var 0) od_none (od_some (ed_neg ed_int)) slc_lm).is (g := .list ((pile.take (pile.length - 2)).map enc)) (by rw [cut_init2]))
      ((ed_lst (ad_cons (ed_call GJ (hr.mono h2) (ad_cons (ed_var 4) (ad_cons (ed_item (ed_var 0) (ed_neg ed_int) (item_lm (atI_two hp))) (ad_cons (ed_item (ed_var 0) (ed_neg ed_int) (item_lm (getLastD_last (by omega)))) ad_nil))) ⟨_, _, _, rfl, rfl⟩) ad_nil) (by simp)).is (g := .list (([joined (cell / 10) (pile.getD (pile.length - 2) .fls) (pile.getLastD .fls)] : List S).map enc)) rfl) (bin_catm (by simp; omega))))
  have n4 : ¬ (6 < cell % 10 ∧ 1 < pile.length) := fun z => by
    rw [decide_eq_true z.1, decide_eq_true (show (1 : Int) < pile.length by omega)] at h
    cases h
  rw [if_neg n4]
  have c0 : 0 ≤ cell / 10 % 4 := Int.emod_nonneg _ (by decide)
  have c1 : cell / 10 % 4 < 4 := Int.emod_lt_of_pos _ (by decide)
  exact bd_left (sd_ret (ed_bin (ed_var 0) ((ed_lst (ad_cons (ed_tup (ad_cons ed_str (ad_cons (ed_call GN (hr.mono h1) (ad_cons (ed_var 2) (ad_cons (ed_bin (ed_var 4) ed_int (by walk_at "bin")) ad_nil)) ⟨_, _, rfl, c0, by omega, rfl⟩) ad_nil)) (by simp)) ad_nil) (by simp)).is (g := .list (([S.nm (nameBy seed (cell / 10 % 4))] : List S).map enc)) rfl) (bin_catm (by simp; omega))))
end
end K1
namespace K1
open PySem PySem.Spec PyProof.Rows L2 DL LM
local macro_rules | `(tactic| walk_at "side") => `(tactic| first | assumption | decide | omega | (simp; done) | (simp; omega))
local macro_rules | `(tactic| walk_at "bin") => `(tactic| first | exact bin_add | exact bin_sub | exact bin_mul (by walk_at "side") | exact bin_fdiv (by walk_at "side") | exact bin_mod (by walk_at "side") | exact bin_catm (by walk_at "side") | exact bin_cat (by walk_at "side") | exact bin_addS (by walk_at "side"))
local macro_rules | `(tactic| walk_at "cmp") => `(tactic| first | exact cmp_lt | exact cmp_le | exact cmp_gt | exact cmp_ge | exact cmp_eqI | exact cmp_neI | exact cmp_eqS | exact cmp_neS | exact cmp_eqB | exact cmp_neB | exact cmp_isN | exact cmp_notN)
local macro_rules | `(tactic| walk_at "slc") => `(tactic| first | exact slc_lm | exact slc_l | exact slc_s (by walk_at "side"))
local macro_rules | `(tactic| walk_at "len") => `(tactic| first | exact len_lm | exact len_l rfl | exact len_t rfl | exact len_s (by walk_at "side"))
local macro_rules | `(tactic| walk_at "room") => `(tactic| exact Room.mono (by assumption) (by decide))
section
variable {P : Program} {w : World} {K : PySem.W.Frag} {mg : Str → Option Value} {base : Heap} {f : Addr} {fd : FuncData} {tb : List Addr} {k : Nat}
def rStBy (ds : List PyData) (d : PyData) : Prop := ∃ (cells : List Int) (seed : Int), ds = [.list (cells.map .int), .int seed] ∧ cells.length ≤ 60 ∧ d = enc (stBy cells seed)
theorem ok_stBy {kn ks : Nat} (F : FnP K "_law_statement_by" sStBy f fd) (GN : FnG P w K mg base tb "_law_name_by" ["_law_seed", "_law_k"] kn rName) (GS : FnG P w K mg base tb "_law_step" ["_law_pile", "_law_cell", "_law_seed"] ks rStep)
    (ml : mg "len" = none) (h1 : kn ≤ k) (h2 : ks ≤ k) : FnOk P w K mg base CX0 (k + 1) f fd ["_law_cells", "_law_seed"] (spD K tb 2 rStBy) := by
  refine fn_ok F scStBy (by decide) ?_
  rintro ds d ⟨cells, seed, rfl, hl, rfl⟩ A outer s H E hr
  have nd := scStBy.nd
  have pl := pileOf_pl seed cells
  have plen := pileOf_len seed cells
  refine bd_cons (sd_set 2 ((ed_lst ad_nil (by decide)).is (g := .list (([] : List S).map enc)) rfl) nd) ?_
  -- the cells, one by one
  refine bd_cons (es := [.dat (.list (cells.map .int)), .dat (.int seed), .dat (.list ((pileOf seed cells).map enc)), .no]) ?_ ?_
  · refine (sd_for (items := cells.map .int) 3 (fun i => [.dat (.list (cells.map .int)), .dat (.int seed), .dat (.list (((cells.take i).foldl (stepP seed) []).map enc)), .no]) PassesOwn.never rfl (id_list (ed_var 0)) nd rfl (fun i d e => ?_)).is ?_
    · rw [List.getElem?_map] at e
      cases q : cells[i]? with
      | none =>
        rw [q] at e
        cases e
      | some c =>
        rw [q] at e
        cases e
        have hi := (List.getElem?_eq_some_iff.mp q).1
        have tk : cells.take (i + 1) = cells.take i ++ [c] := by rw [List.take_add_one, q] <;> rfl
        have ln := fold_len seed (cells.take i) []
        rw [List.length_nil, List.length_take] at ln
        rw [tk, List.foldl_append]
        exact bd_wk (bd_cons (sd_set 2 (ed_call GS (hr.mono h2) (ad_cons (ed_var 2) (ad_cons (ed_var 3) (ad_cons (ed_var 1) ad_nil))) ⟨_, _, _, rfl, by omega, rfl⟩) nd) bd_nil) (.same _ (.same _ (.same _ (.no _ .nil))))
    · rw [List.length_map, List.take_length]
      rfl
  -- thens from the right
  generalize hp : pileOf seed cells = p at pl plen
  refine bd_cons (es := [.dat (.list (cells.map .int)), .dat (.int seed), .dat (.list ((thens (p.length - 1) p).map enc)), .no]) ?_ ?_
  · refine sd_while (p.length - 1) (fun i => [.dat (.list (cells.map .int)), .dat (.int seed), .dat (.list ((thens i p).map enc)), .no]) PassesOwn.never rfl (fun i hi => ⟨?_, ?_⟩) ?_
    · have l := thens_len p i (by omega)
      exact (td_cmpD (ed_len ml (ed_var 2) (by walk_at "len")) ed_int (by walk_at "cmp")).is (decide_eq_true (by omega))
    · have l := thens_len p i (by omega)
      refine (bd_cons (sd_set 2 (ed_bin ((ed_slc (ed_var 2) od_none (od_some (ed_neg ed_int)) slc_lm).is (g := .list (((thens i p).take ((thens i p).length - 2)).map enc)) (by rw [cut_init2])) ((ed_lst (ad_cons (ed_tup (ad_cons ed_str (ad_cons (ed_item (ed_var 2) (ed_neg ed_int) (item_lm (atI_two (by omega)))) (ad_cons (ed_item (ed_var 2) (ed_neg ed_int) (item_lm (getLastD_last (by omega)))) ad_nil))) (by simp)) ad_nil) (by simp)).is (g := .list (([S.bin .thn ((thens i p).getD ((thens i p).length - 2) .fls) ((thens i p).getLastD .fls)] : List S).map enc)) rfl) (bin_catm (by simp; omega))) nd)
        bd_nil).is ?_
      rfl
    · refine (td_cmpD (ed_len ml (ed_var 2) (by walk_at "len")) ed_int (by walk_at "cmp")).is (decide_eq_false ?_)
      by_cases h : 0 < p.length
      · have l := thens_len p (p.length - 1) (by omega)
        omega
      · have e : p = [] := List.eq_nil_of_length_eq_zero (by omega)
        rw [e]
        decide
  have qs : Pl cells.length (thens (p.length - 1) p) := by
    by_cases h : 0 < p.length
    · exact thens_pl pl _ (by omega)
    · have e : p = [] := List.eq_nil_of_length_eq_zero (by omega)
      rw [e] at pl ⊢
      exact pl
  have ll : (thens (p.length - 1) p).length ≤ 1 := by
    by_cases h : 0 < p.length
    · have l := thens_len p (p.length - 1) (by omega)
      omega
    · have e : p = [] := List.eq_nil_of_length_eq_zero (by omega)
      rw [e]
      decide
  have es : stBy cells seed = match thens (p.length - 1) p with
      | [] => .nm (nameBy seed 0)
      | s :: _ => s := by
    unfold stBy
    rw [hp] <;> rfl
  rw [es]
  generalize thens (p.length - 1) p = q at qs ll
  refine (bd_if (td_cmpD (ed_var 2) (ed_lst ad_nil (by decide)) (cmp_eqD hr (encs_shaped qs.2 (by have := qs.1; omega)) (by decide))) (fun h =>
    (bd_left ((sd_ret (ed_tup (ad_cons ed_str (ad_cons (ed_call GN (hr.mono h1) (ad_cons (ed_var 1) (ad_cons ed_int ad_nil)) ⟨_, _, rfl, by decide, by decide, rfl⟩) ad_nil)) (by simp))).is ?_))) rfl fun h => ?_)
  · rw [eqv_nil] at h
    cases q with
    | nil => rfl
    | cons s r => cases h
  · rw [eqv_nil] at h
    cases q with
    | nil => cases h
    | cons s r => exact bd_left (sd_ret (ed_item (ed_var 2) ed_int (item_l (xs := enc s :: r.map enc) (f := enc s) (atI_nat (j := 0) rfl))))
end
end K1
namespace K1
open PySem PySem.Spec PyProof.Rows L2 DL LM RM
local macro_rules | `(tactic| walk_at "side") => `(tactic| first | assumption | decide | omega | (simp; done) | (simp; omega))
local macro_rules | `(tactic| walk_at "bin") => `(tactic| first | exact bin_add | exact bin_sub | exact bin_mul (by walk_at "side") | exact bin_fdiv (by walk_at "side") | exact bin_mod (by walk_at "side") | exact bin_catm (by walk_at "side") | exact bin_cat (by walk_at "side") | exact bin_addS (by walk_at "side"))
local macro_rules | `(tactic| walk_at "cmp") => `(tactic| first | exact cmp_lt | exact cmp_le | exact cmp_gt | exact cmp_ge | exact cmp_eqI | exact cmp_neI | exact cmp_eqS | exact cmp_neS | exact cmp_eqB | exact cmp_neB | exact cmp_isN | exact cmp_notN)
local macro_rules | `(tactic| walk_at "slc") => `(tactic| first | exact slc_lm | exact slc_l | exact slc_s (by walk_at "side"))
local macro_rules | `(tactic| walk_at "len") => `(tactic| first | exact len_lm | exact len_l rfl | exact len_t rfl | exact len_s (by walk_at "side"))
local macro_rules | `(tactic| walk_at "room") => `(tactic| exact Room.mono (by assumption) (by decide))
abbrev sIsNm : Stmt := (topS 4)
theorem scIsNm : FnScope ["thing"] ["thing"] (defScope sIsNm) := ⟨rfl, rfl, rfl, by decide +kernel, rfl, by decide +kernel, by decide +kernel⟩
section
variable {P : Program} {w : World} {K : PySem.W.Frag} {mg : Str → Option Value} {base : Heap} {f : Addr} {fd : FuncData} {tb : List Addr} {k : Nat}
def szD : PyData → Prop
  | .str z => z.length ≤ 16000000
  | _ => True
def rIsNm (ds : List PyData) (d : PyData) : Prop := ∃ e : PyData, ds = [e] ∧ szD e ∧ d = .bool (isNmD e)
theorem ok_isNm {C Pt : Addr} (F : FnP K "is_name" sIsNm f fd) (hP : Pt ∈ tb) (TB : GxR.TabB base mg C Pt) (hcode : fd.code = .ref C) (ml : mg "len" = none) (mi : mg "isinstance" = none) (ms : mg "str" = none) (ma : mg "all" = none) (mL : ∃ t, mg "LONGEST_NAME" = some (.int 8 t)) :
    FnOk P w K mg base CX0 (k + 1) f fd ["thing"] (spD K tb 1 rIsNm) := by
  refine fn_ok F scIsNm (by decide) ?_
  rintro ds d ⟨e, rfl, hz, rfl⟩ A outer s H E hr
  have other : (tyD e == "str") = false → isNmD e = false → kitB (tyD e) "str" = some false → PBd (cxOf CX0 P w K mg base ["thing"] "is_name" (defScope sIsNm) f fd.code A outer s H E).nox tb W0 (defBody sIsNm) (sd ["thing"] [e]) (.rt (.bool (isNmD e))) := fun h1 h2 h3 => by
    rw [h2]
    exact (bd_if (PWd.pt (wd_ort (td_not (td_val (ed_isi (T := "str") h3 mi ms (ed_var 0)))))) (fun h => bd_left (sd_ret ed_bl)) rfl fun h => nomatch h)
  cases e with
  | str z =>
    have hz' : z.length ≤ 16000000 := hz
    refine (bd_if (PWd.pt (wd_or2 (td_not (td_val (ed_isi (T := "str") (k := true) (d := .str z) (by show kitB "str" "str" = some true; decide +kernel) mi ms (ed_var 0)))) fun hw => (wd_or1 (td_not (td_chain ed_int (ed_len ml (ed_var 0) (by walk_at "len")) (ed_gInt mL) (by walk_at "cmp") (by walk_at "cmp")))))) (fun h => bd_left ((sd_ret ed_bl).is ?_)) rfl fun h => ?_)
    · show Out.rt (.bool false) = .rt (.bool (isNm z))
      have h' : (decide ((1 : Int) ≤ (z.length : Int)) && decide ((z.length : Int) ≤ 8)) = false := by
        rw [Bool.not_true, Bool.false_or] at h
        revert h
        cases (decide ((1 : Int) ≤ (z.length : Int)) && decide ((z.length : Int) ≤ 8)) <;> intro h
        · rfl
        · cases h
      have e1 : decide ((1 : Int) ≤ (z.length : Int)) = decide (1 ≤ z.length) := decide_eq_decide.mpr (by omega)
      have e2 : decide ((z.length : Int) ≤ 8) = decide (z.length ≤ 8) := decide_eq_decide.mpr (by omega)
      rw [e1, e2] at h'
      unfold isNm
      rw [h'] <;> rfl
    · have h' : (decide ((1 : Int) ≤ (z.length : Int)) && decide ((z.length : Int) ≤ 8)) = true := by simpa using h
      have e1 : decide ((1 : Int) ≤ (z.length : Int)) = decide (1 ≤ z.length) := decide_eq_decide.mpr (by omega)
      have e2 : decide ((z.length : Int) ≤ 8) = decide (z.length ≤ 8) := decide_eq_decide.mpr (by omega)
      rw [e1, e2] at h'
      refine bd_left ((sd_ret (ed_allS hP hr ma TB hcode ⟨rfl, rfl, by decide +kernel, rfl, rfl, fun y hy e => absurd e (by revert y; decide +kernel)⟩ (ed_var 0) (elt_low rfl rfl))).is ?_)
      show _ = Out.rt (.bool (isNm z))
      unfold isNm
      rw [h'] <;> rfl
  | none => exact other rfl rfl (by decide +kernel)
  | bool b => exact other rfl rfl (by show kitB "bool" "str" = some false; decide +kernel)
  | int b => exact other rfl rfl (by show kitB "int" "str" = some false; decide +kernel)
  | list b => exact other rfl rfl (by show kitB "list" "str" = some false; decide +kernel)
  | tuple b => exact other rfl rfl (by show kitB "tuple" "str" = some false; decide +kernel)
  | dict b => exact other rfl rfl (by show kitB "dict" "str" = some false; decide +kernel)
end
end K1
namespace K1
open PySem PySem.Spec PyProof.Rows L2
def dD (x : Str) (i : Nat) : He.DefD := ⟨(x, none), x, x, defArgs (topS i), defBody (topS i), defScope (topS i), [], []⟩
def dM (c x q : Str) (j i : Nat) : He.DefD := ⟨(c, some x), x, q, defArgs (inClass (topS j) i), defBody (inClass (topS j) i), defScope (inClass (topS j) i), [], []⟩
def fn : List He.DefD := [dD "is_name" 4, dD "is_statement" 5, dD "beginning" 7, dD "is_formed" 8, dD "halves" 9, dD "level_below" 10, dD "_law_cell_at" 12, dD "_law_name_by" 13, dD "_law_joined" 14, dD "_law_step" 15, dD "_law_statement_by" 16, dD "_law_is_name" 17, dD "_law_is" 18, dD "_law_wrong_name" 19, dD "_law_wrong" 20, dD "_law_changed" 21, dD "_law_chain" 22, dD "law" 23, dM "Shelf" "__init__" "Shelf.__init__" 6 0, dM "Shelf" "number" "Shelf.number" 6 1, dM "Shelf" "takes" "Shelf.takes" 6 2]
def fa : List He.Fa := [.glo "is_name", .glo "is_statement", .glo "beginning", .glo "is_formed", .glo "halves", .glo "level_below", .glo "_law_cell_at", .glo "_law_name_by", .glo "_law_joined", .glo "_law_step", .glo "_law_statement_by", .glo "_law_is_name", .glo "_law_is", .glo "_law_wrong_name", .glo "_law_wrong", .glo "_law_changed", .glo "_law_chain", .glo "law", .int "LONGEST_NAME" 8, .int "DEEPEST" 30, .free "len", .free "isinstance", .free "str", .free "tuple", .free "all", .free "range", .free "list", .free "bool", .glo "Shelf", .glo "JOINING", .cls "Shelf", .noat "Shelf" "rows", .noat "Shelf" "things", .meth "Shelf" "takes", .meth "Shelf" "number", .mkr "Shelf"]
def ts : List He.Tab := []
def tf : List He.Defn := [("is_name", none), ("is_statement", none)]

def ex (K : PySem.W.Frag) : Bool := He.tupB K "JOINING" [.str "and", .str "or", .str "then"]
abbrev R : PySem.W.OpenRow := PySem.W.OpenLaw.row PySem.Challenge.rw_showtree_k01_statements_told
abbrev hk : PySem.W.Hook := He.hookX 6 fa fn ts tf ex
def ob (s : PySem.W.SharedT) : He.AlX := He.obsX 6 fa fn ts tf ex (HandSHeadRun.getT s)
theorem ob_eq (s : PySem.W.SharedT) : ob s = hk.obs s.abs := He.obsX_eq (HandSHeadRun.getT_eq s)
def names : List Str := ["LONGEST_NAME", "DEEPEST", "JOINING", "is_name", "is_statement", "Shelf", "beginning", "is_formed", "halves", "level_below", "_law_cell_at", "_law_name_by", "_law_joined", "_law_step", "_law_statement_by", "_law_is_name", "_law_is", "_law_wrong_name", "_law_wrong", "_law_changed", "_law_chain"]
theorem run (w : World) : HandSHeadRun.RunEq R (PySem.W.view R.prog [23]) hk ob 2000 names w :=
  PySem.W.byRow2 "special-get-raises" (P := fun w => HandSHeadRun.RunEq R (PySem.W.view R.prog [23]) hk ob 2000 names w) (fun w => by
    intro os
    kernel_rfl) (fun w => by
    intro os
    kernel_rfl) w
end K1
namespace K1
open PySem PySem.Spec PyProof.Rows L2 DL LM RM PK
local macro_rules | `(tactic| walk_at "side") => `(tactic| first | assumption | decide | omega | (simp; done) | (simp; omega))
local macro_rules | `(tactic| walk_at "bin") => `(tactic| first | exact bin_add | exact bin_sub | exact bin_mul (by walk_at "side") | exact bin_fdiv (by walk_at "side") | exact bin_mod (by walk_at "side") | exact bin_catm (by walk_at "side") | exact bin_cat (by walk_at "side") | exact bin_addS (by walk_at "side"))
local macro_rules | `(tactic| walk_at "cmp") => `(tactic| first | exact cmp_lt | exact cmp_le | exact cmp_gt | exact cmp_ge | exact cmp_eqI | exact cmp_neI | exact cmp_eqS | exact cmp_neS | exact cmp_eqB | exact cmp_neB | exact cmp_isN | exact cmp_notN)
local macro_rules | `(tactic| walk_at "slc") => `(tactic| first | exact slc_lm | exact slc_l | exact slc_s (by walk_at "side"))
local macro_rules | `(tactic| walk_at "len") => `(tactic| first | exact len_lm | exact len_l rfl | exact len_t rfl | exact len_s (by walk_at "side"))
local macro_rules | `(tactic| walk_at "room") => `(tactic| exact Room.mono (by assumption) (by decide))
abbrev sFormed : Stmt := (topS 8)
abbrev sHalves : Stmt := (topS 9)
abbrev nFormed : List Str := ["thing", "word"]
theorem scFormed : FnScope nFormed ["thing"] (defScope sFormed) := ⟨rfl, rfl, rfl, by decide +kernel, rfl, by decide +kernel, by decide +kernel⟩
theorem scHalves : FnScope ["formed"] ["formed"] (defScope sHalves) := ⟨rfl, rfl, rfl, by decide +kernel, rfl, by decide +kernel, by decide +kernel⟩
def joinW : List Str := ["and", "or", "then"]
section
variable {P : Program} {w : World} {K : PySem.W.Frag} {mg : Str → Option Value} {base : Heap} {f : Addr} {fd : FuncData} {tb : List Addr} {k : Nat}
/-- the module's tuple JOINING -/
structure Joins (K : PySem.W.Frag) (mg : Str → Option Value) : Prop where
  ex : ∃ A : Addr, mg "JOINING" = some (.ref A) ∧ ∀ Hd, Dp K Hd (.ref A) (.tuple (joinW.map .str))
theorem join_shaped : SeqAt.shaped (.tuple (joinW.map .str)) = true := by decide +kernel
theorem str_shaped {z : Str} (h : PyData.strOk z = true) : SeqAt.shaped (.str z) = true := by
  unfold SeqAt.shaped
  rw [show PyData.canLay0 (.str z) = true by rw [PyData.canLay0]; exact h, decide_eq_true (show PyData.depth (.str z) ≤ 64 by rw [PyData.depth]; decide)] <;> rfl
theorem eqv_flip {d : PyData} {z : Str} : PyData.eqv (.str z) d = wordIs d z := by
  unfold wordIs
  rw [Bool.eq_iff_iff, eqv_str_l]
  constructor
  · intro h
    cases d with
    | str x =>
      have h : (z == x) = true := h
      rw [beq_iff_eq.mp h]
    | _ => cases h
  · intro h
    rw [h]
    exact beq_self_eq_true z
theorem join_any (d : PyData) : ((joinW.map PyData.str).any fun z => PyData.eqv z d) = joinD d := by
  show (PyData.eqv (.str "and") d || (PyData.eqv (.str "or") d || (PyData.eqv (.str "then") d || false))) = _
  rw [eqv_flip, eqv_flip, eqv_flip, Bool.or_false] <;> rfl
/-- a word is one word alone -/
theorem word_one {d : PyData} {x y : Str} (h : wordIs d x = true) (n : ¬ x = y) : wordIs d y = false := by
  cases q : wordIs d y with
  | false => rfl
  | true =>
    have e1 := eqv_str_l.mp h
    have e2 := eqv_str_l.mp q
    rw [e1] at e2
    cases e2
    exact absurd rfl n
theorem join_no {d : PyData} {x : Str} (h : wordIs d x = true) (n : x ∉ joinW) : joinD d = false := by
  have n1 : ¬ x = "and" := fun q => n (by rw [q]; exact .head _)
  have n2 : ¬ x = "or" := fun q => n (by rw [q]; exact .tail _ (.head _))
  have n3 : ¬ x = "then" := fun q => n (by rw [q]; exact .tail _ (.tail _ (.head _)))
  unfold joinD
  rw [word_one h n1, word_one h n2, word_one h n3] <;> rfl
theorem f_name1 {v x : PyData} (h : wordIs v "name" = true) : formedD (.tuple [v, x]) = isNmD x := by
  show (wordIs v "name" && isNmD x) = _
  rw [h] <;> rfl
theorem f_name0 {v : PyData} {r : List PyData} (h : wordIs v "name" = true) (hl : r.length ≠ 1) : formedD (.tuple (v :: r)) = false := by
  match r, hl with
  | [], _ => exact word_one h (by decide +kernel)
  | [_], hl => exact absurd rfl hl
  | [_, _], _ => exact join_no h (by decide +kernel)
  | _ :: _ :: _ :: _, _ => rfl
theorem f_false {v : PyData} {r : List PyData} (h : wordIs v "false" = true) : formedD (.tuple (v :: r)) = decide (((r.length + 1 : Nat) : Int) = 1) := by
  match r with
  | [] => exact h
  | [x] =>
    show (wordIs v "name" && isNmD x) = _
    rw [word_one h (by decide +kernel)] <;> rfl
  | [_, _] =>
    show joinD v = _
    rw [join_no h (by decide +kernel)] <;> rfl
  | _ :: _ :: _ :: r =>
    symm
    refine decide_eq_false ?_
    show ¬ ((r.length + 1 + 1 + 1 + 1 : Nat) : Int) = 1
    omega
theorem f_else {v : PyData} {r : List PyData} (h1 : wordIs v "name" = false) (h2 : wordIs v "false" = false) (hl : r.length ≠ 2) : formedD (.tuple (v :: r)) = false := by
  match r, hl with
  | [], _ => exact h2
  | [x], _ =>
    show (wordIs v "name" && isNmD x) = _
    rw [h1] <;> rfl
  | [_, _], hl => exact absurd rfl hl
  | _ :: _ :: _ :: _, _ => rfl
def rFormedD (ds : List PyData) (d : PyData) : Prop := ∃ (e : PyData) (n : Nat), ds = [e] ∧ n ≤ 62 ∧ Fn n e ∧ d = .bool (formedD e)
theorem ok_formed {kn : Nat} (F : FnP K "is_formed" sFormed f fd) (G : FnG P w K mg base tb "is_name" ["thing"] kn rIsNm) (T : Joins K mg) (ml : mg "len" = none) (mi : mg "isinstance" = none) (mt : mg "tuple" = none) (h1 : kn ≤ k) : FnOk P w K mg base CX0 (k + 1) f fd ["thing"] (spD K tb 1 rFormedD) := by
  obtain ⟨A0, gJ, hJ⟩ := T.ex
  refine fn_ok F scFormed (by decide) ?_
  rintro ds d ⟨e, n, rfl, hn, hf, rfl⟩ A outer s' H E hr
  have nd := scFormed.nd
  have other : kitB (tyD e) "tuple" = some false → formedD e = false → PBd (cxOf CX0 P w K mg base nFormed "is_formed" (defScope sFormed) f fd.code A outer s' H E).nox tb W0 (defBody sFormed) (sd nFormed [e]) (.rt (.bool (formedD e))) := fun h1 h2 => by
    rw [h2]
    exact (bd_if (k := true) (PWd.pt (wd_ort (td_not (k := false) (td_val (ed_isi (T := "tuple") h1 mi mt (ed_var 0)))))) (fun h => bd_left (sd_ret ed_bl)) rfl fun h => nomatch h)
  cases e with
  | tuple xs =>
    cases xs with
    | nil => exact (bd_if (k := true) (PWd.pt (wd_orf (td_not (k := true) (td_val (ed_isi (T := "tuple") (d := .tuple []) (k := true) (by show kitB "tuple" "tuple" = some true; decide +kernel) mi mt (ed_var 0)))) (wd_or1 ((td_cmpD (ed_len (n := 0) ml (ed_var 0) (len_t rfl)) ed_int cmp_eqI).is (by decide))))) (fun h => bd_left ((sd_ret ed_bl).is rfl)) rfl fun h => nomatch h)
    | cons v r =>
      obtain ⟨m, rfl⟩ := hf.pos
      have fv : Fn m v := hf.mem List.mem_cons_self
      have shv := fv.shaped (by omega)
      have l1 : ((r.length + 1 : Nat) : Int) ≠ 0 := by omega
      refine (bd_if (k := false) (PWd.pt (wd_orf (td_not (k := true) (td_val (ed_isi (T := "tuple") (d := .tuple (v :: r)) (k := true) (by show kitB "tuple" "tuple" = some true; decide +kernel) mi mt (ed_var 0)))) (wd_or1 ((td_cmpD (ed_len (n := r.length + 1) ml (ed_var 0) (len_t rfl)) ed_int cmp_eqI).is (decide_eq_false l1))))) (fun h => nomatch h) rfl fun h => ?_)
      refine bd_cons (sd_set 1 (ed_item (d := .tuple (v :: r)) (f := v) (ed_var 0) ed_int (item_t (atI_nat (j := 0) rfl))) nd) ?_
      refine (bd_if (k := wordIs v "name") (td_cmpD (ed_var 1) ed_str (cmp_eqD hr shv (by decide +kernel))) (fun h => ?_) rfl fun h => ?_)
      · by_cases hl : r.length = 1
        · obtain ⟨x, rfl⟩ := List.length_eq_one_iff.mp hl
          have fx : Fn m x := hf.mem (.tail _ (.head _))
          rw [f_name1 h]
          exact bd_left (sd_ret (ed_and (k := true) (ed_cmpD (k := true) (ed_len (n := 2) ml (ed_var 0) (len_t rfl)) ed_int (cmp_eqI.is (by decide))) (fun hv => (ed_one (ed_call G (hr.mono h1) (ad_cons (ed_item (d := .tuple [v, x]) (f := x) (ed_var 0) ed_int (item_t (atI_nat (j := 1) rfl))) ad_nil) ⟨x, rfl, (by cases x <;> first | exact trivial | exact fx.sz _ rfl), rfl⟩))) (fun z => nomatch z)))
        · rw [f_name0 h hl]
          have l2 : ((r.length + 1 : Nat) : Int) ≠ 2 := by omega
          exact bd_left (sd_ret (ed_and (k := false) (ed_cmpD (k := false) (ed_len (n := r.length + 1) ml (ed_var 0) (len_t rfl)) ed_int (cmp_eqI.is (decide_eq_false l2))) (fun hv => nomatch hv) (fun z => rfl)))
      · refine (bd_if (k := wordIs v "false") (td_cmpD (ed_var 1) ed_str (cmp_eqD hr shv (by decide +kernel))) (fun h2 => ?_) rfl fun h2 => ?_)
        · rw [f_false h2]
          exact bd_left (sd_ret (ed_cmpD (ed_len (n := r.length + 1) ml (ed_var 0) (len_t rfl)) ed_int cmp_eqI))
        · by_cases hl : r.length = 2
          · obtain ⟨x, y, rfl⟩ : ∃ x y, r = [x, y] := by
              match r, hl with
              | [x, y], _ => exact ⟨x, y, rfl⟩
            show PBd _ _ _ _ _ (.rt (.bool (joinD v)))
            exact bd_left (sd_ret (ed_and (k := true) (ed_cmpD (k := true) (ed_len (n := 3) ml (ed_var 0) (len_t rfl)) ed_int (cmp_eqI.is (by decide))) (fun hv => (ed_one (ed_cmpD (ed_var 1) (ed_gRef gJ hJ) (CmpD.is (cmp_inDT hr shv join_shaped) (join_any v)) (by rfl)))) (fun z => nomatch z)))
          · rw [f_else h h2 hl]
            have l3 : ((r.length + 1 : Nat) : Int) ≠ 3 := by omega
            exact bd_left (sd_ret (ed_and (k := false) (ed_cmpD (k := false) (ed_len (n := r.length + 1) ml (ed_var 0) (len_t rfl)) ed_int (cmp_eqI.is (decide_eq_false l3))) (fun hv => nomatch hv) (fun z => rfl)))
  | none => exact other (by show kitB "NoneType" "tuple" = some false; decide +kernel) rfl
  | bool b => exact other (by show kitB "bool" "tuple" = some false; decide +kernel) rfl
  | int b => exact other (by show kitB "int" "tuple" = some false; decide +kernel) rfl
  | str b => exact other (by show kitB "str" "tuple" = some false; decide +kernel) rfl
  | list b => exact other (by show kitB "list" "tuple" = some false; decide +kernel) rfl
  | dict b => exact other (by show kitB "dict" "tuple" = some false; decide +kernel) rfl
end
end K1
namespace K1
open PySem PySem.Spec PyProof.Rows L2 DL LM RM PK
local macro_rules | `(tactic| walk_at "side") => `(tactic| first | assumption | decide | omega | (simp; done) | (simp; omega))
local macro_rules | `(tactic| walk_at "bin") => `(tactic| first | exact bin_add | exact bin_sub | exact bin_mul (by walk_at "side") | exact bin_fdiv (by walk_at "side") | exact bin_mod (by walk_at "side") | exact bin_catm (by walk_at "side") | exact bin_cat (by walk_at "side") | exact bin_addS (by walk_at "side"))
local macro_rules | `(tactic| walk_at "cmp") => `(tactic| first | exact cmp_lt | exact cmp_le | exact cmp_gt | exact cmp_ge | exact cmp_eqI | exact cmp_neI | exact cmp_eqS | exact cmp_neS | exact cmp_eqB | exact cmp_neB | exact cmp_isN | exact cmp_notN)
local macro_rules | `(tactic| walk_at "slc") => `(tactic| first | exact slc_lm | exact slc_l | exact slc_s (by walk_at "side"))
local macro_rules | `(tactic| walk_at "len") => `(tactic| first | exact len_lm | exact len_l rfl | exact len_t rfl | exact len_s (by walk_at "side"))
local macro_rules | `(tactic| walk_at "room") => `(tactic| exact Room.mono (by assumption) (by decide))
abbrev sLIsNm : Stmt := (topS 17)
abbrev sLIs : Stmt := (topS 18)
abbrev nLIsNm : List Str := ["_law_thing", "_law_sign"]
theorem scLIsNm : FnScope nLIsNm ["_law_thing"] (defScope sLIsNm) := ⟨rfl, rfl, rfl, by decide +kernel, rfl, by decide +kernel, by decide +kernel⟩
theorem scLIs : FnScope ["_law_thing", "_law_room"] ["_law_thing", "_law_room"] (defScope sLIs) := ⟨rfl, rfl, rfl, by decide +kernel, rfl, by decide +kernel, by decide +kernel⟩
section
variable {P : Program} {w : World} {K : PySem.W.Frag} {mg : Str → Option Value} {base : Heap} {f : Addr} {fd : FuncData} {tb : List Addr} {k : Nat}
theorem isNm_len {z : Str} (h : z.length < 1 ∨ 8 < z.length) : isNm z = false := by
  unfold isNm
  rcases h with h | h
  · rw [decide_eq_false (show ¬ 1 ≤ z.length by omega)] <;> rfl
  · rw [decide_eq_false (show ¬ z.length ≤ 8 by omega), Bool.and_false] <;> rfl
theorem filter_low (l : List Nat) : (l.filter fun c => !low c).isEmpty = l.all low := by
  induction l with
  | nil => rfl
  | cons c r ih =>
    rw [List.filter_cons, List.all_cons]
    cases q : low c with
    | true => exact ih
    | false => rfl
def rLIsNm (ds : List PyData) (d : PyData) : Prop := ∃ (e : PyData) (n : Nat), ds = [e] ∧ Fn n e ∧ d = .bool (isNmD e)
theorem lc_test {X : Cx} {c : Expr} {ds : List Sl} {kk : Bool} (h : PTd X tb c ds kk) : ∃ t, PTs X [c] t ∧ EvT X.K tb t ds kk := let ⟨t, p, q⟩ := h; ⟨t, pts_one p, q⟩
theorem signs_shaped {l : List Nat} (h : ∀ c ∈ l, c < 0x110000) : SeqAt.shaped (.list (l.map fun c => PyData.str ⟨#[c]⟩)) = true := by
  have e1 : ∀ l : List Nat, (∀ c ∈ l, c < 0x110000) → PyData.canLayAll0 (l.map fun c => PyData.str ⟨#[c]⟩) = true ∧ PyData.depthAll (l.map fun c => PyData.str ⟨#[c]⟩) ≤ 1 := fun l => by
    induction l with
    | nil => exact fun _ => ⟨rfl, Nat.zero_le _⟩
    | cons c r ih =>
      intro hl
      obtain ⟨h1, h2⟩ := ih fun x hx => hl x (List.mem_cons_of_mem _ hx)
      refine ⟨?_, ?_⟩
      · rw [List.map_cons, PyData.canLayAll0, h1, Bool.and_true, PyData.canLay0]
        unfold PyData.strOk
        rw [← Array.all_toList]
        show (decide (c < 0x110000) && true) = true
        rw [decide_eq_true (hl c List.mem_cons_self)] <;> rfl
      · rw [List.map_cons, PyData.depthAll, PyData.depth]
        omega
  obtain ⟨h1, h2⟩ := e1 l h
  unfold SeqAt.shaped
  rw [show PyData.canLay0 (.list (l.map fun c => PyData.str ⟨#[c]⟩)) = true by rw [PyData.canLay0]; exact h1, decide_eq_true (show PyData.depth (.list (l.map fun c => PyData.str ⟨#[c]⟩)) ≤ 64 by rw [PyData.depth]; omega)] <;> rfl
theorem ok_lisNm (F : FnP K "_law_is_name" sLIsNm f fd) (ml : mg "len" = none) (mi : mg "isinstance" = none) (ms : mg "str" = none) : FnOk P w K mg base CX0 (k + 1) f fd ["_law_thing"] (spD K tb 1 rLIsNm) := by
  refine fn_ok F scLIsNm (by decide) ?_
  rintro ds d ⟨e, n, rfl, hf, rfl⟩ A outer s H E hr
  have nd := scLIsNm.nd
  have other : isNmD e = false → kitB (tyD e) "str" = some false → PBd (cxOf CX0 P w K mg base nLIsNm "_law_is_name" (defScope sLIsNm) f fd.code A outer s H E).nox tb W0 (defBody sLIsNm) (sd nLIsNm [e]) (.rt (.bool (isNmD e))) := fun h2 h3 => by
    rw [h2]
    exact (bd_if (k := true) (PWd.pt (wd_ort (td_not (k := false) (td_val (ed_isi (T := "str") h3 mi ms (ed_var 0)))))) (fun h => bd_left (sd_ret ed_bl)) rfl fun h => nomatch h)
  cases e with
  | str z =>
    have hz' : z.length ≤ 16000000 := hf.sz z rfl
    have hlay : PyData.strOk z = true := by
      have := hf.lay
      rw [PyData.canLay0] at this
      exact this
    refine (bd_if (PWd.pt (wd_orf (td_not (k := true) (td_val (ed_isi (T := "str") (k := true) (d := .str z) (by show kitB "str" "str" = some true; decide +kernel) mi ms (ed_var 0)))) (wd_or2 (td_cmpD (ed_len ml (ed_var 0) (by walk_at "len")) ed_int (by walk_at "cmp")) fun hw => (wd_or1 (td_cmpD (ed_len ml (ed_var 0) (by walk_at "len")) ed_int (by walk_at "cmp")))))) (fun h => ?_) rfl fun h => ?_)
    · rw [Bool.or_eq_true, decide_eq_true_eq, decide_eq_true_eq] at h
      exact bd_left ((sd_ret ed_bl).is (by show _ = Out.rt (.bool (isNm z)); rw [isNm_len (by omega)] <;> rfl))
    · rw [Bool.or_eq_false_iff, decide_eq_false_iff_not, decide_eq_false_iff_not] at h
      have e1 : isNm z = (z.cps.toList.filter fun c => !low c).isEmpty := by
        rw [filter_low]
        unfold isNm
        rw [decide_eq_true (show 1 ≤ z.length by omega), decide_eq_true (show z.length ≤ 8 by omega)] <;> rfl
      show PBd _ _ _ _ _ (.rt (.bool (isNm z)))
      rw [e1]
      have zl := str_len z
      refine bd_left (sd_ret (ed_cmpD (d := .list ((z.cps.toList.filter fun c => !low c).map fun c => PyData.str ⟨#[c]⟩)) (ed_lcX 1 z.cps.toList (fun c => .str ⟨#[c]⟩) (fun c => .str ⟨#[c]⟩) (fun c => !low c) rfl nd (id_str (ed_var 0)) (by omega) (blkOk_by (N := nLIsNm) (sc := defScope sLIsNm) (by decide +kernel)) (fun _ _ _ _ _ => pg_name nd rfl (Or.inl rfl)) (fun c hc s2 H2 C cl fp => ?_) (fun c hc hp s2 H2 C cl fp => ed_var 1)) (ed_lst ad_nil (by decide)) (CmpD.is (cmp_eqD hr ?_ (by decide +kernel)) ?_)))
      · exact lc_test (PTd.is (td_cmpD (ed_var 1) ed_str cmp_notInS) (by rw [let_mem]))
      · refine signs_shaped fun c hc => ?_
        unfold PyData.strOk at hlay
        rw [← Array.all_toList, List.all_eq_true] at hlay
        exact of_decide_eq_true (hlay c (List.mem_filter.mp hc).1)
      · cases (z.cps.toList.filter fun c => !low c) <;> rfl
  | none => exact other rfl (by show kitB "NoneType" "str" = some false; decide +kernel)
  | bool b => exact other rfl (by show kitB "bool" "str" = some false; decide +kernel)
  | int b => exact other rfl (by show kitB "int" "str" = some false; decide +kernel)
  | list b => exact other rfl (by show kitB "list" "str" = some false; decide +kernel)
  | tuple b => exact other rfl (by show kitB "tuple" "str" = some false; decide +kernel)
  | dict b => exact other rfl (by show kitB "dict" "str" = some false; decide +kernel)
end
end K1
namespace K1
open PySem PySem.Spec PyProof.Rows L2 DL LM RM PK
local macro_rules | `(tactic| walk_at "side") => `(tactic| first | assumption | decide | omega | (simp; done) | (simp; omega))
local macro_rules | `(tactic| walk_at "bin") => `(tactic| first | exact bin_add | exact bin_sub | exact bin_mul (by walk_at "side") | exact bin_fdiv (by walk_at "side") | exact bin_mod (by walk_at "side") | exact bin_catm (by walk_at "side") | exact bin_cat (by walk_at "side") | exact bin_addS (by walk_at "side"))
local macro_rules | `(tactic| walk_at "cmp") => `(tactic| first | exact cmp_lt | exact cmp_le | exact cmp_gt | exact cmp_ge | exact cmp_eqI | exact cmp_neI | exact cmp_eqS | exact cmp_neS | exact cmp_eqB | exact cmp_neB | exact cmp_isN | exact cmp_notN)
local macro_rules | `(tactic| walk_at "slc") => `(tactic| first | exact slc_lm | exact slc_l | exact slc_s (by walk_at "side"))
local macro_rules | `(tactic| walk_at "len") => `(tactic| first | exact len_lm | exact len_l rfl | exact len_t rfl | exact len_s (by walk_at "side"))
local macro_rules | `(tactic| walk_at "room") => `(tactic| exact Room.mono (by assumption) (by decide))
section
variable {P : Program} {w : World} {K : PySem.W.Frag} {mg : Str → Option Value} {base : Heap} {f : Addr} {fd : FuncData} {tb : List Addr} {k : Nat}
def rLIs (n : Nat) (ds : List PyData) (d : PyData) : Prop := ∃ (e : PyData) (m : Nat), ds = [e, .int n] ∧ m ≤ 62 ∧ Fn m e ∧ d = .bool (isD n e)
theorem ok_lis0 (F : FnP K "_law_is" sLIs f fd) : FnOk P w K mg base CX0 (k + 1) f fd ["_law_thing", "_law_room"] (spD K tb 2 (rLIs 0)) := by
  refine fn_ok F scLIs (by decide) ?_
  rintro ds d ⟨e, m, rfl, hm, hf, rfl⟩ A outer s H E hr
  exact (bd_if (k := true) (PWd.pt (wd_ort ((td_cmpD (ed_var 1) ed_int cmp_lt).is (decide_eq_true (by decide))))) (fun h => bd_left (sd_ret ed_bl)) rfl fun h => nomatch h)
theorem join_any' (d : PyData) : (([.str "and", .str "or", .str "then"] : List PyData).any fun z => PyData.eqv z d) = joinD d := join_any d
theorem ok_lis {n kn : Nat} (F : FnP K "_law_is" sLIs f fd) (G : FnG P w K mg base tb "_law_is" ["_law_thing", "_law_room"] k (rLIs n)) (GN : FnG P w K mg base tb "_law_is_name" ["_law_thing"] kn rLIsNm) (ml : mg "len" = none) (mi : mg "isinstance" = none) (mt : mg "tuple" = none) (ms : mg "str" = none) (h1 : kn ≤ k) :
    FnOk P w K mg base CX0 (k + 1) f fd ["_law_thing", "_law_room"] (spD K tb 2 (rLIs (n + 1))) := by
  refine fn_ok F scLIs (by decide) ?_
  rintro ds d ⟨e, m, rfl, hm, hf, rfl⟩ A outer s' H E hr
  have nd := scLIs.nd
  have r1 : ¬ ((n + 1 : Nat) : Int) < 1 := by omega
  have other : kitB (tyD e) "tuple" = some false → isD (n + 1) e = false → PBd (cxOf CX0 P w K mg base ["_law_thing", "_law_room"] "_law_is" (defScope sLIs) f fd.code A outer s' H E).nox tb W0 (defBody sLIs) (sd ["_law_thing", "_law_room"] [e, .int (n + 1 : Nat)]) (.rt (.bool (isD (n + 1) e))) := fun h1 h2 => by
    rw [h2]
    exact (bd_if (k := true) (PWd.pt (wd_orf ((td_cmpD (ed_var 1) ed_int cmp_lt).is (decide_eq_false r1)) (wd_ort (td_not (k := false) (td_val (ed_isi (T := "tuple") h1 mi mt (ed_var 0))))))) (fun h => bd_left (sd_ret ed_bl)) rfl fun h => nomatch h)
  cases e with
  | tuple xs =>
    have itp : ∀ ys : List PyData, kitB (tyD (.tuple ys)) "tuple" = some true := fun _ => by show kitB "tuple" "tuple" = some true; decide +kernel
    match xs, hf with
    | [], _ => exact (bd_if (k := true) (PWd.pt (wd_orf ((td_cmpD (ed_var 1) ed_int cmp_lt).is (decide_eq_false r1)) (wd_orf (td_not (k := true) (td_val (ed_isi (T := "tuple") (d := .tuple []) (k := true) (itp _) mi mt (ed_var 0)))) (wd_or1 ((td_cmpD (ed_len (n := 0) ml (ed_var 0) (len_t rfl)) ed_int cmp_eqI).is (by decide)))))) (fun h => bd_left ((sd_ret ed_bl).is rfl)) rfl fun h => nomatch h)
    | [v], hf =>
      obtain ⟨q, rfl⟩ := hf.pos
      have fv : Fn q v := hf.mem List.mem_cons_self
      refine (bd_if (k := false) (PWd.pt (wd_orf ((td_cmpD (ed_var 1) ed_int cmp_lt).is (decide_eq_false r1)) (wd_orf (td_not (k := true) (td_val (ed_isi (T := "tuple") (d := .tuple [v]) (k := true) (itp _) mi mt (ed_var 0)))) (wd_or1 ((td_cmpD (ed_len (n := 1) ml (ed_var 0) (len_t rfl)) ed_int cmp_eqI).is (by decide)))))) (fun h => nomatch h) rfl fun h => ?_)
      refine (bd_if (k := true) ((td_cmpD (ed_len (n := 1) ml (ed_var 0) (len_t rfl)) ed_int cmp_eqI).is (by decide)) (fun h => ?_) rfl fun h => nomatch h)
      show PBd _ _ _ _ _ (.rt (.bool (wordIs v "false")))
      refine bd_left (sd_ret (ed_and (k := wordIs v "false") (ed_cmpD (ed_item (d := .tuple [v]) (f := v) (ed_var 0) ed_int (item_t (atI_nat (j := 0) rfl))) ed_str (cmp_eqD hr (fv.shaped (by omega)) (by decide +kernel))) (fun hv => ?_) (fun z => by rw [z])))
      rw [hv]
      have ev := eqv_str_l.mp hv
      exact ed_one (ed_isi (T := "str") (d := v) (k := true) (by rw [ev]; show kitB "str" "str" = some true; decide +kernel) mi ms (ed_item (d := .tuple [v]) (f := v) (ed_var 0) ed_int (item_t (atI_nat (j := 0) rfl))))
    | [v, x], hf =>
      obtain ⟨q, rfl⟩ := hf.pos
      have fv : Fn q v := hf.mem List.mem_cons_self
      have fx : Fn q x := hf.mem (.tail _ (.head _))
      refine (bd_if (k := false) (PWd.pt (wd_orf ((td_cmpD (ed_var 1) ed_int cmp_lt).is (decide_eq_false r1)) (wd_orf (td_not (k := true) (td_val (ed_isi (T := "tuple") (d := .tuple [v, x]) (k := true) (itp _) mi mt (ed_var 0)))) (wd_or1 ((td_cmpD (ed_len (n := 2) ml (ed_var 0) (len_t rfl)) ed_int cmp_eqI).is (by decide)))))) (fun h => nomatch h) rfl fun h => ?_)
      refine (bd_if (k := false) ((td_cmpD (ed_len (n := 2) ml (ed_var 0) (len_t rfl)) ed_int cmp_eqI).is (by decide)) (fun h => nomatch h) rfl fun h => ?_)
      refine (bd_if (k := true) ((td_cmpD (ed_len (n := 2) ml (ed_var 0) (len_t rfl)) ed_int cmp_eqI).is (by decide)) (fun h => ?_) rfl fun h => nomatch h)
      show PBd _ _ _ _ _ (.rt (.bool (wordIs v "name" && isNmD x)))
      refine bd_left (sd_ret (ed_and (k := wordIs v "name") (ed_cmpD (ed_item (d := .tuple [v, x]) (f := v) (ed_var 0) ed_int (item_t (atI_nat (j := 0) rfl))) ed_str (cmp_eqD hr (fv.shaped (by omega)) (by decide +kernel))) (fun hv => ?_) (fun z => by rw [z] <;> rfl)))
      rw [hv, Bool.true_and]
      exact ed_one (ed_call GN (hr.mono h1) (ad_cons (ed_item (d := .tuple [v, x]) (f := x) (ed_var 0) ed_int (item_t (atI_nat (j := 1) rfl))) ad_nil) ⟨x, q, rfl, fx, rfl⟩)
    | [v, a, b], hf =>
      obtain ⟨q, rfl⟩ := hf.pos
      have fv : Fn q v := hf.mem List.mem_cons_self
      have fa : Fn q a := hf.mem (.tail _ (.head _))
      have fb : Fn q b := hf.mem (.tail _ (.tail _ (.head _)))
      refine (bd_if (k := false) (PWd.pt (wd_orf ((td_cmpD (ed_var 1) ed_int cmp_lt).is (decide_eq_false r1)) (wd_orf (td_not (k := true) (td_val (ed_isi (T := "tuple") (d := .tuple [v, a, b]) (k := true) (itp _) mi mt (ed_var 0)))) (wd_or1 ((td_cmpD (ed_len (n := 3) ml (ed_var 0) (len_t rfl)) ed_int cmp_eqI).is (by decide)))))) (fun h => nomatch h) rfl fun h => ?_)
      refine (bd_if (k := false) ((td_cmpD (ed_len (n := 3) ml (ed_var 0) (len_t rfl)) ed_int cmp_eqI).is (by decide)) (fun h => nomatch h) rfl fun h => ?_)
      refine (bd_if (k := false) ((td_cmpD (ed_len (n := 3) ml (ed_var 0) (len_t rfl)) ed_int cmp_eqI).is (by decide)) (fun h => nomatch h) rfl fun h => ?_)
      show PBd _ _ _ _ _ (.rt (.bool (joinD v && (isD n a && isD n b))))
      refine (bd_if (k := !joinD v) (PWd.pt (wd_orf ((td_cmpD (ed_len (n := 3) ml (ed_var 0) (len_t rfl)) ed_int cmp_neI).is (by decide)) (wd_or1 (PTd.is (td_cmpD (ed_item (d := .tuple [v, a, b]) (f := v) (ed_var 0) ed_int (item_t (atI_nat (j := 0) rfl))) (ed_lst (ad_cons ed_str (ad_cons ed_str (ad_cons ed_str ad_nil))) (by decide)) (cmp_notInD hr (fv.shaped (by omega)) (by decide +kernel)) (by rfl)) (by rw [join_any']))))) (fun h => ?_) rfl fun h => ?_)
      · have h2 : joinD v = false := by
          cases q : joinD v with
          | false => rfl
          | true => rw [q] at h; cases h
        rw [h2]
        exact bd_left (sd_ret ed_bl)
      · have h2 : joinD v = true := by
          cases q : joinD v with
          | true => rfl
          | false => rw [q] at h; cases h
        rw [h2, Bool.true_and]
        have er : ((n + 1 : Nat) : Int) - 1 = (n : Int) := by omega
        refine bd_left (sd_ret (ed_and (k := isD n a) (ed_call G hr (ad_cons (ed_item (d := .tuple [v, a, b]) (f := a) (ed_var 0) ed_int (item_t (atI_nat (j := 1) rfl))) (ad_cons (ed_bin (ed_var 1) ed_int (by walk_at "bin")) ad_nil)) ⟨a, q, by rw [er], by omega, fa, rfl⟩) (fun hv => ?_) (fun z => by rw [z] <;> rfl)))
        rw [hv, Bool.true_and]
        exact ed_one (ed_call G hr (ad_cons (ed_item (d := .tuple [v, a, b]) (f := b) (ed_var 0) ed_int (item_t (atI_nat (j := 2) rfl))) (ad_cons (ed_bin (ed_var 1) ed_int (by walk_at "bin")) ad_nil)) ⟨b, q, by rw [er], by omega, fb, rfl⟩)
    | v :: a :: b :: c :: r, hf =>
      have n0 : ((r.length + 1 + 1 + 1 + 1 : Nat) : Int) ≠ 0 := by omega
      have n1 : ((r.length + 1 + 1 + 1 + 1 : Nat) : Int) ≠ 1 := by omega
      have n2 : ((r.length + 1 + 1 + 1 + 1 : Nat) : Int) ≠ 2 := by omega
      have n3 : ((r.length + 1 + 1 + 1 + 1 : Nat) : Int) ≠ 3 := by omega
      refine (bd_if (k := false) (PWd.pt (wd_orf ((td_cmpD (ed_var 1) ed_int cmp_lt).is (decide_eq_false r1)) (wd_orf (td_not (k := true) (td_val (ed_isi (T := "tuple") (d := .tuple (v :: a :: b :: c :: r)) (k := true) (itp _) mi mt (ed_var 0)))) (wd_or1 ((td_cmpD (ed_len (n := r.length + 1 + 1 + 1 + 1) ml (ed_var 0) (len_t rfl)) ed_int cmp_eqI).is (decide_eq_false n0)))))) (fun h => nomatch h) rfl fun h => ?_)
      refine (bd_if (k := false) ((td_cmpD (ed_len (n := r.length + 1 + 1 + 1 + 1) ml (ed_var 0) (len_t rfl)) ed_int cmp_eqI).is (decide_eq_false n1)) (fun h => nomatch h) rfl fun h => ?_)
      refine (bd_if (k := false) ((td_cmpD (ed_len (n := r.length + 1 + 1 + 1 + 1) ml (ed_var 0) (len_t rfl)) ed_int cmp_eqI).is (decide_eq_false n2)) (fun h => nomatch h) rfl fun h => ?_)
      exact (bd_if (k := true) (PWd.pt (wd_ort ((td_cmpD (ed_len (n := r.length + 1 + 1 + 1 + 1) ml (ed_var 0) (len_t rfl)) ed_int cmp_neI).is (by rw [decide_eq_false n3] <;> rfl)))) (fun h => bd_left ((sd_ret ed_bl).is rfl)) rfl fun h => nomatch h)
  | none => exact other (by show kitB "NoneType" "tuple" = some false; decide +kernel) rfl
  | bool b => exact other (by show kitB "bool" "tuple" = some false; decide +kernel) rfl
  | int b => exact other (by show kitB "int" "tuple" = some false; decide +kernel) rfl
  | str b => exact other (by show kitB "str" "tuple" = some false; decide +kernel) rfl
  | list b => exact other (by show kitB "list" "tuple" = some false; decide +kernel) rfl
  | dict b => exact other (by show kitB "dict" "tuple" = some false; decide +kernel) rfl
theorem lis_all {kn : Nat} (F : FnP K "_law_is" sLIs f fd) (hm : mg "_law_is" = some (.ref f)) (hb : Binds K fd ["_law_thing", "_law_room"] []) (GN : FnG P w K mg base tb "_law_is_name" ["_law_thing"] kn rLIsNm) (ml : mg "len" = none) (mi : mg "isinstance" = none) (mt : mg "tuple" = none) (ms : mg "str" = none) :
    ∀ n : Nat, FnG P w K mg base tb "_law_is" ["_law_thing", "_law_room"] (kn + 1 + n) (rLIs n)
  | 0 => ⟨f, fd, ok_lis0 F, hm, F.kp, hb⟩
  | n + 1 => ⟨f, fd, ok_lis F (lis_all F hm hb GN ml mi mt ms n) GN ml mi mt ms (Nat.le_trans (Nat.le_succ _) (Nat.le_add_right _ _)), hm, F.kp, hb⟩
end
end K1
namespace K1
open PySem PySem.Spec PyProof.Rows L2 DL LM RM PK
local macro_rules | `(tactic| walk_at "side") => `(tactic| first | assumption | decide | omega | (simp; done) | (simp; omega))
local macro_rules | `(tactic| walk_at "bin") => `(tactic| first | exact bin_add | exact bin_sub | exact bin_mul (by walk_at "side") | exact bin_fdiv (by walk_at "side") | exact bin_mod (by walk_at "side") | exact bin_catm (by walk_at "side") | exact bin_cat (by walk_at "side") | exact bin_addS (by walk_at "side"))
local macro_rules | `(tactic| walk_at "cmp") => `(tactic| first | exact cmp_lt | exact cmp_le | exact cmp_gt | exact cmp_ge | exact cmp_eqI | exact cmp_neI | exact cmp_eqS | exact cmp_neS | exact cmp_eqB | exact cmp_neB | exact cmp_isN | exact cmp_notN)
local macro_rules | `(tactic| walk_at "slc") => `(tactic| first | exact slc_lm | exact slc_l | exact slc_s (by walk_at "side"))
local macro_rules | `(tactic| walk_at "len") => `(tactic| first | exact len_lm | exact len_l rfl | exact len_t rfl | exact len_s (by walk_at "side"))
local macro_rules | `(tactic| walk_at "room") => `(tactic| exact Room.mono (by assumption) (by decide))
abbrev sBeg : Stmt := (topS 7)
abbrev nBeg : List Str := ["thing", "words"]
theorem scBeg : FnScope nBeg ["thing"] (defScope sBeg) := ⟨rfl, rfl, rfl, by decide +kernel, rfl, by decide +kernel, by decide +kernel⟩
section
variable {P : Program} {w : World} {K : PySem.W.Frag} {mg : Str → Option Value} {base : Heap} {f : Addr} {fd : FuncData} {tb : List Addr} {k : Nat}
theorem formed_kinds {d : PyData} (h : formedD d = true) : d = .tuple [.str "false"] ∨ (∃ y : Str, d = .tuple [.str "name", .str y] ∧ isNm y = true) ∨ isJ d = true := by
  cases d with
  | tuple xs =>
    match xs, h with
    | [], h => cases h
    | [v], h => exact .inl (by rw [eqv_str_l.mp (show PyData.eqv v (.str "false") = true from h)])
    | [v, x], h =>
      obtain ⟨h1, h2⟩ := Bool.and_eq_true_iff.mp (show (wordIs v "name" && isNmD x) = true from h)
      refine .inr (.inl ?_)
      cases x with
      | str y => exact ⟨y, by rw [eqv_str_l.mp (show PyData.eqv v (.str "name") = true from h1)], h2⟩
      | _ => cases h2
    | [v, a, b], h => exact .inr (.inr h)
    | _ :: _ :: _ :: _ :: _, h => cases h
  | _ => cases h
def rHalvesD (ds : List PyData) (d : PyData) : Prop := ∃ (e : PyData) (n : Nat), ds = [e] ∧ n ≤ 62 ∧ Fn n e ∧ formedD e = true ∧ d = .list (halvesD e)
theorem ok_halves (F : FnP K "halves" sHalves f fd) (T : Joins K mg) : FnOk P w K mg base CX0 (k + 1) f fd ["formed"] (spD K tb 1 rHalvesD) := by
  obtain ⟨A0, gJ, hJ⟩ := T.ex
  refine fn_ok F scHalves (by decide) ?_
  rintro ds d ⟨e, n, rfl, hn, hf, hfo, rfl⟩ A outer s' H E hr
  rcases formed_kinds hfo with rfl | ⟨y, rfl, hy⟩ | hj
  · exact (bd_if (k := false) (td_cmpD (ed_item (d := .tuple [.str "false"]) (f := .str "false") (ed_var 0) ed_int (item_t (atI_nat (j := 0) rfl))) (ed_gRef gJ hJ) (cmp_inStrT.is (by decide +kernel))) (fun h => nomatch h) rfl fun h => bd_left ((sd_ret (ed_lst ad_nil (by decide))).is rfl))
  · exact (bd_if (k := false) (td_cmpD (ed_item (d := .tuple [.str "name", .str y]) (f := .str "name") (ed_var 0) ed_int (item_t (atI_nat (j := 0) rfl))) (ed_gRef gJ hJ) (cmp_inStrT.is (by decide +kernel))) (fun h => nomatch h) rfl fun h => bd_left ((sd_ret (ed_lst ad_nil (by decide))).is rfl))
  · obtain ⟨z, a, b, rfl, hz⟩ := isJ_some hj
    have hz2 : decide (z ∈ joinW) = true := by rcases hz with rfl | rfl | rfl <;> decide +kernel
    exact (bd_if (k := true) (td_cmpD (ed_item (d := .tuple [.str z, a, b]) (f := .str z) (ed_var 0) ed_int (item_t (atI_nat (j := 0) rfl))) (ed_gRef gJ hJ) (cmp_inStrT.is hz2)) (fun h => bd_left ((sd_ret (ed_lst (ad_cons (ed_item (d := .tuple [.str z, a, b]) (f := a) (ed_var 0) ed_int (item_t (atI_nat (j := 1) rfl))) (ad_cons (ed_item (d := .tuple [.str z, a, b]) (f := b) (ed_var 0) ed_int (item_t (atI_nat (j := 2) rfl))) ad_nil)) (by simp))).is rfl)) rfl fun h => nomatch h)
def rBegD (ds : List PyData) (d : PyData) : Prop := ∃ (e : PyData) (n : Nat), ds = [e] ∧ n ≤ 62 ∧ Fn n e ∧ d = .str (begTD e)
theorem begWD_ok (e : PyData) : (∀ x ∈ begWD e, x.length ≤ 8) ∧ (begWD e).length ≤ 66 := by
  have l := stD_le 64 e
  unfold begWD
  have t : (if formedD (itD e (stD 64 e)) = true then tailD (itD e (stD 64 e)) else []).length ≤ 2 ∧ ∀ x ∈ (if formedD (itD e (stD 64 e)) = true then tailD (itD e (stD 64 e)) else []), x.length ≤ 8 := by
    split
    · rename_i h
      rcases formed_kinds h with e1 | ⟨y, e1, hy⟩ | hj
      · rw [e1]
        exact ⟨by decide, fun x hx => by rw [List.mem_singleton.mp hx]; decide +kernel⟩
      · rw [e1]
        refine ⟨Nat.le_refl _, fun x hx => ?_⟩
        rcases List.mem_cons.mp hx with rfl | hx
        · decide +kernel
        · rw [List.mem_singleton.mp hx]
          exact (isNm_ok.mp hy).2.1
      · obtain ⟨z, a, b, e1, _⟩ := isJ_some hj
        have e2 : tailD (.tuple [.str z, a, b]) = [] := by cases a <;> rfl
        rw [e1, e2]
        exact ⟨Nat.zero_le _, fun x hx => by cases hx⟩
    · exact ⟨Nat.zero_le _, fun x hx => by cases hx⟩
  refine ⟨fun x hx => ?_, ?_⟩
  · rcases List.mem_append.mp hx with hx | hx
    · obtain ⟨j, hj, rfl⟩ := List.mem_map.mp hx
      obtain ⟨z, a, b, e1, hz⟩ := isJ_some (stD_on 64 e j (List.mem_range.mp hj))
      rw [e1]
      show z.length ≤ 8
      rcases hz with rfl | rfl | rfl <;> decide +kernel
    · exact t.2 x hx
  · rw [List.length_append, List.length_map, List.length_range]
    omega
theorem ssum : ∀ l : List Str, (∀ w ∈ l, w.length ≤ 8) → (l.map (·.length)).sum ≤ 8 * l.length
  | [], _ => Nat.le_refl _
  | w :: r, h => by
    have h1 := h w List.mem_cons_self
    have h2 := ssum r fun x hx => h x (List.mem_cons_of_mem _ hx)
    rw [List.map_cons, List.sum_cons, List.length_cons]
    omega
theorem ok_beg {kf : Nat} (F : FnP K "beginning" sBeg f fd) (G : FnG P w K mg base tb "is_formed" ["thing"] kf rFormedD) (T : Joins K mg) (h1 : kf ≤ k) : FnOk P w K mg base CX0 (k + 1) f fd ["thing"] (spD K tb 1 rBegD) := by
  obtain ⟨A0, gJ, hJ⟩ := T.ex
  refine fn_ok F scBeg (by decide) ?_
  rintro ds d ⟨e, n, rfl, hn, hf, rfl⟩ A outer s' H E hr
  have nd := scBeg.nd
  have hl := stD_le 64 e
  have off := stD_off 64 e (Nat.le_trans hf.dp (by omega))
  have fit := fun i => hf.it i
  refine bd_own 1 ?_ nd
  refine bd_cons (es := [.dat (itD e (stD 64 e)), .own (((List.range (stD 64 e)).map fun j => hdS (itD e j)).map .str)]) ?_ ?_
  · refine (sd_while (stD 64 e) (fun i => [.dat (itD e i), .own (((List.range i).map fun j => hdS (itD e j)).map .str)]) PassesOwn.never rfl (fun i hi => ⟨?_, ?_⟩) ?_)
    · have hj := stD_on 64 e i hi
      have fi := fit i
      obtain ⟨z, a, b, e1, hz⟩ := isJ_some hj
      have hz2 : decide (z ∈ joinW) = true := by rcases hz with rfl | rfl | rfl <;> decide +kernel
      have hfo := isJ_formed hj
      rw [e1] at fi hfo ⊢
      exact PWd.pt (wd_andt (td_val (ed_call G (hr.mono h1) (ad_cons (ed_var 0) ad_nil) ⟨_, n, rfl, hn, fi, by rw [hfo]⟩)) (wd_and1 (td_cmpD (ed_item (d := .tuple [.str z, a, b]) (f := .str z) (ed_var 0) ed_int (item_t (atI_nat (j := 0) rfl))) (ed_gRef gJ hJ) (cmp_inStrT.is hz2))))
    · have hj := stD_on 64 e i hi
      obtain ⟨z, a, b, e1, hz⟩ := isJ_some hj
      have e2 : itD e (i + 1) = a := by
        show nxD (itD e i) = a
        rw [e1] <;> rfl
      have e3 : hdS (itD e i) = z := by rw [e1] <;> rfl
      rw [List.range_succ, List.map_append, List.map_append]
      show PBd _ _ _ _ _ (.nx [.dat (itD e (i + 1)), .own (_ ++ [.str (hdS (itD e i))])])
      rw [e2, e3, e1]
      exact (bd_cons (sd_append 1 (ed_item (d := .tuple [.str z, a, b]) (f := .str z) (ed_var 0) ed_int (item_t (atI_nat (j := 0) rfl))) (by rw [List.length_map, List.length_map, List.length_range]; omega)) (bd_cons (sd_set 0 (ed_item (d := .tuple [.str z, a, b]) (f := a) (ed_var 0) ed_int (item_t (atI_nat (j := 1) rfl))) nd) bd_nil)).is rfl
    · have fi := fit (stD 64 e)
      generalize itD e (stD 64 e) = u at off fi
      cases q : formedD u with
      | false => exact PWd.pt (wd_andf (td_val (ed_call G (hr.mono h1) (ad_cons (ed_var 0) ad_nil) ⟨u, n, rfl, hn, fi, by rw [q]⟩)))
      | true =>
        rcases formed_kinds q with rfl | ⟨y, rfl, hy⟩ | hj
        · exact PWd.pt (wd_andt (td_val (ed_call G (hr.mono h1) (ad_cons (ed_var 0) ad_nil) ⟨_, n, rfl, hn, fi, by rw [q]⟩)) (wd_and1 (td_cmpD (ed_item (d := .tuple [.str "false"]) (f := .str "false") (ed_var 0) ed_int (item_t (atI_nat (j := 0) rfl))) (ed_gRef gJ hJ) (cmp_inStrT.is (by decide +kernel)))))
        · exact PWd.pt (wd_andt (td_val (ed_call G (hr.mono h1) (ad_cons (ed_var 0) ad_nil) ⟨_, n, rfl, hn, fi, by rw [q]⟩)) (wd_and1 (td_cmpD (ed_item (d := .tuple [.str "name", .str y]) (f := .str "name") (ed_var 0) ed_int (item_t (atI_nat (j := 0) rfl))) (ed_gRef gJ hJ) (cmp_inStrT.is (by decide +kernel)))))
        · rw [hj] at off
          cases off
  obtain ⟨bw1, bw2⟩ := begWD_ok e
  refine bd_cons (es := [.dat (itD e (stD 64 e)), .own ((begWD e).map .str)]) ?_ ?_
  · have fi := fit (stD 64 e)
    unfold begWD
    generalize itD e (stD 64 e) = u at off fi
    refine sd_if (k := formedD u) (td_val (ed_call G (hr.mono h1) (ad_cons (ed_var 0) ad_nil) ⟨u, n, rfl, hn, fi, rfl⟩)) (fun h => ?_) fun h => ?_
    · rw [if_pos h, List.map_append]
      rcases formed_kinds h with rfl | ⟨y, rfl, hy⟩ | hj
      · exact (bd_cons (sd_extendT 1 (zs := [.str "false"]) (ed_var 0) (by rw [List.length_map, List.length_map, List.length_range]; show _ + 1 ≤ _; omega)) bd_nil).is rfl
      · exact (bd_cons (sd_extendT 1 (zs := [.str "name", .str y]) (ed_var 0) (by rw [List.length_map, List.length_map, List.length_range]; show _ + 2 ≤ _; omega)) bd_nil).is rfl
      · rw [hj] at off
        cases off
    · rw [if_neg (by rw [h]; exact Bool.false_ne_true), List.append_nil]
      exact bd_nil.is rfl
  refine bd_freeze 1 (bd_left (sd_ret (ed_join (ys := begWD e) ed_str (ed_var 1) ?_)))
  have l1 := ssum (begWD e) bw1
  have l3 : (" " : Str).length = 1 := rfl
  rw [l3]
  omega
end
end K1
namespace K1
open PySem PySem.Spec PyProof.Rows L2 DL LM RM PK SHLV
open SHLF (ShC gr_back natsV dpa_nats)
local macro_rules | `(tactic| walk_at "side") => `(tactic| first | assumption | decide | omega | (simp; done) | (simp; omega))
local macro_rules | `(tactic| walk_at "bin") => `(tactic| first | exact bin_add | exact bin_sub | exact bin_mul (by walk_at "side") | exact bin_fdiv (by walk_at "side") | exact bin_mod (by walk_at "side") | exact bin_catm (by walk_at "side") | exact bin_cat (by walk_at "side") | exact bin_addS (by walk_at "side"))
local macro_rules | `(tactic| walk_at "cmp") => `(tactic| first | exact cmp_lt | exact cmp_le | exact cmp_gt | exact cmp_ge | exact cmp_eqI | exact cmp_neI | exact cmp_eqS | exact cmp_neS | exact cmp_eqB | exact cmp_neB | exact cmp_isN | exact cmp_notN)
local macro_rules | `(tactic| walk_at "slc") => `(tactic| first | exact slc_lm | exact slc_l | exact slc_s (by walk_at "side"))
local macro_rules | `(tactic| walk_at "len") => `(tactic| first | exact len_lm | exact len_l rfl | exact len_t rfl | exact len_s (by walk_at "side"))
local macro_rules | `(tactic| walk_at "room") => `(tactic| exact Room.mono (by assumption) (by decide))
abbrev s_Shelf___init__ : Stmt := inClass (topS 6) 0
abbrev n_Shelf___init__ : List Str := ["self"]
abbrev p_Shelf___init__ : List Str := ["self"]
theorem sc_Shelf___init__ : FnScope n_Shelf___init__ p_Shelf___init__ (defScope s_Shelf___init__) := ⟨rfl, rfl, rfl, by decide +kernel, rfl, by decide +kernel, by decide +kernel⟩
abbrev s_Shelf_number : Stmt := inClass (topS 6) 1
abbrev n_Shelf_number : List Str := ["self", "thing", "row"]
abbrev p_Shelf_number : List Str := ["self", "thing"]
theorem sc_Shelf_number : FnScope n_Shelf_number p_Shelf_number (defScope s_Shelf_number) := ⟨rfl, rfl, rfl, by decide +kernel, rfl, by decide +kernel, by decide +kernel⟩
abbrev s_Shelf_takes : Stmt := inClass (topS 6) 2
abbrev n_Shelf_takes : List Str := ["self", "thing"]
abbrev p_Shelf_takes : List Str := ["self", "thing"]
theorem sc_Shelf_takes : FnScope n_Shelf_takes p_Shelf_takes (defScope s_Shelf_takes) := ⟨rfl, rfl, rfl, by decide +kernel, rfl, by decide +kernel, by decide +kernel⟩
abbrev FnM (K : PySem.W.Frag) (x q : Str) (st : Stmt) (f : Addr) (fd : FuncData) : Prop := FunD K x q (defArgs st) (defBody st) (defScope st) [] [] f fd
section
variable {P : Program} {w : World} {K : PySem.W.Frag} {mg : Str → Option Value} {base : Heap} {f C : Addr} {fd : FuncData} {tb : List Addr} {k : Nat}
structure MtR2 (P : Program) (w : World) (K : PySem.W.Frag) (mg : Str → Option Value) (base : Heap) (C : Addr) (m : Str) (ps : List Str) (k : Nat) (sp : Sp) : Prop where
  ex : ∃ (f : Addr) (fd : FuncData), FnOk P w K mg base CX0 k f fd ps sp ∧ Meth K C m f ∧ Binds K fd ps []
def spInit (C : Addr) : Sp := fun vs H Q _ => ∃ (p dx : Addr), vs = [.ref p] ∧ H p = some (.ins C dx []) ∧ ∀ t r : Addr, H t = none → upd (upd H t (.lst [])) p (.ins C dx [("things", .ref t)]) r = none →
  Q .non (upd (upd (upd (upd H t (.lst [])) p (.ins C dx [("things", .ref t)])) r (.dK [])) p (.ins C dx [("things", .ref t), ("rows", .ref r)]))
theorem ok_init (F : FnM K "__init__" "Shelf.__init__" s_Shelf___init__ f fd) (T : ShC K mg C) : FnOk P w K mg base CX0 (k + 1) f fd ["self"] (spInit C) := by
  refine F.ok sc_Shelf___init__ (fun vs H Q E h => ?_) (fun cdv A outer s H vs Q E hr h => ?_)
  · obtain ⟨p, dx, rfl, _⟩ := h
    rfl
  · obtain ⟨p, dx, rfl, hp, q⟩ := h
    refine ⟨_, pss_cons (ps_fld (pv 0) (pe_lst pa_nil) rfl) (pss_one (ps_fld (pv 0) pe_dnewK rfl)), ?_⟩
    refine ⟨Nat.zero_le _, fun t ht => ?_⟩
    have npt : p ≠ t := ne_of_none hp ht
    refine ⟨_, rfl, p, C, dx, [], rfl, (by rw [upd_ne npt]; exact hp), T.cl, T.nT, (by show 0 < 1000; decide), ?_⟩
    intro r hr0
    have npr : p ≠ r := fun z => by
      rw [← z, upd_same] at hr0
      cases hr0
    exact ⟨_, rfl, p, C, dx, [("things", .ref t)], rfl, (by rw [upd_ne npr, upd_same]; rfl), T.cl, T.nR, (by show 1 < 1000; decide), q t r ht hr0⟩
def numD (xs : List PyData) (s : PyData) : PyData := match numS xs s with
  | some i => .int (i : Int)
  | none => .none
structure NumP (xs : List PyData) (s : PyData) : Prop where
  o : Fn 62 s
  g : ∀ x ∈ xs, Fn 62 x
  l : xs.length < 9000000
def spNum (K : PySem.W.Frag) (tb : List Addr) (C : Addr) : Sp := fun vs H Q _ => ∃ (sh : Addr) (Hd : Hp) (xs : List PyData) (s : PyData) (v : V), vs = [.ref sh, v] ∧ DH Hd H ∧ (∀ P ∈ tb, GxR.TabG H P) ∧ ShF K C sh Hd H xs ∧ Dp K Hd v s ∧ NumP xs s ∧
  ∀ u Hd' H', Gr Hd H Hd' H' → (∀ P ∈ tb, GxR.TabG H' P) → Dp K Hd' u (numD xs s) → Q u H'
theorem num_plain {K : PySem.W.Frag} {A B : Hp} {u : V} {xs : List PyData} {s : PyData} (h : Dp K A u (numD xs s)) : Dp K B u (numD xs s) := by
  unfold numD at *
  split at h
  · cases h
    exact .int _
  · cases h
    exact .non
theorem ok_number {kb : Nat} (F : FnM K "number" "Shelf.number" s_Shelf_number f fd) (T : ShC K mg C) (G : FnG P w K mg base tb "beginning" ["thing"] kb rBegD) (h1 : kb ≤ k) : FnOk P w K mg base CX0 (k + 1) f fd ["self", "thing"] (spNum K tb C) := by
  refine fok F sc_Shelf_number (fun vs H Q E h => ?_) fun A outer s' H vs Q E hr h => ?_
  · obtain ⟨_, _, _, _, _, rfl, _⟩ := h
    rfl
  · obtain ⟨sh, Hd, xs, s, v, rfl, D, ht, hF, dv, hN, q⟩ := h
    have nd := sc_Shelf_number.nd
    have body : PBd (cxOf CX0 P w K mg base n_Shelf_number "Shelf.number" (defScope s_Shelf_number) f fd.code A outer s' H E).nox tb W0 (defBody s_Shelf_number) [shelfS K C xs, .dat s, .no] (.rt (numD xs s)) := by
      have it : ∀ (i : Nat) (d : PyData), (natsV (idxOf xs (begTD s)))[i]? = some d → ∃ n : Nat, (idxOf xs (begTD s))[i]? = some n ∧ d = .int (n : Int) ∧ n < xs.length := fun i d e => by
        unfold natsV at e
        rw [List.getElem?_map] at e
        cases hh : (idxOf xs (begTD s))[i]? with
        | none => rw [hh] at e; cases e
        | some n =>
          rw [hh] at e
          exact ⟨n, rfl, (Option.some.inj e).symm, idx_lt (List.mem_of_getElem? hh)⟩
      have get : ∀ (i n : Nat), (idxOf xs (begTD s))[i]? = some n → (idxOf xs (begTD s)).getD i 0 = n := fun i n e => by rw [List.getD_eq_getElem?_getD, e] <;> rfl
      have lq : (natsV (idxOf xs (begTD s))).length = (idxOf xs (begTD s)).length := List.length_map _
      refine bd_forB (items := natsV (idxOf xs (begTD s))) 2 (fun i => !PyData.eqv (xs.getD ((idxOf xs (begTD s)).getD i 0) .none) s) (numD xs s) PassesOwn.never rfl (id_list (ed_rowOf 0 hr T (ed_call G (hr.mono h1) (ad_cons (ed_var 1) ad_nil) ⟨s, 62, rfl, by decide, hN.o, rfl⟩))) nd (fun i d e pre => ?_) (fun h => ?_) (fun m _ _ => rfl)
      · obtain ⟨n, e1, rfl, hn⟩ := it i d e
        rw [get i n e1]
        have hg := hN.g _ (List.getElem_mem hn)
        have ex : xs.getD n .none = xs[n] := by rw [List.getD_eq_getElem?_getD, List.getElem?_eq_getElem hn] <;> rfl
        have hx : atI xs (n : Int) = some xs[n] := atI_nat (List.getElem?_eq_getElem hn)
        rw [ex]
        by_cases q : PyData.eqv xs[n] s = true
        · rw [if_neg (by rw [q]; exact Bool.false_ne_true)]
          refine bd_left (sd_if (k := true) ((td_cmpD (ed_item (f := xs[n]) (ed_things 0 T) (ed_var 2) (item_l hx)) (ed_var 1) (cmp_eqD hr (hg.shaped (by decide)) (hN.o.shaped (by decide)))).is q) (fun _ => bd_left ((sd_ret (ed_var 2)).is ?_)) (fun h => nomatch h))
          have hs : numS xs s = some n := by
            unfold numS
            rw [List.find?_eq_some_iff_getElem]
            refine ⟨by rw [ex]; exact q, i, (List.getElem?_eq_some_iff.mp e1).1, (List.getElem?_eq_some_iff.mp e1).2, fun m hm => ?_⟩
            have hm2 : m < (idxOf xs (begTD s)).length := Nat.lt_trans hm (List.getElem?_eq_some_iff.mp e1).1
            have := pre m hm
            rw [get m _ (List.getElem?_eq_getElem hm2)] at this
            exact this
          unfold numD
          rw [hs]
        · have q : PyData.eqv xs[n] s = false := by cases z : PyData.eqv xs[n] s with | true => exact absurd z q | false => rfl
          rw [if_pos (by rw [q]; rfl)]
          exact bd_wk (bd_cons (sd_if (o := .nx _) (k := false) ((td_cmpD (ed_item (f := xs[n]) (ed_things 0 T) (ed_var 2) (item_l hx)) (ed_var 1) (cmp_eqD hr (hg.shaped (by decide)) (hN.o.shaped (by decide)))).is q) (fun h => nomatch h) fun _ => bd_nil) bd_nil) (.same _ (.same _ (.no _ .nil)))
      · have hn : numS xs s = none := by
          unfold numS
          rw [List.find?_eq_none]
          intro n hm q
          obtain ⟨i, hi, e⟩ := List.getElem_of_mem hm
          have := h i (by rw [lq]; exact hi)
          rw [get i n (by rw [List.getElem?_eq_getElem hi, e]), q] at this
          cases this
        refine bd_left ((sd_ret ed_non).is ?_)
        unfold numD
        rw [hn]
    obtain ⟨tt, p1, r1⟩ := body
    have gl : ∀ P ∈ tb, GxR.TabG H P := ht
    refine ⟨tt, p1.nox, r1 (noTab H) H (noTab H) H _ _ ⟨⟨rfl, noTab_dh H, ht, fun i sl e => ?_, fun i j us ys a n e1 e2 _ _ => ?_⟩, Gr.refl (noTab_dh H), fun i us a e1 _ => ?_⟩ fun u Hd' H' g ht' du => q u Hd H' (gr_back D g) ht' (num_plain du)⟩
    · match i, e with
      | 0, e =>
        cases e
        exact ⟨_, rfl, sh, rfl, shf_noTab D hF⟩
      | 1, e =>
        cases e
        exact ⟨_, rfl, Dp.up dv fun a o z => noTab_at (D.s a o z) fun ps y => D.nt a ps (by rw [z, y])⟩
      | 2, e =>
        cases e
        exact ⟨_, rfl, trivial⟩
    · match i, e1 with
      | 0, e1 => cases e1
      | 1, e1 => cases e1
      | 2, e1 => cases e1
    · match i, e1 with
      | 0, e1 => cases e1
      | 1, e1 => cases e1
      | 2, e1 => cases e1
end
end K1
namespace K1
open PySem PySem.Spec PyProof.Rows L2 DL LM RM PK SHLV
open SHLF (ShC gr_back natsV dpa_nats)
open PT (gr_upd dh_upd tab_upd n_upd Ste)
local macro_rules | `(tactic| walk_at "side") => `(tactic| first | assumption | decide | omega | (simp; done) | (simp; omega))
local macro_rules | `(tactic| walk_at "bin") => `(tactic| first | exact bin_add | exact bin_sub | exact bin_mul (by walk_at "side") | exact bin_fdiv (by walk_at "side") | exact bin_mod (by walk_at "side") | exact bin_catm (by walk_at "side") | exact bin_cat (by walk_at "side") | exact bin_addS (by walk_at "side"))
local macro_rules | `(tactic| walk_at "cmp") => `(tactic| first | exact cmp_lt | exact cmp_le | exact cmp_gt | exact cmp_ge | exact cmp_eqI | exact cmp_neI | exact cmp_eqS | exact cmp_neS | exact cmp_eqB | exact cmp_neB | exact cmp_isN | exact cmp_notN)
local macro_rules | `(tactic| walk_at "slc") => `(tactic| first | exact slc_lm | exact slc_l | exact slc_s (by walk_at "side"))
local macro_rules | `(tactic| walk_at "len") => `(tactic| first | exact len_lm | exact len_l rfl | exact len_t rfl | exact len_s (by walk_at "side"))
local macro_rules | `(tactic| walk_at "room") => `(tactic| exact Room.mono (by assumption) (by decide))
section
variable {P : Program} {w : World} {K : PySem.W.Frag} {mg : Str → Option Value} {base : Heap} {f C : Addr} {fd : FuncData} {tb : List Addr} {k : Nat}
def spTakes (K : PySem.W.Frag) (tb : List Addr) (C : Addr) : Sp := fun vs H Q _ => ∃ (sh t r fo : Addr) (Hd0 H0 : Hp) (m : Nat) (Hd : Hp) (xs found : List PyData) (s : PyData) (v : V), vs = [.ref sh, v] ∧ Shx K tb C sh t r fo Hd0 H0 m Hd H xs found ∧ Dp K Hd v s ∧ NumP xs s ∧ m < 9000000 ∧
  ∀ Hd' H', Ste Hd H Hd' H' → Shx K tb C sh t r fo Hd0 H0 (m + 1) Hd' H' (took xs s) found → Q (.bl (!inB xs s)) H'
theorem ok_takes {kb kn : Nat} (F : FnM K "takes" "Shelf.takes" s_Shelf_takes f fd) (T : ShC K mg C) (G : FnG P w K mg base tb "beginning" ["thing"] kb rBegD) (GN : MtR2 P w K mg base C "number" ["self", "thing"] kn (spNum K tb C)) (ml : mg "len" = none) (h1 : kb ≤ k) (h2 : kn ≤ k) : FnOk P w K mg base CX0 (k + 1) f fd ["self", "thing"] (spTakes K tb C) := by
  obtain ⟨fB, fdB, FB, mB, kB, bB⟩ := G.ex
  obtain ⟨fN, fdN, FN, mN, bN⟩ := GN.ex
  refine F.ok sc_Shelf_takes (fun vs H Q E h => ?_) (fun cdv A outer s' H vs Q E hr h => ?_)
  · obtain ⟨_, _, _, _, _, _, _, _, _, _, _, _, rfl, _⟩ := h
    rfl
  · obtain ⟨sh, t, r, fo, Hd0, H0, m, Hd, xs, found, s, v, rfl, W, dv, hN, hm, q⟩ := h
    have nd := sc_Shelf_takes.nd
    refine ⟨_, pss_cons (ps_if (pt_cmpR op_notN (pe_meth (pv 0) T.cl mN FN (hr.mono h2) bN .nil pass0 (pa_cons (pv 1) pa_nil)) pe_non (by first | exact nomark _ | rfl)) (pss_one (ps_ret pe_bl)) pss_nil)
      (pss_cons (ps_expr (pe_bm PySem.F.plainAttrs_list PySem.F.slot_list_append PySem.F.type_list_append mt_append (pe_dsetd (pe_fld (pv 0) rfl) (pe_call FB (hr.mono h1) rfl mB kB bB .nil pass0 (pa_cons (pv 1) pa_nil)) (pe_lst pa_nil) ⟨rfl, rfl, rfl, rfl⟩) (pa_cons (pe_callB call_len_seq rfl ml PySem.boot_len (pa_cons (pe_fld (pv 0) rfl) pa_nil) (by decide) (by decide)) pa_nil)))
      (pss_cons (ps_expr (pe_bm PySem.F.plainAttrs_list PySem.F.slot_list_append PySem.F.type_list_append mt_append (pe_fld (pv 0) rfl) (pa_cons (pv 1) pa_nil)))
      (pss_one (ps_ret pe_bl)))), ?_⟩
    obtain ⟨dx, w1⟩ := W.ob
    refine ⟨_, rfl, sh, dx, _, rfl, w1, rfl, _, rfl, sh, Hd, xs, s, v, rfl, W.dh, W.tb, W.f, dv, hN, fun u Hd1 H1 g1 t1 du => ?_⟩
    have W1 := W.up g1
    have dv1 : Dp K Hd1 v s := Dp.up dv g1.d
    by_cases hs : inB xs s = true
    · have hu : u ≠ .non := by
        unfold numD at du
        split at du
        · cases du
          exact fun z => nomatch z
        · rename_i hnn
          unfold inB at hs
          rw [hnn] at hs
          cases hs
      refine ⟨rfl, true, by rw [decide_eq_false hu] <;> rfl, iteT ?_⟩
      have z := q Hd1 H1 (PT.Ste.of g1) (by unfold took; rw [if_pos hs]; exact W1.more (Nat.le_succ _))
      rw [hs] at z
      exact z
    · have hs : inB xs s = false := by cases z : inB xs s with | true => exact absurd z hs | false => rfl
      have hn : numS xs s = none := by
        unfold inB at hs
        cases z : numS xs s with
        | none => rfl
        | some i => rw [z] at hs; cases hs
      have hu : u = .non := by
        unfold numD at du
        rw [hn] at du
        cases du
        rfl
      refine ⟨rfl, false, by rw [decide_eq_true hu] <;> rfl, iteF ?_⟩
      obtain ⟨dx1, v1⟩ := W1.ob
      obtain ⟨kvs0, v2, _, _, _, _⟩ := W1.rows
      refine ⟨_, rfl, sh, C, dx1, _, _, rfl, v1, T.cl, T.nR, rfl, r, rfl, .inl ⟨kvs0, .inl v2⟩, ?_⟩
      refine ⟨_, rfl, Hd1, [s], .str (begTD s), rfl, W1.dh, W1.tb, .cons dv1 .nil, ⟨s, 62, rfl, by decide, hN.o, rfl⟩, fun u2 Hd2 H2 g2 t2 du2 => ?_⟩
      cases du2
      refine ⟨Nat.zero_le _, fun p hp => ?_⟩
      have g3 : Gr Hd2 H2 Hd2 (upd H2 p (.lst [])) := Gr.newOut g2.h hp
      have W2 := W1.up g2
      have W3 := W2.up g3
      have st3 : Ste Hd H Hd2 (upd H2 p (.lst [])) := ((PT.Ste.of g1).trans (PT.Ste.of g2)).trans (PT.Ste.of g3)
      have dv3 : Dp K Hd2 v s := Dp.up dv1 g2.d
      have pd : Hd2 p = none := none_of_dh g2.h hp
      have p0 : H0 p = none := W2.gr.e.n _ hp
      obtain ⟨kvs, y2, y3, R, y4, y5⟩ := W3.rows
      have pt : p ≠ t := fun z => by
        obtain ⟨ws, e1, _⟩ := W2.th
        rw [← z, hp] at e1
        cases e1
      have pfo : p ≠ fo := fun z => by
        obtain ⟨ws, e1, _⟩ := W2.hfo
        rw [← z, hp] at e1
        cases e1
      have pnew : ∀ j, valV kvs (Sum.inr j : Key) ≠ some (.ref p) := fun j z => by
        obtain ⟨kvs2, e1, _, R2, _, _⟩ := W2.rows
        have e2 : upd H2 p (.lst []) r = some (.dK kvs2) := by rw [upd_ne (ne_of_none e1 hp)]; exact e1
        rw [y2] at e2
        cases e2
        obtain ⟨l, e3, e4⟩ := R2.there j _ z
        cases e3
        rw [hp] at e4
        cases e4
      generalize hH3 : upd H2 p (.lst []) = H3 at *
      have hp3 : H3 p = some (.lst []) := by rw [← hH3, upd_same]
      refine ⟨kvs, Sum.inr (begTD s), y2, rfl, Nat.lt_of_le_of_lt y3 (Nat.lt_of_lt_of_le hm (by decide)), fun v0 hv => ?_, fun hn2 => ?_⟩
      · obtain ⟨l, rfl, hl4⟩ := R.there _ _ hv
        have W4 := W3
        have hr4 := y2
        have hk4 := hv
        have dv4 := dv3
        have st4 := st3
        have ob4 := W4.ob
        obtain ⟨dx4, ob4⟩ := ob4
        obtain ⟨ws, ht4, hw4⟩ := W4.th
        have lw := dpa_len hw4
        have nlt : t ≠ l := fun z => by
          obtain ⟨kvs', q1, _, _, q2, _⟩ := W4.rows
          rw [hr4] at q1
          cases q1
          exact (q2 _ _ hk4).2.1 z.symm
        have nsl : sh ≠ l := fun z => by rw [z, hl4] at ob4; cases ob4
        have li := idx_len xs (begTD s)
        refine ⟨.inl ⟨rfl, _, .inl (.inl hl4)⟩, _, rfl, sh, C, dx4, _, _, rfl, ob4, T.cl, T.nT, rfl, t, ws, rfl, .inl (.of ht4), l, _, .int (ws.length : Nat), rfl, rfl, hl4, ?_, ?_⟩
        · rw [List.length_map]
          exact Nat.lt_of_le_of_lt (show (idxOf xs (begTD s)).length ≤ 9000000 by have := hN.l; omega) (by decide)
        refine ⟨_, rfl, sh, C, dx4, _, .ref t, rfl, by rw [upd_ne nsl]; exact ob4, T.cl, T.nT, rfl, .inl ⟨rfl, ws, .inl (.inl (by rw [upd_ne nlt]; exact ht4))⟩, v, rfl, t, ws, v, rfl, rfl, by rw [upd_ne nlt]; exact ht4, Nat.lt_of_le_of_lt (show ws.length ≤ 9000000 by have := hN.l; omega) (by decide), ?_⟩
        have W5 := W4.put hr4 hk4 ht4 dv4
        rw [← lw] at W5
        have z := q _ _ ((st4.trans ⟨Sub.refl _, fun a e => n_upd e⟩).trans ⟨Sub.refl _, fun a e => n_upd e⟩) (by unfold took; rw [if_neg (by rw [hs]; exact Bool.false_ne_true)]; exact W5.more (by omega))
        rw [hs] at z
        exact z
      · have W4 := W3.addRow hp3 pd p0 pt pfo pnew y2 hn2
        have pr : p ≠ r := fun z => by
          rw [z, y2] at hp3
          cases hp3
        have hl4 : (upd H3 r (.dK (putK kvs (Sum.inr (begTD s) : Key) (.ref p)))) p = some (.lst ((idxOf xs (begTD s)).map fun (i : Nat) => V.int (i : Int))) := by
          rw [upd_ne pr, R.no _ hn2]
          exact hp3
        have hr4 : (upd H3 r (.dK (putK kvs (Sum.inr (begTD s) : Key) (.ref p)))) r = some (.dK (putK kvs (Sum.inr (begTD s) : Key) (.ref p))) := upd_same
        have hk4 : valV (putK kvs (Sum.inr (begTD s) : Key) (.ref p)) (Sum.inr (begTD s) : Key) = some (.ref p) := by rw [valV_put, if_pos rfl]
        have hl4' := hl4
        have dv4 := dv3
        have st4 : Ste Hd H Hd2 (upd H3 r (.dK (putK kvs (Sum.inr (begTD s) : Key) (.ref p)))) := st3.trans ⟨Sub.refl _, fun a e => n_upd e⟩
        have ob4 := W4.ob
        obtain ⟨dx4, ob4⟩ := ob4
        obtain ⟨ws, ht4, hw4⟩ := W4.th
        have lw := dpa_len hw4
        have nlt : t ≠ p := fun z => by
          obtain ⟨kvs', q1, _, _, q2, _⟩ := W4.rows
          rw [hr4] at q1
          cases q1
          exact (q2 _ _ hk4).2.1 z.symm
        have nsl : sh ≠ p := fun z => by rw [z, hl4] at ob4; cases ob4
        have li := idx_len xs (begTD s)
        refine ⟨.inl ⟨rfl, _, .inl (.inl hl4)⟩, _, rfl, sh, C, dx4, _, _, rfl, ob4, T.cl, T.nT, rfl, t, ws, rfl, .inl (.of ht4), p, _, .int (ws.length : Nat), rfl, rfl, hl4, ?_, ?_⟩
        · rw [List.length_map]
          exact Nat.lt_of_le_of_lt (show (idxOf xs (begTD s)).length ≤ 9000000 by have := hN.l; omega) (by decide)
        refine ⟨_, rfl, sh, C, dx4, _, .ref t, rfl, by rw [upd_ne nsl]; exact ob4, T.cl, T.nT, rfl, .inl ⟨rfl, ws, .inl (.inl (by rw [upd_ne nlt]; exact ht4))⟩, v, rfl, t, ws, v, rfl, rfl, by rw [upd_ne nlt]; exact ht4, Nat.lt_of_le_of_lt (show ws.length ≤ 9000000 by have := hN.l; omega) (by decide), ?_⟩
        have W5 := W4.put hr4 hk4 ht4 dv4
        rw [← lw] at W5
        have z := q _ _ ((st4.trans ⟨Sub.refl _, fun a e => n_upd e⟩).trans ⟨Sub.refl _, fun a e => n_upd e⟩) (by unfold took; rw [if_neg (by rw [hs]; exact Bool.false_ne_true)]; exact W5.more (by omega))
        rw [hs] at z
        exact z
end
end K1
namespace K1
open PySem PySem.Spec PyProof.Rows L2 DL LM RM PK SHLV
open SHLF (ShC gr_back natsV dpa_nats)
open PT (gr_upd dh_upd tab_upd n_upd Ste)
local macro_rules | `(tactic| walk_at "side") => `(tactic| first | assumption | decide | omega | (simp; done) | (simp; omega))
local macro_rules | `(tactic| walk_at "bin") => `(tactic| first | exact bin_add | exact bin_sub | exact bin_mul (by walk_at "side") | exact bin_fdiv (by walk_at "side") | exact bin_mod (by walk_at "side") | exact bin_catm (by walk_at "side") | exact bin_cat (by walk_at "side") | exact bin_addS (by walk_at "side"))
local macro_rules | `(tactic| walk_at "cmp") => `(tactic| first | exact cmp_lt | exact cmp_le | exact cmp_gt | exact cmp_ge | exact cmp_eqI | exact cmp_neI | exact cmp_eqS | exact cmp_neS | exact cmp_eqB | exact cmp_neB | exact cmp_isN | exact cmp_notN)
local macro_rules | `(tactic| walk_at "slc") => `(tactic| first | exact slc_lm | exact slc_l | exact slc_s (by walk_at "side"))
local macro_rules | `(tactic| walk_at "len") => `(tactic| first | exact len_lm | exact len_l rfl | exact len_t rfl | exact len_s (by walk_at "side"))
local macro_rules | `(tactic| walk_at "room") => `(tactic| exact Room.mono (by assumption) (by decide))
abbrev sBelow : Stmt := (topS 10)
abbrev nBelow : List Str := ["level", "shelf", "one", "half"]
theorem scBelow : FnScope nBelow ["level"] (defScope sBelow) := ⟨rfl, rfl, rfl, by decide +kernel, rfl, by decide +kernel, by decide +kernel⟩
section
variable {P : Program} {w : World} {K : PySem.W.Frag} {mg : Str → Option Value} {base : Heap} {f C : Addr} {fd : FuncData} {tb : List Addr} {k : Nat}
def belowD (xs : List PyData) : List PyData := (xs.flatMap halvesD).foldl took []
theorem halves_len (d : PyData) : (halvesD d).length ≤ 2 := by
  unfold halvesD
  split <;> simp
theorem halves_fn {d : PyData} (h : Fn 62 d) : ∀ x ∈ halvesD d, Fn 62 x := fun x hx => by
  unfold halvesD at hx
  split at hx
  · obtain ⟨n, e⟩ := h.pos
    have h2 : Fn (n + 1) _ := e ▸ h
    have : Fn n x := h2.mem (.tail _ hx)
    exact this.mono (by omega)
  · cases hx
theorem took_len (l : List PyData) (s : PyData) : (took l s).length ≤ l.length + 1 := by
  unfold took
  split
  · omega
  · rw [List.length_append] <;> exact Nat.le_refl _
theorem took_fn {l : List PyData} {s : PyData} (h : ∀ x ∈ l, Fn 62 x) (hs : Fn 62 s) : ∀ x ∈ took l s, Fn 62 x := fun x hx => by
  unfold took at hx
  split at hx
  · exact h x hx
  · rcases List.mem_append.mp hx with hx | hx
    · exact h x hx
    · rw [List.mem_singleton.mp hx]
      exact hs
theorem fold_fn : ∀ (hs l : List PyData), (∀ x ∈ l, Fn 62 x) → (∀ x ∈ hs, Fn 62 x) → (∀ x ∈ hs.foldl took l, Fn 62 x) ∧ (hs.foldl took l).length ≤ l.length + hs.length
  | [], l, h, _ => ⟨h, Nat.le_refl _⟩
  | s :: r, l, h, h2 => by
    obtain ⟨a, b⟩ := fold_fn r (took l s) (took_fn h (h2 s List.mem_cons_self)) fun x hx => h2 x (List.mem_cons_of_mem _ hx)
    have := took_len l s
    refine ⟨a, ?_⟩
    show ((r.foldl took (took l s)).length) ≤ _
    rw [List.length_cons]
    omega
theorem flat_len : ∀ xs : List PyData, (xs.flatMap halvesD).length ≤ 2 * xs.length
  | [] => Nat.le_refl _
  | x :: r => by
    have h1 := halves_len x
    have h2 := flat_len r
    rw [List.flatMap_cons, List.length_append, List.length_cons]
    omega
def rBelow (ds : List PyData) (d : PyData) : Prop := ∃ xs : List PyData, ds = [.list xs] ∧ (∀ x ∈ xs, Fn 62 x ∧ formedD x = true) ∧ xs.length ≤ 2000000 ∧ d = .list (belowD xs)
theorem ok_below {kt kh ki : Nat} (F : FnP K "level_below" sBelow f fd) (T : ShC K mg C) (GI : ∃ fI fdI, Mk K C fI ∧ FnOk P w K mg base CX0 ki fI fdI ["self"] (spInit C) ∧ Binds K fdI ["self"] []) (GT : MtR2 P w K mg base C "takes" ["self", "thing"] kt (spTakes K tb C)) (GH : FnG P w K mg base tb "halves" ["formed"] kh rHalvesD) (h1 : kt ≤ k) (h2 : kh ≤ k) (h3 : ki + 1 ≤ k) :
    FnOk P w K mg base CX0 (k + 1) f fd ["level"] (spD K tb 1 rBelow) := by
  obtain ⟨fI, fdI, M, FI, bI⟩ := GI
  obtain ⟨fT, fdT, FT, mT, bT⟩ := GT.ex
  obtain ⟨fH, fdH, FH, mH, kH, bH⟩ := GH.ex
  refine F.ok scBelow (fun vs H Q E h => ?_) (fun cdv A outer s' H vs Q E hr h => ?_)
  · obtain ⟨_, _, _, h, _⟩ := h
    exact h
  · obtain ⟨Hd, ds, d, hl, D0, ht, dv, ⟨xs, rfl, hx, hlen, rfl⟩, q⟩ := h
    cases dv with
    | @cons v _ _ _ m1 m2 =>
      cases m2
      have nd := scBelow.nd
      cases m1 with
      | @lst a us _ k1 k2 =>
        refine ⟨_, PSs.nox (pss_cons (ps_set (i := 1) nd rfl (locB_ok rfl) (pe_make0 M FI (hr.mono h3) rfl T.g bI .nil pass0))
          (pss_one (ps_ret (pe_lc2 (own := [("one", 2), ("half", 3)]) (vs1 := [3]) (g := gName 2) (g1 := gName 3) (tt := tYes) (wi1 := iList K (tCall (spD K tb 1 rHalvesD) [] E0 (tCons (tVar 2) tNil))) (tt1 := tB (tMeth C "takes" (spTakes K tb C) [] E0 (tVar 1) (tCons (tVar 3) tNil))) (te := tVar 3) rfl nd (pi_list (pv 0)) (blkOk_by (N := nBelow) (sc := defScope sBelow) (by decide +kernel)) (by decide) ?hg ?ht ?hi1 ?hg1 ?ht1 ?he)))), ?hmain⟩
        case hg => exact fun _ _ _ _ _ => pg_name nd rfl (Or.inl rfl)
        case hg1 => exact fun _ _ _ _ _ => pg_name nd rfl (Or.inl rfl)
        case ht => exact fun _ _ _ _ _ => pts_nil
        case hi1 => exact fun _ _ _ _ _ => pi_list (pe_call FH (hr.mono h2) rfl mH kH bH .nil pass0 (pa_cons (pv 2) pa_nil))
        case ht1 => exact fun _ _ _ _ _ => pts_one (pt_val (pe_meth (pv 1) T.cl mT FT (hr.mono h1) bT .nil pass0 (pa_cons (pv 3) pa_nil)) (by intro _; rfl))
        case he => exact fun _ _ _ _ _ => pv 3
        intro x dx nx ndx nex
        refine ⟨x, dx, rfl, upd_same, fun t r ht0 hr0 => ⟨rfl, ?_⟩⟩
        have t1 := n_upd ht0
        have t0 : H t = none := n_upd t1
        have ntx : t ≠ x := fun z => by rw [z, upd_same] at ht0; cases ht0
        have nrx : r ≠ x := fun z => by rw [z, upd_same] at hr0; cases hr0
        have r1 := n_upd hr0
        have nrt : r ≠ t := fun z => by rw [z, upd_same] at r1; cases r1
        have r0 : H r = none := n_upd (n_upd (n_upd r1))
        have G2 := gr_upd (o := .own x) (Gr.refl D0) ndx (none_of_dh D0 ndx)
        have G3 := gr_upd (o := .ins C dx []) G2 nx (none_of_dh D0 nx)
        have G4 := gr_upd (o := .lst []) G3 t0 (none_of_dh D0 t0)
        have G4b := gr_upd (o := .ins C dx [("things", .ref t)]) G4 nx (none_of_dh D0 nx)
        have G4c := gr_upd (o := .dK []) G4b r0 (none_of_dh D0 r0)
        have G5 := gr_upd (o := .ins C dx [("things", .ref t), ("rows", .ref r)]) G4c nx (none_of_dh D0 nx)
        generalize hH5 : (upd (upd (upd (upd (upd (upd H dx (.own x)) x (.ins C dx [])) t (.lst [])) x (.ins C dx [("things", .ref t)])) r (.dK [])) x (.ins C dx [("things", .ref t), ("rows", .ref r)])) = H5 at G5
        have o5 : H5 x = some (.ins C dx [("things", .ref t), ("rows", .ref r)]) := by rw [← hH5, upd_same]
        have r5 : H5 r = some (.dK []) := by rw [← hH5, upd_ne nrx, upd_same]
        have t5 : H5 t = some (.lst []) := by rw [← hH5, upd_ne ntx, upd_ne nrt.symm, upd_ne ntx, upd_same]
        refine ⟨.ref a, rfl, a, rfl, ⟨us, sl_sub G5.h.s k1⟩, fun D hD => ?_⟩
        have d0 : H D = none := G5.e.n D hD
        have nxD : x ≠ D := fun z => by rw [z, hD] at o5; cases o5
        have nrD : r ≠ D := fun z => by rw [z, hD] at r5; cases r5
        have ntD : t ≠ D := fun z => by rw [z, hD] at t5; cases t5
        have G6 := gr_upd (o := .lst []) G5 d0 (none_of_dh D0 d0)
        have W0' : Shx K tb C x t r D Hd H 0 Hd (upd H5 D (.lst [])) [] [] := ⟨G6, fun P hP => G6.e.t P (ht P hP), ⟨dx, by rw [upd_ne nxD]; exact o5⟩, ⟨[], by rw [upd_ne ntD]; exact t5, .nil⟩, none_of_dh D0 t0, none_of_dh D0 r0, none_of_dh D0 nx, t0, r0, nx, ⟨[], upd_same, .nil⟩, none_of_dh D0 d0, d0, ntD.symm, [], by rw [upd_ne nrD]; exact r5, Nat.le_refl _, ⟨(fun j u e => by cases e), (fun j e => rfl)⟩, (fun j l e => by cases e), (fun j1 j2 l e => by cases e)⟩
        have lu := dpa_len k2
        have sn_ok : ∀ i, (∀ y ∈ ((xs.take i).flatMap halvesD).foldl took [], Fn 62 y) ∧ (((xs.take i).flatMap halvesD).foldl took []).length ≤ 2 * xs.length := fun i => by
          obtain ⟨a1, a2⟩ := fold_fn ((xs.take i).flatMap halvesD) [] (fun y hy => by cases hy) fun y hy => by
            obtain ⟨z, hz, hy⟩ := List.mem_flatMap.mp hy
            exact halves_fn (hx z (List.mem_of_mem_take hz)).1 y hy
          have a3 := flat_len (xs.take i)
          have a4 : (xs.take i).length ≤ xs.length := by rw [List.length_take]; omega
          have a2 : (((xs.take i).flatMap halvesD).foldl took []).length ≤ 0 + ((xs.take i).flatMap halvesD).length := a2
          exact ⟨a1, by omega⟩
        refine ⟨fun i mm H' => mm = xs.length - i ∧ i ≤ xs.length ∧ ∃ Hd', Shx K tb C x t r D Hd H (2 * i) Hd' H' (((xs.take i).flatMap halvesD).foldl took []) (((xs.take i).flatMap halvesD).foldl took []), ⟨xs.length, by simp, Nat.zero_le _, Hd, W0'⟩, ?_⟩
        rintro i mm H' ⟨rfl, him, Hd', W⟩
        by_cases hlt : i < xs.length
        · have hiu : i < us.length := by omega
          have ex := List.getElem?_eq_getElem hlt
          generalize xs[i] = u at ex
          obtain ⟨v0, e1, e2⟩ := dpa_get k2 ex
          have hu := hx u (List.mem_of_getElem? ex)
          have tk : xs.take (i + 1) = xs.take i ++ [u] := by rw [List.take_add_one, ex] <;> rfl
          refine .inr ⟨⟨us, v0, sl_sub W.dh.s (sl_sub W.gr.d k1), e1⟩, fun H2 => i + 1 ≤ xs.length ∧ ∃ Hd2, Shx K tb C x t r D Hd H (2 * (i + 1)) Hd2 H2 (((xs.take (i + 1)).flatMap halvesD).foldl took []) (((xs.take (i + 1)).flatMap halvesD).foldl took []), fun H2 z2 => ⟨xs.length - (i + 1), by omega, rfl, z2⟩, fun y H2 hy => ?_⟩
          obtain ⟨rfl, hy⟩ := hy
          have ey := hy us (sl_sub W.dh.s (sl_sub W.gr.d k1))
          rw [e1] at ey
          cases ey
          refine ⟨rfl, ?_⟩
          refine iteT (B := True) ?_
          refine ⟨v0, rfl, Hd', [u], .list (halvesD u), rfl, W.dh, W.tb, .cons (Dp.up e2 W.gr.d) .nil, ⟨u, 62, rfl, Nat.le_refl _, hu.1, hu.2, rfl⟩, fun b Hd3 H3 g3 t3 db => ?_⟩
          cases db with
          | @lst A us1 _ j1 j2 =>
            have W3 := W.up g3
            have l1 := dpa_len j2
            have l2 := halves_len u
            obtain ⟨s1, s2⟩ := sn_ok i
            have fh := halves_fn hu.1
            have fl : ((xs.take (i + 1)).flatMap halvesD).foldl took [] = (halvesD u).foldl took (((xs.take i).flatMap halvesD).foldl took []) := by
              rw [tk, List.flatMap_append, List.foldl_append]
              show ((halvesD u ++ []).foldl took _) = _
              rw [List.append_nil]
            rw [fl]
            generalize ((xs.take i).flatMap halvesD).foldl took [] = sn at s1 s2 W3 W
            refine ⟨A, rfl, ⟨us1, sl_sub g3.h.s j1⟩, ?_⟩
            refine ⟨fun j kk H4 => kk = us1.length - j ∧ j ≤ us1.length ∧ ∃ Hd4, Sub Hd3 Hd4 ∧ Shx K tb C x t r D Hd H (2 * i + j) Hd4 H4 (((halvesD u).take j).foldl took sn) (((halvesD u).take j).foldl took sn), ⟨us1.length, by simp, Nat.zero_le _, Hd3, Sub.refl _, W3⟩, ?_⟩
            rintro j kk H4 ⟨rfl, hj, Hd4, s4, W4⟩
            have sq := sl_sub W4.dh.s (sl_sub s4 j1)
            by_cases hjl : j < us1.length
            · have hjh : j < (halvesD u).length := by omega
              have eh := List.getElem?_eq_getElem hjh
              generalize (halvesD u)[j] = hd at eh
              obtain ⟨w0, f1, f2⟩ := dpa_get j2 eh
              have th : (halvesD u).take (j + 1) = (halvesD u).take j ++ [hd] := by rw [List.take_add_one, eh] <;> rfl
              have fhd := fh hd (List.mem_of_getElem? eh)
              obtain ⟨b1, b2⟩ := fold_fn ((halvesD u).take j) sn s1 fun y hy => fh y (List.mem_of_mem_take hy)
              have b3 : ((halvesD u).take j).length ≤ 2 := by rw [List.length_take]; omega
              refine .inr ⟨⟨us1, w0, sq, f1⟩, fun H6 => j + 1 ≤ us1.length ∧ ∃ Hd6, Sub Hd3 Hd6 ∧ Shx K tb C x t r D Hd H (2 * i + (j + 1)) Hd6 H6 (((halvesD u).take (j + 1)).foldl took sn) (((halvesD u).take (j + 1)).foldl took sn), fun H6 z6 => ⟨us1.length - (j + 1), by omega, rfl, z6⟩, fun y H6 hy6 => ?_⟩
              obtain ⟨rfl, hy6⟩ := hy6
              have ey6 := hy6 us1 sq
              rw [f1] at ey6
              cases ey6
              refine ⟨rfl, ?_⟩
              have ft : ((halvesD u).take (j + 1)).foldl took sn = took (((halvesD u).take j).foldl took sn) hd := by
                rw [th, List.foldl_append] <;> rfl
              rw [ft]
              generalize ((halvesD u).take j).foldl took sn = sm at b1 b2 W4
              obtain ⟨dx4, ob4⟩ := W4.ob
              refine ⟨.ref x, rfl, x, dx4, _, rfl, ob4, rfl, w0, rfl, x, t, r, D, Hd, H, 2 * i + j, Hd4, sm, sm, hd, w0, rfl, W4, Dp.up f2 s4, ⟨fhd, b1, by omega⟩, by omega, fun Hd7 H7 st7 W7 => ?_⟩
              by_cases hin : inB sm hd = true
              · rw [hin]
                refine ⟨false, rfl, iteF ?_⟩
                refine ⟨by omega, Hd7, s4.trans st7.d, ?_⟩
                have e8 : took sm hd = sm := if_pos hin
                rw [e8] at W7 ⊢
                exact W7
              · have hin2 : inB sm hd = false := by
                  cases e : inB sm hd with
                  | false => rfl
                  | true => exact absurd e hin
                rw [hin2]
                refine ⟨true, rfl, iteT ?_⟩
                obtain ⟨ws, g1, g2⟩ := W7.hfo
                have lw := dpa_len g2
                refine ⟨w0, rfl, ws, g1, Nat.lt_of_le_of_lt (show ws.length ≤ 9000000 by omega) (by decide), by omega, Hd7, s4.trans st7.d, ?_⟩
                have e8 : took sm hd = sm ++ [hd] := if_neg hin
                have W8 := W7.find g1 (Dp.up (Dp.up f2 s4) st7.d)
                rw [e8] at W8 ⊢
                exact W8
            · have ej : j = us1.length := by omega
              subst ej
              refine .inl ⟨⟨us1, sq, Nat.le_refl _⟩, ?_⟩
              rw [l1, List.take_length] at W4
              exact ⟨by omega, Hd4, W4.more (by omega)⟩
        · have ei : i = xs.length := by omega
          subst ei
          refine .inl ⟨⟨us, sl_sub W.dh.s (sl_sub W.gr.d k1), by omega⟩, ?_⟩
          rw [List.take_length] at W
          obtain ⟨ws, g1, g2⟩ := W.hfo
          exact q (.ref D) _ H' (gr_frzO W.gr d0 W.nfo g1) W.tb (.lst (.of upd_same) (DpAll.up g2 (sub_updO W.nfo)))
end
end K1
namespace K1
open PySem PySem.Spec PyProof.Rows L2 DL LM RM PK
local macro_rules | `(tactic| walk_at "side") => `(tactic| first | assumption | decide | omega | (simp; done) | (simp; omega))
local macro_rules | `(tactic| walk_at "bin") => `(tactic| first | exact bin_add | exact bin_sub | exact bin_mul (by walk_at "side") | exact bin_fdiv (by walk_at "side") | exact bin_mod (by walk_at "side") | exact bin_catm (by walk_at "side") | exact bin_cat (by walk_at "side") | exact bin_addS (by walk_at "side"))
local macro_rules | `(tactic| walk_at "cmp") => `(tactic| first | exact cmp_lt | exact cmp_le | exact cmp_gt | exact cmp_ge | exact cmp_eqI | exact cmp_neI | exact cmp_eqS | exact cmp_neS | exact cmp_eqB | exact cmp_neB | exact cmp_isN | exact cmp_notN)
local macro_rules | `(tactic| walk_at "slc") => `(tactic| first | exact slc_lm | exact slc_l | exact slc_s (by walk_at "side"))
local macro_rules | `(tactic| walk_at "len") => `(tactic| first | exact len_lm | exact len_l rfl | exact len_t rfl | exact len_s (by walk_at "side"))
local macro_rules | `(tactic| walk_at "room") => `(tactic| exact Room.mono (by assumption) (by decide))
abbrev sWn : Stmt := (topS 19)
abbrev nWn : List Str := ["_law_name", "_law_cell", "_law_signs", "_law_at", "_law_sign"]
theorem scWn : FnScope nWn ["_law_name", "_law_cell"] (defScope sWn) := ⟨rfl, rfl, rfl, by decide +kernel, rfl, by decide +kernel, by decide +kernel⟩
def strOf : Expr → List Str
  | .Constant (.str z) _ _ => [z]
  | _ => []
def setStr : Stmt → List Str
  | .Assign _ e _ => strOf e
  | _ => []
def wnS : Str := ((setStr ((defBody sWn).getD 0 (.Pass ⟨0, 0, 0, 0⟩))).getD 0 "")
def wnLen : Nat := wnS.length
theorem wn_lo : 1 ≤ wnLen ∧ wnLen ≤ 100 := by decide +kernel
/-- a text that may be compared -/
def SOk (z : Str) : Prop := z.length ≤ 1000 ∧ ∀ c ∈ z.cps.toList, c < 0x110000
theorem SOk.fn {z : Str} (h : SOk z) : Fn 0 (.str z) := by
  refine ⟨?_, by rw [PyData.depth]; exact Nat.le_refl _, by rw [fineD]; exact decide_eq_true h.1⟩
  rw [PyData.canLay0]
  unfold PyData.strOk
  rw [← Array.all_toList, List.all_eq_true]
  exact fun c hc => decide_eq_true (h.2 c hc)
theorem SOk.app {x y : Str} (h : SOk x) (k : SOk y) (l : x.length + y.length ≤ 1000) : SOk (x ++ y) := ⟨by rw [app_len]; exact l, fun c hc => by
  rw [str_app] at hc
  rcases List.mem_append.mp hc with hc | hc
  · exact h.2 c hc
  · exact k.2 c hc⟩
theorem cutS_le (z : Str) (l u : Option Int) : (cutS z l u).length ≤ z.length := by
  rw [str_len, str_len, cutS_cut]
  unfold DL.cutD
  rw [List.length_take, List.length_drop]
  omega
theorem SOk.cut {z : Str} (h : SOk z) (l u : Option Int) : SOk (cutS z l u) := ⟨Nat.le_trans (cutS_le z l u) h.1, fun c hc => by
  rw [cutS_cut] at hc
  exact h.2 c (List.mem_of_mem_drop (List.mem_of_mem_take hc))⟩
theorem NmOk.sok {z : Str} (h : NmOk z) : SOk z := ⟨Nat.le_trans h.2.1 (by decide), fun c hc => Nat.lt_of_le_of_lt (h.2.2 c hc).2 (by decide)⟩
theorem wnS_ok : SOk wnS := ⟨by decide +kernel, by decide +kernel⟩
theorem sgn_ok {z : Str} (h : SOk z) (i : Nat) : SOk ⟨#[z.cps.toList.getD i 0]⟩ := ⟨by show 1 ≤ 1000; decide, fun c hc => by
  have e : c = z.cps.toList.getD i 0 := by simpa using hc
  rw [e, List.getD_eq_getElem?_getD]
  cases q : z.cps.toList[i]? with
  | none => decide
  | some d => exact h.2 d (List.mem_of_getElem? q)⟩
theorem lit_ok : SOk "abcdefgh" := ⟨by decide +kernel, by decide +kernel⟩
theorem emp_ok : SOk "" := ⟨by decide +kernel, by decide +kernel⟩
theorem fn_list {n : Nat} {xs : List PyData} (h : ∀ x ∈ xs, Fn n x) : Fn (n + 1) (.list xs) ∧ Fn (n + 1) (.tuple xs) := by
  have e : ∀ l : List PyData, (∀ x ∈ l, Fn n x) → PyData.canLayAll0 l = true ∧ PyData.depthAll l ≤ n ∧ fineAll l = true := fun l => by
    induction l with
    | nil => exact fun _ => ⟨rfl, Nat.zero_le _, by rw [fineAll]⟩
    | cons y r ih =>
      intro hl
      obtain ⟨a, b, c⟩ := ih fun x hx => hl x (List.mem_cons_of_mem _ hx)
      have hy := hl y List.mem_cons_self
      refine ⟨?_, ?_, ?_⟩
      · rw [PyData.canLayAll0, hy.lay, a] <;> rfl
      · rw [PyData.depthAll]
        have := hy.dp
        omega
      · rw [fineAll, hy.fi, c] <;> rfl
  obtain ⟨a, b, c⟩ := e xs h
  exact ⟨⟨by rw [PyData.canLay0]; exact a, by rw [PyData.depth]; omega, by rw [fineD]; exact c⟩, ⟨by rw [PyData.canLay0]; exact a, by rw [PyData.depth]; omega, by rw [fineD]; exact c⟩⟩
theorem fn_int (i : Int) : Fn 0 (.int i) := ⟨by rw [PyData.canLay0], by rw [PyData.depth]; exact Nat.le_refl _, by rw [fineD] <;> exact fun _ h => nomatch h⟩
section
variable {P : Program} {w : World} {K : PySem.W.Frag} {mg : Str → Option Value} {base : Heap} {f : Addr} {fd : FuncData} {tb : List Addr} {k : Nat}
def wnAt (z : Str) (c : Int) : Int := c / 8 % (z.length : Int)
def wnSg (c : Int) : Str := ⟨#[wnS.cps.toList.getD (c / 64 % (wnS.length : Int)).toNat 0]⟩
def wnL (z : Str) (c : Int) : List PyData := [.str (cutS z none (some (wnAt z c)) ++ wnSg c ++ cutS z (some (wnAt z c + 1)) none), .str (z ++ wnSg c), .str (z ++ "abcdefgh"), .str "", .int 7, .bool true, .none, .list [.str z]]
def wnD (z : Str) (c : Int) : PyData := (wnL z c).getD (c % 8).toNat .none
def rWn (ds : List PyData) (d : PyData) : Prop := ∃ (z : Str) (c : Int), ds = [.str z, .int c] ∧ NmOk z ∧ d = wnD z c
theorem ok_wn (F : FnP K "_law_wrong_name" sWn f fd) (ml : mg "len" = none) : FnOk P w K mg base CX0 (k + 1) f fd ["_law_name", "_law_cell"] (spD K tb 2 rWn) := by
  refine fn_ok F scWn (by decide) ?_
  rintro ds d ⟨z, c, rfl, hz, rfl⟩ A outer s' H E hr
  have nd := scWn.nd
  have z1 := hz.1
  have z8 := hz.2.1
  have wl := wn_lo
  have wl1 : 1 ≤ wnS.length := wl.1
  have wl2 : wnS.length ≤ 100 := wl.2
  have a0 : 0 ≤ c / 64 % (wnS.length : Int) := Int.emod_nonneg _ (by omega)
  have a1 : c / 64 % (wnS.length : Int) < wnS.length := Int.emod_lt_of_pos _ (by omega)
  have c1 := cutS_le z none (some (wnAt z c))
  have c2 := cutS_le z (some (wnAt z c + 1)) none
  have l1 : (wnSg c).length = 1 := rfl
  have l2 : ("abcdefgh" : Str).length = 8 := by decide +kernel
  refine bd_cons (sd_set 2 (ed_str.is (g := .str wnS) rfl) nd) ?_
  refine bd_cons (sd_set 3 ((ed_bin (ed_bin (ed_var 1) ed_int (by walk_at "bin")) (ed_len ml (ed_var 0) (len_s (by omega))) (bin_mod (by omega))).is (g := .int (wnAt z c)) rfl) nd) ?_
  refine bd_cons (sd_set 4 ((ed_item (ed_var 2) (ed_bin (ed_bin (ed_var 1) ed_int (by walk_at "bin")) (ed_len ml (ed_var 2) (len_s (by omega))) (bin_mod (by omega))) (by exact item_so (by omega) a0 a1)).is (g := .str (wnSg c)) rfl) nd) ?_
  have m0 : 0 ≤ c % 8 := Int.emod_nonneg _ (by decide)
  have m1 : c % 8 < 8 := Int.emod_lt_of_pos _ (by decide)
  refine bd_left (sd_ret (ed_item ((ed_lst (ad_cons (ed_bin (ed_bin (ed_slc (ed_var 0) od_none (od_some (ed_var 3)) (slc_s (by omega))) (ed_var 4) (bin_addS (by omega))) (ed_slc (ed_var 0) (od_some (ed_bin (ed_var 3) ed_int (by walk_at "bin"))) od_none (slc_s (by omega))) (bin_addS (by rw [app_len]; omega)))
    (ad_cons (ed_bin (ed_var 0) (ed_var 4) (bin_addS (by omega))) (ad_cons (ed_bin (ed_var 0) ed_str (bin_addS (by omega))) (ad_cons ed_str (ad_cons ed_int (ad_cons ed_bl (ad_cons ed_non (ad_cons (ed_lst (ad_cons (ed_var 0) ad_nil) (by simp)) ad_nil)))))))) (by simp)).is (g := .list (wnL z c)) rfl) (ed_bin (ed_var 1) ed_int (by walk_at "bin")) (by exact item_lo m0 (show c % 8 < ((wnL z c).length : Int) from m1))))
end
end K1
namespace K1
open PySem PySem.Spec PyProof.Rows L2 DL LM RM PK
local macro_rules | `(tactic| walk_at "side") => `(tactic| first | assumption | decide | omega | (simp; done) | (simp; omega))
local macro_rules | `(tactic| walk_at "bin") => `(tactic| first | exact bin_add | exact bin_sub | exact bin_mul (by walk_at "side") | exact bin_fdiv (by walk_at "side") | exact bin_mod (by walk_at "side") | exact bin_catm (by walk_at "side") | exact bin_cat (by walk_at "side") | exact bin_addS (by walk_at "side"))
local macro_rules | `(tactic| walk_at "cmp") => `(tactic| first | exact cmp_lt | exact cmp_le | exact cmp_gt | exact cmp_ge | exact cmp_eqI | exact cmp_neI | exact cmp_eqS | exact cmp_neS | exact cmp_eqB | exact cmp_neB | exact cmp_isN | exact cmp_notN)
local macro_rules | `(tactic| walk_at "slc") => `(tactic| first | exact slc_lm | exact slc_l | exact slc_s (by walk_at "side"))
local macro_rules | `(tactic| walk_at "len") => `(tactic| first | exact len_lm | exact len_l rfl | exact len_t rfl | exact len_s (by walk_at "side"))
local macro_rules | `(tactic| walk_at "room") => `(tactic| exact Room.mono (by assumption) (by decide))
abbrev sWr : Stmt := (topS 20)
abbrev nWr : List Str := ["_law_thing", "_law_cell", "_law_way", "_law_word", "_law_some"]
theorem scWr : FnScope nWr ["_law_thing", "_law_cell"] (defScope sWr) := ⟨rfl, rfl, rfl, by decide +kernel, rfl, by decide +kernel, by decide +kernel⟩
def wrW : List Str := ["and", "or", "then", "false", "name", "nand", "And", "not", "iff", "", "o", "thens"]
def wrWord (c : Int) : Str := wrW.getD (c / 9 % 12).toNat ""
/-- a statement's items -/
def itemsS : S → List PyData
  | .nm v => [.str "name", .str v]
  | .fls => [.str "false"]
  | .bin o a b => [.str o.word, enc a, enc b]
theorem enc_items (s : S) : enc s = .tuple (itemsS s) := by cases s <;> rfl
def wrSome (t : PyData) : List PyData := [.int 5, .int 0, .bool true, .none, .str "false", .str "name", .tuple [], .list [], .tuple [.str "name"], .tuple [.str "false", .str "a"], .tuple [.tuple [.str "false"]]] ++
  [.tuple [.list [.str "and"], t, t], .tuple [.list [.str "name"], .str "a"], .tuple [.list [.str "false"]], .tuple [.list []], .tuple [.str "name", .list [.str "a"]], .tuple [.none]] ++
  [.tuple [.tuple [.str "and"], t, t], .tuple [.int 5, t, t], .tuple [.none, t, t], .tuple [.bool true, .str "a"], .tuple [.list [], .list [], .list []]] ++
  [.tuple [.str "and", t, .list []], .tuple [.str "or", .list [t], t], .tuple [.str "then", .none, t], .tuple [.str "name", .tuple [.str "a"]], .tuple [.tuple [], .tuple []]]
def nmOf : S → Option Str
  | .nm v => some v
  | _ => none
def wrRest (s : S) (c : Int) : PyData :=
  if c % 9 = 5 then (wrSome (enc s)).getD (c / 9 % 27).toNat .none
  else if c % 9 = 6 then .tuple [.str (wrWord c), enc s, enc s]
  else if c % 9 = 7 then .tuple [.str (wrWord c), enc s]
  else .tuple [.str "name", wnD "abc" (c / 9)]
def wrFour (s : S) (c : Int) : PyData := match s with
  | .nm v => if c % 9 = 4 then .tuple [.str "name", wnD v (c / 9)] else wrRest (.nm v) c
  | s => wrRest s c
def wrongD (s : S) (c : Int) : PyData :=
  if c % 9 = 0 then .list (itemsS s)
  else if c % 9 = 1 then .tuple ([.str (wrWord c)] ++ DL.cutD (itemsS s) (some 1) none)
  else if c % 9 = 2 then .tuple (itemsS s ++ [enc s])
  else if c % 9 = 3 then .tuple (DL.cutD (itemsS s) none (some (-1)))
  else wrFour s c
def hdOf : S → Str
  | .nm _ => "name"
  | .fls => "false"
  | .bin o _ _ => o.word
theorem hd_item (s : S) : (itemsS s)[0]? = some (.str (hdOf s)) := by cases s <;> rfl
theorem hd_name {s : S} (h : hdOf s = "name") : ∃ v, s = .nm v := by
  cases s with
  | nm v => exact ⟨v, rfl⟩
  | fls => exact absurd h (by decide +kernel)
  | bin o a b => exact absurd h (word_ne o).1
theorem four_else {s : S} {c : Int} (h : (decide (c % 9 = 4) && decide (hdOf s = "name")) = false) : wrFour s c = wrRest s c := by
  cases s with
  | nm v =>
    have h4 : ¬ c % 9 = 4 := fun q => by
      rw [decide_eq_true q] at h
      cases h
    exact if_neg h4
  | fls => rfl
  | bin o a b => rfl
theorem abc_ok : NmOk "abc" := by
  refine ⟨by decide +kernel, by decide +kernel, ?_⟩
  have e : ("abc" : Str).cps.toList = [97, 98, 99] := rfl
  rw [e]
  decide
section
variable {P : Program} {w : World} {K : PySem.W.Frag} {mg : Str → Option Value} {base : Heap} {f : Addr} {fd : FuncData} {tb : List Addr} {k : Nat}
theorem rc_listT {xs : List PyData} : RcD K (fun vs H Q => ∃ p ys, vs = [.ref p] ∧ (SqL K H p ys ∨ SqT K H p ys) ∧ ∀ l, H l = none → Q (.ref l) (upd H l (.lst ys))) [.tuple xs] (.list xs) := fun Hd H vs D dx Q q => by
  cases dx with
  | cons h1 h2 =>
    cases h2
    cases h1 with
    | @tup a us _ k1 k2 => exact ⟨a, us, rfl, .inr (st_sub D.s k1), fun l hl => q _ _ _ (Gr.new D hl fun _ z => HO.noConfusion z) (.lst (.inl (.inl upd_same)) (DpAll.up k2 (Gr.new D hl fun _ z => HO.noConfusion z).d))⟩
def rWr (ds : List PyData) (d : PyData) : Prop := ∃ (s : S) (c : Int), ds = [enc s, .int c] ∧ Ok s ∧ d = wrongD s c
theorem ok_wr {kn : Nat} (F : FnP K "_law_wrong" sWr f fd) (G : FnG P w K mg base tb "_law_wrong_name" ["_law_name", "_law_cell"] kn rWn) (mls : mg "list" = none) (h1 : kn ≤ k) : FnOk P w K mg base CX0 (k + 1) f fd ["_law_thing", "_law_cell"] (spD K tb 2 rWr) := by
  refine fn_ok F scWr (by decide) ?_
  rintro ds d ⟨s, c, rfl, hok, rfl⟩ A outer s' H E hr
  have nd := scWr.nd
  have li : (itemsS s).length ≤ 3 := by cases s <;> simp [itemsS]
  have a0 : 0 ≤ c / 9 % 12 := Int.emod_nonneg _ (by decide)
  have a1 : c / 9 % 12 < 12 := Int.emod_lt_of_pos _ (by decide)
  have b0 : 0 ≤ c / 9 % 27 := Int.emod_nonneg _ (by decide)
  have b1 : c / 9 % 27 < 27 := Int.emod_lt_of_pos _ (by decide)
  refine bd_cons (sd_set 2 (ed_bin (ed_var 1) ed_int (by walk_at "bin")) nd) ?_
  refine bd_cons (sd_set 3 (ed_item ((ed_lst (ad_cons ed_str (ad_cons ed_str (ad_cons ed_str (ad_cons ed_str (ad_cons ed_str (ad_cons ed_str (ad_cons ed_str (ad_cons ed_str (ad_cons ed_str (ad_cons ed_str (ad_cons ed_str (ad_cons ed_str ad_nil)))))))))))) (by simp)).is (g := .list (wrW.map .str)) rfl) (ed_bin (ed_bin (ed_var 1) ed_int (by walk_at "bin")) ed_int (by walk_at "bin")) (by exact item_lm (xs := wrW) (g := PyData.str) (atI_pos (p := wrW) "" a0 a1))) nd) ?_
  show PBd _ _ _ _ [.dat (enc s), .dat (.int c), .dat (.int (c % 9)), .dat (.str (wrWord c)), .no] _
  unfold wrongD
  refine (bd_if (td_cmpD (ed_var 2) ed_int (by walk_at "cmp")) (fun h => ?_) rfl fun h => ?_)
  · rw [if_pos (of_decide_eq_true h)]
    exact bd_left (sd_ret (ed_callTy call_list_of (rc_listT (xs := itemsS s)) mls (by decide +kernel) (ad_cons ((ed_var 0).is (enc_items s)) ad_nil)))
  rw [if_neg (of_decide_eq_false h)]
  refine (bd_if (td_cmpD (ed_var 2) ed_int (by walk_at "cmp")) (fun h => ?_) rfl fun h => ?_)
  · rw [if_pos (of_decide_eq_true h)]
    exact bd_left (sd_ret (ed_bin (ed_tup (ad_cons (ed_var 3) ad_nil) (by simp)) (ed_slc ((ed_var 0).is (enc_items s)) (od_some ed_int) od_none slc_t) (bin_catA (by
      show 1 + (DL.cutD (itemsS s) (some 1) none).length ≤ _
      unfold DL.cutD
      rw [List.length_take, List.length_drop]
      omega))))
  rw [if_neg (of_decide_eq_false h)]
  refine (bd_if (td_cmpD (ed_var 2) ed_int (by walk_at "cmp")) (fun h => ?_) rfl fun h => ?_)
  · rw [if_pos (of_decide_eq_true h)]
    exact bd_left (sd_ret (ed_bin ((ed_var 0).is (enc_items s)) (ed_tup (ad_cons (ed_var 0) ad_nil) (by simp)) (bin_catA (by show _ + 1 ≤ _; omega))))
  rw [if_neg (of_decide_eq_false h)]
  refine (bd_if (td_cmpD (ed_var 2) ed_int (by walk_at "cmp")) (fun h => ?_) rfl fun h => ?_)
  · rw [if_pos (of_decide_eq_true h)]
    exact bd_left (sd_ret (ed_slc ((ed_var 0).is (enc_items s)) od_none (od_some (ed_neg ed_int)) slc_t))
  rw [if_neg (of_decide_eq_false h)]
  refine (bd_if (k := decide (c % 9 = 4) && decide (hdOf s = "name")) (PWd.pt (wd_and2 (td_cmpD (ed_var 2) ed_int cmp_eqI) fun hw => (wd_and1 (td_cmpD (ed_item ((ed_var 0).is (enc_items s)) ed_int (by exact item_t (atI_nat (j := 0) (hd_item s)))) ed_str cmp_eqS)))) (fun h => ?_) rfl fun h => ?_)
  · obtain ⟨h4, hn⟩ := Bool.and_eq_true_iff.mp h
    obtain ⟨v, rfl⟩ := hd_name (of_decide_eq_true hn)
    have e : wrFour (.nm v) c = .tuple [.str "name", wnD v (c / 9)] := if_pos (of_decide_eq_true h4)
    rw [e]
    exact bd_left (sd_ret (ed_tup (ad_cons ed_str (ad_cons (ed_call G (hr.mono h1) (ad_cons (ed_item (d := enc (.nm v)) (f := .str v) (ed_var 0) ed_int (item_t (atI_nat (j := 1) rfl))) (ad_cons (ed_bin (ed_var 1) ed_int (by walk_at "bin")) ad_nil)) ⟨v, _, rfl, hok, rfl⟩) ad_nil)) (by simp)))
  rw [four_else h]
  unfold wrRest
  generalize enc s = u
  refine (bd_if (td_cmpD (ed_var 2) ed_int (by walk_at "cmp")) (fun h => ?_) rfl fun h => ?_)
  · rw [if_pos (of_decide_eq_true h)]
    refine bd_cons (sd_set 4 (ed_lst (ad_cons ed_int (ad_cons ed_int (ad_cons ed_bl (ad_cons ed_non (ad_cons ed_str (ad_cons ed_str (ad_cons (ed_tup ad_nil (by simp)) (ad_cons (ed_lst ad_nil (by simp)) (ad_cons (ed_tup (ad_cons ed_str ad_nil) (by simp)) (ad_cons (ed_tup (ad_cons ed_str (ad_cons ed_str ad_nil)) (by simp)) (ad_cons (ed_tup (ad_cons (ed_tup (ad_cons ed_str ad_nil) (by simp)) ad_nil) (by simp)) ad_nil))))))))))) (by simp)) nd) ?_
    refine bd_cons (sd_set 4 (ed_bin (ed_var 4) (ed_lst (ad_cons (ed_tup (ad_cons (ed_lst (ad_cons ed_str ad_nil) (by simp)) (ad_cons (ed_var 0) (ad_cons (ed_var 0) ad_nil))) (by simp)) (ad_cons (ed_tup (ad_cons (ed_lst (ad_cons ed_str ad_nil) (by simp)) (ad_cons ed_str ad_nil)) (by simp)) (ad_cons (ed_tup (ad_cons (ed_lst (ad_cons ed_str ad_nil) (by simp)) ad_nil) (by simp)) (ad_cons (ed_tup (ad_cons (ed_lst ad_nil (by simp)) ad_nil) (by simp)) (ad_cons (ed_tup (ad_cons ed_str (ad_cons (ed_lst (ad_cons ed_str ad_nil) (by simp)) ad_nil)) (by simp)) (ad_cons (ed_tup (ad_cons ed_non ad_nil) (by simp)) ad_nil)))))) (by simp)) (bin_cat (by simp))) nd) ?_
    refine bd_cons (sd_set 4 (ed_bin (ed_var 4) (ed_lst (ad_cons (ed_tup (ad_cons (ed_tup (ad_cons ed_str ad_nil) (by simp)) (ad_cons (ed_var 0) (ad_cons (ed_var 0) ad_nil))) (by simp)) (ad_cons (ed_tup (ad_cons ed_int (ad_cons (ed_var 0) (ad_cons (ed_var 0) ad_nil))) (by simp)) (ad_cons (ed_tup (ad_cons ed_non (ad_cons (ed_var 0) (ad_cons (ed_var 0) ad_nil))) (by simp)) (ad_cons (ed_tup (ad_cons ed_bl (ad_cons ed_str ad_nil)) (by simp)) (ad_cons (ed_tup (ad_cons (ed_lst ad_nil (by simp)) (ad_cons (ed_lst ad_nil (by simp)) (ad_cons (ed_lst ad_nil (by simp)) ad_nil))) (by simp)) ad_nil))))) (by simp)) (bin_cat (by simp))) nd) ?_
    refine bd_cons (sd_set 4 ((ed_bin (ed_var 4) (ed_lst (ad_cons (ed_tup (ad_cons ed_str (ad_cons (ed_var 0) (ad_cons (ed_lst ad_nil (by simp)) ad_nil))) (by simp)) (ad_cons (ed_tup (ad_cons ed_str (ad_cons (ed_lst (ad_cons (ed_var 0) ad_nil) (by simp)) (ad_cons (ed_var 0) ad_nil))) (by simp)) (ad_cons (ed_tup (ad_cons ed_str (ad_cons ed_non (ad_cons (ed_var 0) ad_nil))) (by simp)) (ad_cons (ed_tup (ad_cons ed_str (ad_cons (ed_tup (ad_cons ed_str ad_nil) (by simp)) ad_nil)) (by simp)) (ad_cons (ed_tup (ad_cons (ed_tup ad_nil (by simp)) (ad_cons (ed_tup ad_nil (by simp)) ad_nil)) (by simp)) ad_nil))))) (by simp)) (bin_cat (by simp))).is (g := .list (wrSome u)) rfl) nd) ?_
    exact bd_left (sd_ret (ed_item (ed_var 4) (ed_bin (ed_bin (ed_var 1) ed_int (by walk_at "bin")) ed_int (by walk_at "bin")) (by exact item_lo b0 (show c / 9 % 27 < ((wrSome u).length : Int) from b1))))
  rw [if_neg (of_decide_eq_false h)]
  refine (bd_if (td_cmpD (ed_var 2) ed_int (by walk_at "cmp")) (fun h => ?_) rfl fun h => ?_)
  · rw [if_pos (of_decide_eq_true h)]
    exact bd_left (sd_ret (ed_tup (ad_cons (ed_var 3) (ad_cons (ed_var 0) (ad_cons (ed_var 0) ad_nil))) (by simp)))
  rw [if_neg (of_decide_eq_false h)]
  refine (bd_if (td_cmpD (ed_var 2) ed_int (by walk_at "cmp")) (fun h => ?_) rfl fun h => ?_)
  · rw [if_pos (of_decide_eq_true h)]
    exact bd_left (sd_ret (ed_tup (ad_cons (ed_var 3) (ad_cons (ed_var 0) ad_nil)) (by simp)))
  rw [if_neg (of_decide_eq_false h)]
  exact bd_left (sd_ret (ed_tup (ad_cons ed_str (ad_cons (ed_call G (hr.mono h1) (ad_cons ed_str (ad_cons (ed_bin (ed_var 1) ed_int (by walk_at "bin")) ad_nil)) ⟨"abc", _, rfl, abc_ok, rfl⟩) ad_nil)) (by simp)))
end
end K1
namespace K1
open PySem PySem.Spec PyProof.Rows L2 DL LM RM PK
local macro_rules | `(tactic| walk_at "side") => `(tactic| first | assumption | decide | omega | (simp; done) | (simp; omega))
local macro_rules | `(tactic| walk_at "bin") => `(tactic| first | exact bin_add | exact bin_sub | exact bin_mul (by walk_at "side") | exact bin_fdiv (by walk_at "side") | exact bin_mod (by walk_at "side") | exact bin_catm (by walk_at "side") | exact bin_cat (by walk_at "side") | exact bin_addS (by walk_at "side"))
local macro_rules | `(tactic| walk_at "cmp") => `(tactic| first | exact cmp_lt | exact cmp_le | exact cmp_gt | exact cmp_ge | exact cmp_eqI | exact cmp_neI | exact cmp_eqS | exact cmp_neS | exact cmp_eqB | exact cmp_neB | exact cmp_isN | exact cmp_notN)
local macro_rules | `(tactic| walk_at "slc") => `(tactic| first | exact slc_lm | exact slc_l | exact slc_s (by walk_at "side"))
local macro_rules | `(tactic| walk_at "len") => `(tactic| first | exact len_lm | exact len_l rfl | exact len_t rfl | exact len_s (by walk_at "side"))
local macro_rules | `(tactic| walk_at "room") => `(tactic| exact Room.mono (by assumption) (by decide))
abbrev sChg : Stmt := (topS 21)
abbrev sChain : Stmt := (topS 22)
theorem scChg : FnScope ["_law_thing", "_law_cell", "_law_wrong_here"] ["_law_thing", "_law_cell", "_law_wrong_here"] (defScope sChg) := ⟨rfl, rfl, rfl, by decide +kernel, rfl, by decide +kernel, by decide +kernel⟩
abbrev nChain : List Str := ["_law_statement", "_law_many", "_law_cell", "_law_k", "_law_word", "_law_side"]
theorem scChain : FnScope nChain ["_law_statement", "_law_many", "_law_cell"] (defScope sChain) := ⟨rfl, rfl, rfl, by decide +kernel, rfl, by decide +kernel, by decide +kernel⟩
def chgD : S → Int → Int → PyData
  | .nm v, _, w => wrongD (.nm v) w
  | .fls, _, w => wrongD .fls w
  | .bin o a b, c, w => if c % 4 = 0 then wrongD (.bin o a b) w else if c % 2 = 1 then .tuple [.str o.word, chgD a (c / 4) w, enc b] else .tuple [.str o.word, enc a, chgD b (c / 4) w]
def op3 (i : Int) : Op := match i % 3 with
  | 0 => .and
  | 1 => .or
  | _ => .thn
theorem op3_item (i : Int) : ([.str "and", .str "or", .str "then"] : List PyData).getD (i % 3).toNat .none = .str (op3 i).word := by
  have h0 : 0 ≤ i % 3 := Int.emod_nonneg _ (by decide)
  have h1 : i % 3 < 3 := Int.emod_lt_of_pos _ (by decide)
  unfold op3
  generalize i % 3 = j at h0 h1
  have h : j = 0 ∨ j = 1 ∨ j = 2 := by omega
  rcases h with rfl | rfl | rfl <;> rfl
/-- the side at turn k -/
def sideL (k : Nat) : List Int := [0, 1, (k : Int) % 2, (k : Int) / 3 % 2]
def side (c : Int) (k : Nat) : Int := (sideL k).getD (c / 3 % 4).toNat 0
theorem side_lo (c : Int) (k : Nat) : side c k = 0 ∨ side c k = 1 := by
  have h0 : 0 ≤ c / 3 % 4 := Int.emod_nonneg _ (by decide)
  have h1 : c / 3 % 4 < 4 := Int.emod_lt_of_pos _ (by decide)
  unfold side sideL
  generalize c / 3 % 4 = j at h0 h1
  have h : j = 0 ∨ j = 1 ∨ j = 2 ∨ j = 3 := by omega
  rcases h with rfl | rfl | rfl | rfl
  · exact .inl rfl
  · exact .inr rfl
  · show (k : Int) % 2 = 0 ∨ (k : Int) % 2 = 1
    omega
  · show (k : Int) / 3 % 2 = 0 ∨ (k : Int) / 3 % 2 = 1
    omega
def linkD (c : Int) (k : Nat) (s : S) : S := if side c k = 0 then .bin (op3 (c + (k : Int))) s .fls else .bin (op3 (c + (k : Int))) .fls s
def chS (c : Int) (s : S) : Nat → S
  | 0 => s
  | k + 1 => linkD c k (chS c s k)
theorem chS_ok (c : Int) {s : S} (h : Ok s) : ∀ k : Nat, Ok (chS c s k) ∧ dep (chS c s k) ≤ dep s + k
  | 0 => ⟨h, Nat.le_refl _⟩
  | k + 1 => by
    obtain ⟨h1, h2⟩ := chS_ok c h k
    have p := dep_pos (chS c s k)
    show Ok (linkD c k _) ∧ dep (linkD c k _) ≤ _
    unfold linkD
    split
    · refine ⟨⟨h1, trivial⟩, ?_⟩
      show max _ 1 + 1 ≤ _
      omega
    · refine ⟨⟨trivial, h1⟩, ?_⟩
      show max 1 _ + 1 ≤ _
      omega
theorem link_item (c : Int) (k : Nat) (s : S) : ([.tuple [.str (op3 (c + (k : Int))).word, enc s, .tuple [.str "false"]], .tuple [.str (op3 (c + (k : Int))).word, .tuple [.str "false"], enc s]] : List PyData).getD (side c k).toNat .none = enc (linkD c k s) := by
  unfold linkD
  rcases side_lo c k with h | h
  · rw [h, if_pos rfl] <;> rfl
  · rw [h, if_neg (by decide)] <;> rfl
section
variable {P : Program} {w : World} {K : PySem.W.Frag} {mg : Str → Option Value} {base : Heap} {f : Addr} {fd : FuncData} {tb : List Addr} {k : Nat}
def rChg (n : Nat) (ds : List PyData) (d : PyData) : Prop := ∃ (s : S) (c w : Int), ds = [enc s, .int c, .int w] ∧ Ok s ∧ dep s ≤ n ∧ d = chgD s c w
theorem ok_chg {n kw : Nat} (F : FnP K "_law_changed" sChg f fd) (G : FnG P w K mg base tb "_law_changed" ["_law_thing", "_law_cell", "_law_wrong_here"] k (rChg n)) (GW : FnG P w K mg base tb "_law_wrong" ["_law_thing", "_law_cell"] kw rWr) (ml : mg "len" = none) (h1 : kw ≤ k) :
    FnOk P w K mg base CX0 (k + 1) f fd ["_law_thing", "_law_cell", "_law_wrong_here"] (spD K tb 3 (rChg (n + 1))) := by
  refine fn_ok F scChg (by decide) ?_
  rintro ds d ⟨s, c, v, rfl, hok, hd, rfl⟩ A outer s' H E hr
  have nd := scChg.nd
  cases s with
  | nm x => exact (bd_if (k := true) (PWd.pt (wd_ort ((td_cmpD (ed_len (d := enc (.nm x)) (n := 2) ml (ed_var 0) (len_t rfl)) ed_int cmp_lt).is (by decide)))) (fun h => bd_left (sd_ret (ed_call GW (hr.mono h1) (ad_cons (ed_var 0) (ad_cons (ed_var 2) ad_nil)) ⟨.nm x, v, rfl, hok, rfl⟩))) rfl fun h => nomatch h)
  | fls => exact (bd_if (k := true) (PWd.pt (wd_ort ((td_cmpD (ed_len (d := enc .fls) (n := 1) ml (ed_var 0) (len_t rfl)) ed_int cmp_lt).is (by decide)))) (fun h => bd_left (sd_ret (ed_call GW (hr.mono h1) (ad_cons (ed_var 0) (ad_cons (ed_var 2) ad_nil)) ⟨.fls, v, rfl, hok, rfl⟩))) rfl fun h => nomatch h)
  | bin o a b =>
    have hd' : max (dep a) (dep b) + 1 ≤ n + 1 := hd
    show PBd _ _ _ _ _ (.rt (if c % 4 = 0 then wrongD (.bin o a b) v else if c % 2 = 1 then .tuple [.str o.word, chgD a (c / 4) v, enc b] else .tuple [.str o.word, enc a, chgD b (c / 4) v]))
    refine (bd_if (PWd.pt (wd_orf ((td_cmpD (ed_len (d := enc (.bin o a b)) (n := 3) ml (ed_var 0) (len_t rfl)) ed_int cmp_lt).is (by decide)) (wd_or1 (td_cmpD (ed_bin (ed_var 1) ed_int (by walk_at "bin")) ed_int (by walk_at "cmp"))))) (fun h => ?_) rfl fun h => ?_)
    · rw [if_pos (of_decide_eq_true h)]
      exact bd_left (sd_ret (ed_call GW (hr.mono h1) (ad_cons (ed_var 0) (ad_cons (ed_var 2) ad_nil)) ⟨.bin o a b, v, rfl, hok, rfl⟩))
    rw [if_neg (of_decide_eq_false h)]
    refine (bd_if (td_cmpD (ed_bin (ed_var 1) ed_int (by walk_at "bin")) ed_int (by walk_at "cmp")) (fun h => ?_) rfl fun h => ?_)
    · rw [if_pos (of_decide_eq_true h)]
      exact bd_left (sd_ret (ed_tup (ad_cons (ed_item (d := enc (.bin o a b)) (f := .str o.word) (ed_var 0) ed_int (item_t (atI_nat (j := 0) rfl))) (ad_cons (ed_call G hr (ad_cons (ed_item (d := enc (.bin o a b)) (f := enc a) (ed_var 0) ed_int (item_t (atI_nat (j := 1) rfl))) (ad_cons (ed_bin (ed_var 1) ed_int (by walk_at "bin")) (ad_cons (ed_var 2) ad_nil))) ⟨a, _, v, rfl, hok.1, by omega, rfl⟩) (ad_cons (ed_item (d := enc (.bin o a b)) (f := enc b) (ed_var 0) ed_int (item_t (atI_nat (j := 2) rfl))) ad_nil))) (by simp)))
    · rw [if_neg (of_decide_eq_false h)]
      exact bd_left (sd_ret (ed_tup (ad_cons (ed_item (d := enc (.bin o a b)) (f := .str o.word) (ed_var 0) ed_int (item_t (atI_nat (j := 0) rfl))) (ad_cons (ed_item (d := enc (.bin o a b)) (f := enc a) (ed_var 0) ed_int (item_t (atI_nat (j := 1) rfl))) (ad_cons (ed_call G hr (ad_cons (ed_item (d := enc (.bin o a b)) (f := enc b) (ed_var 0) ed_int (item_t (atI_nat (j := 2) rfl))) (ad_cons (ed_bin (ed_var 1) ed_int (by walk_at "bin")) (ad_cons (ed_var 2) ad_nil))) ⟨b, _, v, rfl, hok.2, by omega, rfl⟩) ad_nil))) (by simp)))
theorem chg_all {kw : Nat} (F : FnP K "_law_changed" sChg f fd) (hm : mg "_law_changed" = some (.ref f)) (hb : Binds K fd ["_law_thing", "_law_cell", "_law_wrong_here"] []) (GW : FnG P w K mg base tb "_law_wrong" ["_law_thing", "_law_cell"] kw rWr) (ml : mg "len" = none) : ∀ n : Nat, FnG P w K mg base tb "_law_changed" ["_law_thing", "_law_cell", "_law_wrong_here"] (kw + 1 + n) (rChg n)
  | 0 => ⟨f, fd, (fn_ok (k := kw) F scChg (by decide) fun ds d h => by
      obtain ⟨s, _, _, _, _, hd, _⟩ := h
      have := dep_pos s
      omega), hm, F.kp, hb⟩
  | n + 1 => ⟨f, fd, ok_chg F (chg_all F hm hb GW ml n) GW ml (Nat.le_trans (Nat.le_succ _) (Nat.le_add_right _ _)), hm, F.kp, hb⟩
def rChain (ds : List PyData) (d : PyData) : Prop := ∃ (s : S) (many cell : Int), ds = [enc s, .int many, .int cell] ∧ many < 1000 ∧ -1000 < many ∧ d = enc (chS cell s many.toNat)
theorem ok_chain (F : FnP K "_law_chain" sChain f fd) (mr : mg "range" = none) : FnOk P w K mg base CX0 (k + 1) f fd ["_law_statement", "_law_many", "_law_cell"] (spD K tb 3 rChain) := by
  refine fn_ok F scChain (by decide) ?_
  rintro ds d ⟨s, many, cell, rfl, hm, hm', rfl⟩ A outer s' H E hr
  have nd := scChain.nd
  refine bd_cons (es := [.dat (enc (chS cell s many.toNat)), .dat (.int many), .dat (.int cell), .no, .no, .no]) ?_ (bd_left (sd_ret (ed_var 0)))
  refine (sd_for (items := rngD 0 many.toNat) 3 (fun i => [.dat (enc (chS cell s i)), .dat (.int many), .dat (.int cell), .no, .no, .no]) PassesOwn.never rfl (id_rng1 mr (ed_var 1) (by omega) (by omega)) nd rfl (fun i d e => ?_)).is ?_
  · unfold rngD at e
    rw [List.getElem?_map] at e
    have hi : i < many.toNat := by
      cases q : (List.range many.toNat)[i]? with
      | none =>
        rw [q] at e
        cases e
      | some z =>
        have := (List.getElem?_eq_some_iff.mp q).1
        rw [List.length_range] at this
        exact this
    rw [List.getElem?_range hi] at e
    cases e
    have z0 : (0 : Int) + (i : Int) = (i : Int) := Int.zero_add _
    have m0 : 0 ≤ (cell + (i : Int)) % 3 := Int.emod_nonneg _ (by decide)
    have m1 : (cell + (i : Int)) % 3 < 3 := Int.emod_lt_of_pos _ (by decide)
    have n0 : 0 ≤ cell / 3 % 4 := Int.emod_nonneg _ (by decide)
    have n1 : cell / 3 % 4 < 4 := Int.emod_lt_of_pos _ (by decide)
    have sl := side_lo cell i
    have sl0 : 0 ≤ side cell i := by rcases sl with h | h <;> omega
    have sl1 : side cell i < 2 := by rcases sl with h | h <;> omega
    have sv : ((sideL i).map PyData.int).getD (cell / 3 % 4).toNat .none = .int (side cell i) := by
      have e1 : (cell / 3 % 4).toNat < (sideL i).length := by
        show (cell / 3 % 4).toNat < 4
        omega
      unfold side
      rw [List.getD_eq_getElem?_getD, List.getD_eq_getElem?_getD, List.getElem?_map, List.getElem?_eq_getElem e1] <;> rfl
    show PBd _ _ _ _ [.dat (enc (chS cell s i)), .dat (.int many), .dat (.int cell), .dat (.int (0 + (i : Int))), .no, .no] _
    rw [z0]
    exact bd_wk (bd_cons (sd_set 4 (ed_item (ed_lst (ad_cons ed_str (ad_cons ed_str (ad_cons ed_str ad_nil))) (by decide)) (ed_bin (ed_bin (ed_var 2) (ed_var 3) (by walk_at "bin")) ed_int (by walk_at "bin")) (by exact ItemD.is (item_lo m0 m1) (op3_item _))) nd)
      (bd_cons (sd_set 5 (ed_item ((ed_lst (ad_cons ed_int (ad_cons ed_int (ad_cons (ed_bin (ed_var 3) ed_int (by walk_at "bin")) (ad_cons (ed_bin (ed_bin (ed_var 3) ed_int (by walk_at "bin")) ed_int (by walk_at "bin")) ad_nil)))) (by simp)).is (g := .list ((sideL i).map .int)) rfl) (ed_bin (ed_bin (ed_var 2) ed_int (by walk_at "bin")) ed_int (by walk_at "bin")) (by exact ItemD.is (item_lo n0 n1) sv)) nd)
      (bd_cons (sd_set 0 (ed_item (ed_lst (ad_cons (ed_tup (ad_cons (ed_var 4) (ad_cons (ed_var 0) (ad_cons (ed_tup (ad_cons ed_str ad_nil) (by decide)) ad_nil))) (by simp)) (ad_cons (ed_tup (ad_cons (ed_var 4) (ad_cons (ed_tup (ad_cons ed_str ad_nil) (by decide)) (ad_cons (ed_var 0) ad_nil))) (by simp)) ad_nil)) (by simp)) (ed_var 5) (by exact ItemD.is (item_lo sl0 sl1) (link_item cell i (chS cell s i)))) nd)
      bd_nil))) (.same _ (.same _ (.same _ (.no _ (.no _ (.no _ .nil))))))
  · unfold rngD
    rw [List.length_map, List.length_range]
end
end K1
namespace K1
open PySem PySem.Spec PyProof.Rows L2 DL LM RM PK SHLV
open SHLF (ShC gr_back natsV dpa_nats)
open PT (sz sz_u)
/-! ### what may be compared -/
inductive AllFn (n : Nat) : List PyData → Prop where
  | nil : AllFn n []
  | cons {x : PyData} {l : List PyData} : Fn n x → AllFn n l → AllFn n (x :: l)
theorem AllFn.mem {n : Nat} : ∀ {l : List PyData}, AllFn n l → ∀ x ∈ l, Fn n x
  | _, .nil, _, h => nomatch h
  | _, .cons a b, x, h => by
    rcases List.mem_cons.mp h with rfl | h
    · exact a
    · exact b.mem x h
theorem AllFn.of {n : Nat} : ∀ {l : List PyData}, (∀ x ∈ l, Fn n x) → AllFn n l
  | [], _ => .nil
  | x :: l, h => .cons (h x List.mem_cons_self) (AllFn.of fun y hy => h y (List.mem_cons_of_mem _ hy))
theorem AllFn.app {n : Nat} {l k : List PyData} (h : AllFn n l) (h2 : AllFn n k) : AllFn n (l ++ k) := AllFn.of fun x hx => (List.mem_append.mp hx).elim (h.mem x) (h2.mem x)
theorem fnN {n : Nat} : Fn n .none := ⟨by rw [PyData.canLay0], by rw [PyData.depth]; exact Nat.zero_le _, by rw [fineD] <;> exact fun _ h => nomatch h⟩
theorem fnB {n : Nat} (b : Bool) : Fn n (.bool b) := ⟨by rw [PyData.canLay0], by rw [PyData.depth]; exact Nat.zero_le _, by rw [fineD] <;> exact fun _ h => nomatch h⟩
theorem fnI {n : Nat} (i : Int) : Fn n (.int i) := (fn_int i).mono (Nat.zero_le _)
theorem fnS {n : Nat} {z : Str} (h : SOk z) : Fn n (.str z) := h.fn.mono (Nat.zero_le _)
theorem fnT {n : Nat} {l : List PyData} (h : AllFn n l) : Fn (n + 1) (.tuple l) := (fn_list h.mem).2
theorem fnL {n : Nat} {l : List PyData} (h : AllFn n l) : Fn (n + 1) (.list l) := (fn_list h.mem).1
theorem AllFn.get {n : Nat} {l : List PyData} (h : AllFn n l) (i : Nat) : Fn n (l.getD i .none) := by
  rw [List.getD_eq_getElem?_getD]
  cases q : l[i]? with
  | none => exact fnN
  | some x => exact h.mem x (List.mem_of_getElem? q)
theorem word_sok (o : Op) : SOk o.word := by cases o <;> exact ⟨by decide +kernel, by decide +kernel⟩
theorem lits : SOk "name" ∧ SOk "false" ∧ SOk "and" ∧ SOk "or" ∧ SOk "then" ∧ SOk "a" := ⟨⟨by decide +kernel, by decide +kernel⟩, ⟨by decide +kernel, by decide +kernel⟩, ⟨by decide +kernel, by decide +kernel⟩, ⟨by decide +kernel, by decide +kernel⟩, ⟨by decide +kernel, by decide +kernel⟩, ⟨by decide +kernel, by decide +kernel⟩⟩
theorem fn_enc : ∀ s : S, Ok s → Fn (dep s) (enc s)
  | .nm v, h => fnT (n := 0) (.cons (fnS lits.1) (.cons (fnS (NmOk.sok h)) .nil))
  | .fls, _ => fnT (n := 0) (.cons (fnS lits.2.1) .nil)
  | .bin o a b, h => fnT (n := max (dep a) (dep b)) (.cons (fnS (word_sok o)) (.cons ((fn_enc a h.1).mono (Nat.le_max_left _ _)) (.cons ((fn_enc b h.2).mono (Nat.le_max_right _ _)) .nil)))
theorem fn_wn {z : Str} (h : NmOk z) (c : Int) : Fn 1 (wnD z c) := by
  have hz : SOk z := NmOk.sok (z := z) h
  have z8 := h.2.1
  have c1 := cutS_le z none (some (wnAt z c))
  have c2 := cutS_le z (some (wnAt z c + 1)) none
  have l1 : (wnSg c).length = 1 := rfl
  have l2 : ("abcdefgh" : Str).length = 8 := by decide +kernel
  have sg : SOk (wnSg c) := sgn_ok wnS_ok _
  refine AllFn.get ?_ _
  refine .cons (fnS (SOk.app (SOk.app (hz.cut _ _) sg (by omega)) (hz.cut _ _) ?_)) (.cons (fnS (SOk.app hz sg (by omega))) (.cons (fnS (SOk.app hz lit_ok (by omega))) (.cons (fnS emp_ok) (.cons (fnI 7) (.cons (fnB true) (.cons fnN (.cons (fnL (n := 0) (.cons (fnS hz) .nil)) .nil)))))))
  rw [app_len]
  omega
theorem wrWord_ok (c : Int) : SOk (wrWord c) := by
  have h : ∀ z ∈ wrW, SOk z := by
    intro z hz
    have h2 : wrW.all (fun z => decide (z.length ≤ 1000) && z.cps.toList.all fun c => decide (c < 0x110000)) = true := by decide +kernel
    have := List.all_eq_true.mp h2 z hz
    rw [Bool.and_eq_true, decide_eq_true_eq, List.all_eq_true] at this
    exact ⟨this.1, fun c hc => of_decide_eq_true (this.2 c hc)⟩
  unfold wrWord
  rw [List.getD_eq_getElem?_getD]
  cases q : wrW[(c / 9 % 12).toNat]? with
  | none => exact emp_ok
  | some z => exact h z (List.mem_of_getElem? q)
theorem fn_some {n : Nat} {t : PyData} (h : Fn n t) : AllFn (n + 2) (wrSome t) := by
  obtain ⟨k1, k2, k3, k4, k5, k6⟩ := lits
  have h1 : Fn (n + 1) t := h.mono (by omega)
  unfold wrSome
  refine AllFn.app (AllFn.app (AllFn.app ?_ ?_) ?_) ?_
  all_goals repeat' first
    | exact AllFn.nil
    | refine AllFn.cons ?_ ?_
    | exact h1
    | exact h
    | exact fnN
    | exact fnI _
    | exact fnB _
    | exact fnS k1
    | exact fnS k2
    | exact fnS k3
    | exact fnS k4
    | exact fnS k5
    | exact fnS k6
    | refine fnT ?_
    | refine fnL ?_
theorem fn_items (s : S) (h : Ok s) : AllFn (dep s) (itemsS s) := by
  have := fn_enc s h
  rw [enc_items] at this
  obtain ⟨n, e⟩ := this.pos
  rw [e] at this ⊢
  exact AllFn.of fun x hx => (this.mem hx).mono (Nat.le_succ _)
theorem fn_wrong (s : S) (c : Int) (h : Ok s) : Fn (dep s + 2) (wrongD s c) := by
  have he := fn_enc s h
  have hi := fn_items s h
  have rest : Fn (dep s + 2) (wrRest s c) := by
    unfold wrRest
    split
    · exact (fn_some he).get _
    split
    · exact (fnT (n := dep s) (.cons (fnS (wrWord_ok c)) (.cons he (.cons he .nil)))).mono (by omega)
    split
    · exact (fnT (n := dep s) (.cons (fnS (wrWord_ok c)) (.cons he .nil))).mono (by omega)
    · exact (fnT (n := 1) (.cons (fnS lits.1) (.cons (fn_wn abc_ok _) .nil))).mono (by omega)
  unfold wrongD
  split
  · exact (fnL hi).mono (by omega)
  split
  · exact (fnT (n := dep s) ((AllFn.cons (fnS (wrWord_ok c)) .nil).app (AllFn.of fun x hx => hi.mem x (mem_cut hx)))).mono (by omega)
  split
  · exact (fnT (n := dep s) (hi.app (.cons he .nil))).mono (by omega)
  split
  · exact (fnT (n := dep s) (AllFn.of fun x hx => hi.mem x (mem_cut hx))).mono (by omega)
  · unfold wrFour
    split
    · rename_i v
      split
      · exact (fnT (n := 1) (.cons (fnS lits.1) (.cons (fn_wn h _) .nil))).mono (by omega)
      · exact rest
    · exact rest
theorem fn_chg : ∀ (s : S) (c w : Int), Ok s → Fn (dep s + 2) (chgD s c w)
  | .nm v, _, w, h => fn_wrong _ w h
  | .fls, _, w, h => fn_wrong _ w h
  | .bin o a b, c, w, h => by
    unfold chgD
    split
    · exact fn_wrong _ w h
    split
    · exact fnT (n := max (dep a) (dep b) + 2) (.cons (fnS (word_sok o)) (.cons ((fn_chg a (c / 4) w h.1).mono (by omega)) (.cons ((fn_enc b h.2).mono (by omega)) .nil)))
    · exact fnT (n := max (dep a) (dep b) + 2) (.cons (fnS (word_sok o)) (.cons ((fn_enc a h.1).mono (by omega)) (.cons ((fn_chg b (c / 4) w h.2).mono (by omega)) .nil)))
/-! ### how many there may be in a level -/
def ndD : Nat → PyData → Nat
  | n + 1, .tuple [_, a, b] => ndD n a + ndD n b + 1
  | _, _ => 1
theorem nd_pos : ∀ (n : Nat) (d : PyData), 1 ≤ ndD n d := by
  intro n d
  unfold ndD
  split
  · exact Nat.le_add_left _ _
  · exact Nat.le_refl _
theorem nd_three (n : Nat) (x a b : PyData) : ndD n (.tuple [x, a, b]) ≤ ndD (n - 1) a + ndD (n - 1) b + 1 := by
  cases n with
  | zero => show 1 ≤ _; omega
  | succ n => exact Nat.le_refl _
theorem nd_enc : ∀ (n : Nat) (s : S), ndD n (enc s) ≤ sz s
  | 0, s => by
    show 1 ≤ sz s
    cases s <;> exact Nat.succ_pos _
  | n + 1, .nm v => Nat.le_refl _
  | n + 1, .fls => Nat.le_refl _
  | n + 1, .bin o a b => by
    have h1 := nd_enc n a
    have h2 := nd_enc n b
    show ndD n (enc a) + ndD n (enc b) + 1 ≤ sz a + sz b + 1
    omega
theorem nd_one {n : Nat} {d : PyData} (h : ∀ x a b, d ≠ .tuple [x, a, b]) : ndD n d = 1 := by
  unfold ndD
  split
  · rename_i m x a b
    exact absurd rfl (h x a b)
  · rfl
def ndM (t : PyData) (m : Nat) (d : PyData) : Prop := ∀ n, ndD n d ≤ m
theorem nm_at {t : PyData} {m : Nat} {d : PyData} (h : ∀ x a b, d ≠ .tuple [x, a, b]) (hm : 1 ≤ m) : ndM t m d := fun n => by rw [nd_one h]; exact hm
theorem nd_some {t : PyData} {m : Nat} (h : ∀ n, ndD n t ≤ m) (i : Nat) : ∀ n, ndD n ((wrSome t).getD i .none) ≤ 2 * m + 2 := by
  have hm : 1 ≤ m := Nat.le_trans (nd_pos 0 t) (h 0)
  have key : ∀ x ∈ wrSome t, ∀ n, ndD n x ≤ 2 * m + 2 := by
    intro x hx n
    unfold wrSome at hx
    simp only [List.cons_append, List.nil_append, List.mem_cons, List.not_mem_nil, or_false] at hx
    have h1 := h (n - 1)
    rcases hx with rfl | rfl | rfl | rfl | rfl | rfl | rfl | rfl | rfl | rfl | rfl | rfl | rfl | rfl | rfl | rfl | rfl | rfl | rfl | rfl | rfl | rfl | rfl | rfl | rfl | rfl | rfl
    all_goals first
      | (refine Nat.le_trans (nd_three _ _ _ _) ?_
         first
           | omega
           | (rw [nd_one (d := PyData.str _) (fun _ _ _ h => by cases h)]; omega)
           | (rw [nd_one (d := PyData.list []) (fun _ _ _ h => by cases h)]; omega)
           | (rw [nd_one (d := PyData.list [_]) (fun _ _ _ h => by cases h)]; omega)
           | (rw [nd_one (d := PyData.none) (fun _ _ _ h => by cases h)]; omega))
      | (rw [nd_one (fun _ _ _ h => by cases h)]; omega)
  intro n
  rw [List.getD_eq_getElem?_getD]
  cases q : (wrSome t)[i]? with
  | none =>
    show ndD n .none ≤ _
    rw [nd_one (fun _ _ _ h => by cases h)]
    omega
  | some x => exact key x (List.mem_of_getElem? q) n
theorem nd_wrong (s : S) (c : Int) : ∀ n, ndD n (wrongD s c) ≤ 2 * sz s + 2 := by
  intro n
  have hs := fun n => nd_enc n s
  have hp : 1 ≤ sz s := by cases s <;> exact Nat.succ_pos _
  have two : ∀ x y : PyData, ndD n (.tuple [x, y]) = 1 := fun x y => nd_one fun _ _ _ h => by cases h
  have rest : ndD n (wrRest s c) ≤ 2 * sz s + 2 := by
    unfold wrRest
    split
    · exact nd_some hs _ n
    split
    · refine Nat.le_trans (nd_three _ _ _ _) ?_
      have := hs (n - 1)
      omega
    split
    · rw [two]; omega
    · rw [two]; omega
  unfold wrongD
  split
  · rw [nd_one (fun _ _ _ h => by cases h)]; omega
  split
  · rw [show DL.cutD (itemsS s) (some 1) none = (itemsS s).drop 1 from cut_all _ 1]
    cases s with
    | nm v =>
      show ndD n (.tuple [.str (wrWord c), .str v]) ≤ _
      rw [two]; omega
    | fls =>
      show ndD n (.tuple [.str (wrWord c)]) ≤ _
      rw [nd_one (fun _ _ _ h => by cases h)]; omega
    | bin o a b =>
      show ndD n (.tuple [.str (wrWord c), enc a, enc b]) ≤ _
      refine Nat.le_trans (nd_three _ _ _ _) ?_
      have h1 := nd_enc (n - 1) a
      have h2 := nd_enc (n - 1) b
      show _ ≤ 2 * (sz a + sz b + 1) + 2
      omega
  split
  · cases s with
    | nm v =>
      show ndD n (.tuple [.str "name", .str v, enc (.nm v)]) ≤ _
      refine Nat.le_trans (nd_three _ _ _ _) ?_
      have h1 := nd_enc (n - 1) (.nm v)
      rw [nd_one (d := PyData.str v) (fun _ _ _ h => by cases h)]
      omega
    | fls =>
      show ndD n (.tuple [.str "false", enc .fls]) ≤ _
      rw [two]; omega
    | bin o a b =>
      show ndD n (.tuple [.str o.word, enc a, enc b, enc (.bin o a b)]) ≤ _
      rw [nd_one (fun _ _ _ h => by cases h)]; omega
  split
  · rw [cut_init]
    cases s with
    | nm v =>
      show ndD n (.tuple [.str "name"]) ≤ _
      rw [nd_one (fun _ _ _ h => by cases h)]; omega
    | fls =>
      show ndD n (.tuple []) ≤ _
      rw [nd_one (fun _ _ _ h => by cases h)]; omega
    | bin o a b =>
      show ndD n (.tuple [.str o.word, enc a]) ≤ _
      rw [two]; omega
  · unfold wrFour
    split
    · split
      · rw [two]; omega
      · exact rest
    · exact rest
theorem nd_chg : ∀ (n : Nat) (s : S) (c w : Int), ndD n (chgD s c w) ≤ 2 * sz s + 2
  | n, .nm v, _, w => nd_wrong _ w n
  | n, .fls, _, w => nd_wrong _ w n
  | n, .bin o a b, c, w => by
    unfold chgD
    split
    · exact nd_wrong _ w n
    have e : sz (.bin o a b) = sz a + sz b + 1 := rfl
    rw [e]
    split
    · refine Nat.le_trans (nd_three _ _ _ _) ?_
      have h1 := nd_chg (n - 1) a (c / 4) w
      have h2 := nd_enc (n - 1) b
      omega
    · refine Nat.le_trans (nd_three _ _ _ _) ?_
      have h1 := nd_enc (n - 1) a
      have h2 := nd_chg (n - 1) b (c / 4) w
      omega
def ndS (n : Nat) (l : List PyData) : Nat := (l.map (ndD n)).sum
theorem nds_app (n : Nat) (l k : List PyData) : ndS n (l ++ k) = ndS n l + ndS n k := by
  unfold ndS
  rw [List.map_append, List.sum_append]
theorem nds_len (n : Nat) : ∀ l : List PyData, l.length ≤ ndS n l
  | [] => Nat.zero_le _
  | x :: l => by
    have h1 := nd_pos n x
    have h2 := nds_len n l
    show l.length + 1 ≤ ndD n x + ndS n l
    omega
theorem nds_halves (n : Nat) (d : PyData) : ndS n (halvesD d) ≤ ndD (n + 1) d := by
  unfold halvesD
  split
  · rename_i w a b
    show ndD n a + (ndD n b + 0) ≤ ndD n a + ndD n b + 1
    omega
  · exact Nat.zero_le _
theorem nds_flat (n : Nat) : ∀ l : List PyData, ndS n (l.flatMap halvesD) ≤ ndS (n + 1) l
  | [] => Nat.zero_le _
  | x :: l => by
    have h1 := nds_halves n x
    have h2 := nds_flat n l
    rw [List.flatMap_cons, nds_app]
    show _ ≤ ndD (n + 1) x + ndS (n + 1) l
    omega
theorem nds_fold (n : Nat) : ∀ (hs l : List PyData), ndS n (hs.foldl took l) ≤ ndS n l + ndS n hs
  | [], l => Nat.le_refl _
  | h :: hs, l => by
    have h1 := nds_fold n hs (took l h)
    have h2 : ndS n (took l h) ≤ ndS n l + ndD n h := by
      unfold took
      split
      · omega
      · rw [nds_app]
        show _ ≤ _
        have : ndS n [h] = ndD n h := Nat.add_zero _
        omega
    show ndS n (hs.foldl took (took l h)) ≤ ndS n l + (ndD n h + ndS n hs)
    omega
theorem nds_below (n : Nat) (l : List PyData) : ndS n (belowD l) ≤ ndS (n + 1) l := by
  have h1 := nds_fold n (l.flatMap halvesD) []
  have h2 := nds_flat n l
  have h3 : ndS n [] = 0 := rfl
  unfold belowD
  omega
/-! ### what is left when equal ones go -/
theorem fold_sub : ∀ (hs l : List PyData) (x : PyData), x ∈ hs.foldl took l → x ∈ l ∨ x ∈ hs
  | [], l, x, h => .inl h
  | h :: hs, l, x, hx => by
    rcases fold_sub hs (took l h) x hx with q | q
    · unfold took at q
      split at q
      · exact .inl q
      · rcases List.mem_append.mp q with q | q
        · exact .inl q
        · rw [List.mem_singleton.mp q]
          exact .inr List.mem_cons_self
    · exact .inr (List.mem_cons_of_mem _ q)
theorem fold_keep : ∀ (hs l : List PyData) (x : PyData), x ∈ l → x ∈ hs.foldl took l
  | [], l, x, h => h
  | h :: hs, l, x, hx => fold_keep hs (took l h) x (by
    unfold took
    split
    · exact hx
    · exact List.mem_append_left _ hx)
theorem fold_rep (hr : ∀ x : PyData, x.canLay0 = true → PyData.eqv x x = true) : ∀ (hs l : List PyData), (∀ x ∈ hs, x.canLay0 = true) → ∀ x ∈ hs, ∃ y ∈ hs.foldl took l, PyData.eqv y x = true
  | [], _, _, x, hx => nomatch hx
  | h :: hs, l, hl, x, hx => by
    rcases List.mem_cons.mp hx with rfl | hx
    · by_cases q : inB l x = true
      · obtain ⟨y, hy, e⟩ := inB_mem q
        exact ⟨y, fold_keep hs _ y (by unfold took; rw [if_pos q]; exact hy), e⟩
      · exact ⟨x, fold_keep hs _ x (by unfold took; rw [if_neg q]; exact List.mem_append_right _ (List.mem_singleton.mpr rfl)), hr x (hl x List.mem_cons_self)⟩
    · exact fold_rep hr hs (took l h) (fun y hy => hl y (List.mem_cons_of_mem _ hy)) x hx
theorem ded_below {l : List PyData} (h : ∀ x ∈ l, Fn 62 x) : Ded (l.flatMap halvesD) (belowD l) := ⟨fun x hx => (fold_sub _ _ x hx).elim (fun q => nomatch q) id, fun x hx => fold_rep (fun x hx => SeqAt.eqv_refl _ hx) _ [] (fun y hy => by
  obtain ⟨z, hz, hy⟩ := List.mem_flatMap.mp hy
  exact (halves_fn (h z hz) y hy).lay) x hx⟩
def lev (e : PyData) : Nat → List PyData
  | 0 => [e]
  | i + 1 => belowD (lev e i)
theorem lev_fn {e : PyData} (h : Fn 62 e) : ∀ i, ∀ x ∈ lev e i, Fn 62 x
  | 0, x, hx => by
    rw [List.mem_singleton.mp hx]
    exact h
  | i + 1, x, hx => by
    have ih := lev_fn h i
    rcases fold_sub _ _ x hx with q | q
    · cases q
    · obtain ⟨z, hz, q⟩ := List.mem_flatMap.mp q
      exact halves_fn (ih z hz) x q
theorem lev_nd (e : PyData) : ∀ i n, ndS n (lev e i) ≤ ndD (n + i) e
  | 0, n => Nat.le_refl _
  | i + 1, n => by
    have h1 := nds_below n (lev e i)
    have h2 := lev_nd e i (n + 1)
    have : n + 1 + i = n + (i + 1) := by omega
    rw [this] at h2
    show ndS n (belowD (lev e i)) ≤ _
    omega
theorem lev_is {e : PyData} (h : Fn 62 e) : ∀ n i : Nat, (∀ j, j < i → (lev e j).all formedD = true) → (lev e i).all (isD n) = (if (List.range n).all (fun j => (lev e (i + j)).all formedD) = true then (lev e (i + n)).isEmpty else false)
  | 0, i, _ => by
    show (lev e i).all (isD 0) = (lev e i).isEmpty
    cases lev e i <;> rfl
  | n + 1, i, hi => by
    by_cases q : (lev e i).all formedD = true
    · have e1 : (lev e i).all (isD (n + 1)) = ((lev e i).flatMap halvesD).all (isD n) := by
        have e1 : isD (n + 1) = fun x => formedD x && (halvesD x).all (isD n) := funext (isD_succ n)
        rw [e1]
        revert q
        generalize lev e i = l
        intro q
        induction l with
        | nil => rfl
        | cons x r ih =>
          rw [List.all_cons, Bool.and_eq_true] at q
          rw [List.all_cons, ih q.2, List.flatMap_cons, List.all_append, q.1, Bool.true_and]
      have ih := lev_is h n (i + 1) fun j hj => by
        by_cases z : j < i
        · exact hi j z
        · have : j = i := by omega
          rw [this]
          exact q
      have d := (ded_below (lev_fn h i)).all n
      have e2 : (lev e (i + 1)).all (isD n) = ((lev e i).flatMap halvesD).all (isD n) := d
      rw [e1, ← e2, ih]
      have e3 : (List.range (n + 1)).all (fun j => (lev e (i + j)).all formedD) = (List.range n).all (fun j => (lev e (i + 1 + j)).all formedD) := by
        rw [List.range_succ_eq_map, List.all_cons, List.all_map]
        show ((lev e (i + 0)).all formedD && _) = _
        rw [Nat.add_zero, q, Bool.true_and]
        refine List.all_congr rfl fun j => ?_
        show (lev e (i + (j + 1))).all formedD = _
        rw [show i + (j + 1) = i + 1 + j by omega]
      rw [e3, show i + 1 + n = i + (n + 1) by omega]
    · have qf : (lev e i).all formedD = false := by cases z : (lev e i).all formedD with | true => exact absurd z q | false => rfl
      have e1 : (lev e i).all (isD (n + 1)) = false := by
        cases z : (lev e i).all (isD (n + 1)) with
        | false => rfl
        | true =>
          refine absurd ?_ q
          rw [List.all_eq_true] at z ⊢
          intro x hx
          have := z x hx
          rw [isD_succ, Bool.and_eq_true] at this
          exact this.1
      have e3 : (List.range (n + 1)).all (fun j => (lev e (i + j)).all formedD) = false := by
        rw [List.range_succ_eq_map, List.all_cons]
        show ((lev e (i + 0)).all formedD && _) = _
        rw [Nat.add_zero, qf, Bool.false_and]
      rw [e1, e3, if_neg Bool.false_ne_true]
end K1
namespace K1
open PySem PySem.Spec PyProof.Rows L2 DL LM RM PK SHLV GX
local macro_rules | `(tactic| walk_at "side") => `(tactic| first | assumption | decide | omega | (simp; done) | (simp; omega))
local macro_rules | `(tactic| walk_at "bin") => `(tactic| first | exact bin_add | exact bin_sub | exact bin_mul (by walk_at "side") | exact bin_fdiv (by walk_at "side") | exact bin_mod (by walk_at "side") | exact bin_catm (by walk_at "side") | exact bin_cat (by walk_at "side") | exact bin_addS (by walk_at "side"))
local macro_rules | `(tactic| walk_at "cmp") => `(tactic| first | exact cmp_lt | exact cmp_le | exact cmp_gt | exact cmp_ge | exact cmp_eqI | exact cmp_neI | exact cmp_eqS | exact cmp_neS | exact cmp_eqB | exact cmp_neB | exact cmp_isN | exact cmp_notN)
local macro_rules | `(tactic| walk_at "slc") => `(tactic| first | exact slc_lm | exact slc_l | exact slc_s (by walk_at "side"))
local macro_rules | `(tactic| walk_at "len") => `(tactic| first | exact len_lm | exact len_l rfl | exact len_t rfl | exact len_s (by walk_at "side"))
local macro_rules | `(tactic| walk_at "room") => `(tactic| exact Room.mono (by assumption) (by decide))
abbrev sIs : Stmt := (topS 5)
abbrev nIs : List Str := ["thing", "level", "_"]
theorem scIs : FnScope nIs ["thing"] (defScope sIs) := ⟨rfl, rfl, rfl, by decide +kernel, rfl, by decide +kernel, by decide +kernel⟩
section
variable {P : Program} {w : World} {K : PySem.W.Frag} {mg : Str → Option Value} {base : Heap} {f : Addr} {fd : FuncData} {tb : List Addr} {k : Nat}
def rIs (ds : List PyData) (d : PyData) : Prop := ∃ e : PyData, ds = [e] ∧ Fn 62 e ∧ (∀ n, ndD n e ≤ 1000000) ∧ d = .bool (isD 30 e)
theorem lev_len {e : PyData} (h : ∀ n, ndD n e ≤ 1000000) (i : Nat) : (lev e i).length ≤ 1000000 := by
  have h1 := nds_len 0 (lev e i)
  have h2 := lev_nd e i 0
  have h3 := h (0 + i)
  omega
theorem ok_is {C Pt : Addr} {kf kb : Nat} (F : FnP K "is_statement" sIs f fd) (hP : Pt ∈ tb) (TB : GxR.TabB base mg C Pt) (hcode : fd.code = .ref C) (GF : FnG P w K mg base tb "is_formed" ["thing"] kf rFormedD) (GB : FnG P w K mg base tb "level_below" ["level"] kb rBelow)
    (ml : mg "len" = none) (ma : mg "all" = none) (mr : mg "range" = none) (mD : ∃ t, mg "DEEPEST" = some (.int 30 t)) (h1 : kf + 1 ≤ k) (h2 : kb ≤ k) : FnOk P w K mg base CX0 (k + 1) f fd ["thing"] (spD K tb 1 rIs) := by
  refine fn_ok F scIs (by decide) ?_
  rintro ds d ⟨e, rfl, he, hn, rfl⟩ A outer s' H E hr
  have nd := scIs.nd
  have hfn := lev_fn he
  have hln := lev_len hn
  have L0 := lev_is he 30 0 fun j hj => absurd hj (Nat.not_lt_zero _)
  have e0 : (lev e 0).all (isD 30) = isD 30 e := by
    show (isD 30 e && true) = _
    rw [Bool.and_true]
  rw [e0] at L0
  refine bd_cons (sd_set 1 (d := .list (lev e 0)) (ed_lst (ad_cons (ed_var 0) ad_nil) (by show 1 ≤ 1000000; decide)) nd) ?_
  have rl : (rngD 0 (30 : Int).toNat).length = 30 := rng0_len 30
  rcases first_badN (fun i => (lev e i).all formedD) 30 with h | ⟨m, hm, hb, hgood⟩
  · have hall : (List.range 30).all (fun j => (lev e (0 + j)).all formedD) = true := by
      rw [List.all_eq_true]
      intro j hj
      rw [Nat.zero_add]
      exact h j (List.mem_range.mp hj)
    rw [hall, if_pos rfl] at L0
    refine bd_cons (es := [.dat e, .dat (.list (lev e 30)), .no]) ?_ (bd_left (sd_ret ((ed_cmpD (ed_len ml (ed_var 1) (len_l rfl)) ed_int (by walk_at "cmp")).is ?_)))
    · refine (sd_for (items := rngD 0 (30 : Int).toNat) 2 (fun i => [.dat e, .dat (.list (lev e i)), .no]) PassesOwn.never rfl (id_rng1 mr (ed_gInt mD) (by decide) (by decide)) nd rfl (fun i d ei => ?_)).is ?_
      · have hi := (rng0_at ei).1
        have hi : i < 30 := hi
        refine bd_wk (es := [.dat e, .dat (.list (lev e (i + 1))), .dat d]) ?_ (.same _ (.same _ (.no _ .nil)))
        refine bd_cons (sd_if (k := false) ((td_not (td_val (ed_allG (Ng := ["one"]) (mp := [none]) (k := kf) (lev e i) id formedD (fun y => [.dat y]) hP (hr.mono h1) ma TB hcode
          (gxOk_by (N := nIs) (sc := defScope sIs) (by decide +kernel)) (by rw [List.map_id]; exact id_list (ed_var 1)) (pg_gx 0) (fun y _ => tg_name 0) (fun j y hy _ s2 H2 code fp => ?_)))).is (by rw [h i hi] <;> rfl)) (fun h => nomatch h) fun _ => bd_nil) ?_
        · exact ed_call GF (room_gx (hr.mono h1) _) (ad_cons (ed_var 0) ad_nil) ⟨y, 62, rfl, Nat.le_refl _, hfn i y (List.mem_of_getElem? hy), rfl⟩
        · refine bd_cons (sd_set 1 (d := .list (lev e (i + 1))) (ed_call GB (hr.mono h2) (ad_cons (ed_var 1) ad_nil) ⟨lev e i, rfl, fun x hx => ⟨hfn i x hx, List.all_eq_true.mp (h i hi) x hx⟩, Nat.le_trans (hln i) (by decide), rfl⟩) nd) bd_nil
      · rw [rl] <;> rfl
    · rw [L0]
      cases lev e 30 with
      | nil => rfl
      | cons x r =>
        show PyData.bool (decide (((r.length + 1 : Nat) : Int) = 0)) = .bool false
        rw [decide_eq_false (by omega)]
  · have hall : (List.range 30).all (fun j => (lev e (0 + j)).all formedD) = false := by
      cases z : (List.range 30).all (fun j => (lev e (0 + j)).all formedD) with
      | false => rfl
      | true =>
        have := List.all_eq_true.mp z m (List.mem_range.mpr hm)
        rw [Nat.zero_add] at this
        rw [this] at hb
        cases hb
    rw [hall, if_neg Bool.false_ne_true] at L0
    rw [L0]
    refine bd_left (sd_forX (items := rngD 0 (30 : Int).toNat) 2 m (fun i => [.dat e, .dat (.list (lev e i)), .no]) PassesOwn.never rfl (id_rng1 mr (ed_gInt mD) (by decide) (by decide)) nd rfl (by omega) (fun i d hi ei => ⟨_, .nx _, ?_⟩) (.inr ⟨.int (0 + (m : Int)), _, ?_, ?_, .rt (.bool false)⟩))
    · refine bd_wk (es := [.dat e, .dat (.list (lev e (i + 1))), .dat d]) ?_ (.same _ (.same _ (.no _ .nil)))
      refine bd_cons (sd_if (k := false) ((td_not (td_val (ed_allG (Ng := ["one"]) (mp := [none]) (k := kf) (lev e i) id formedD (fun y => [.dat y]) hP (hr.mono h1) ma TB hcode
          (gxOk_by (N := nIs) (sc := defScope sIs) (by decide +kernel)) (by rw [List.map_id]; exact id_list (ed_var 1)) (pg_gx 0) (fun y _ => tg_name 0) (fun j y hy _ s2 H2 code fp => ?_)))).is (by rw [hgood i hi] <;> rfl)) (fun h => nomatch h) fun _ => bd_nil) ?_
      · exact ed_call GF (room_gx (hr.mono h1) _) (ad_cons (ed_var 0) ad_nil) ⟨y, 62, rfl, Nat.le_refl _, hfn i y (List.mem_of_getElem? hy), rfl⟩
      · exact bd_cons (sd_set 1 (d := .list (lev e (i + 1))) (ed_call GB (hr.mono h2) (ad_cons (ed_var 1) ad_nil) ⟨lev e i, rfl, fun x hx => ⟨hfn i x hx, List.all_eq_true.mp (hgood i hi) x hx⟩, Nat.le_trans (hln i) (by decide), rfl⟩) nd) bd_nil
    · unfold rngD
      rw [List.getElem?_map, List.getElem?_range (by exact hm)] <;> rfl
    · refine bd_if (k := true) ((td_not (td_val (ed_allG (Ng := ["one"]) (mp := [none]) (k := kf) (lev e m) id formedD (fun y => [.dat y]) hP (hr.mono h1) ma TB hcode
          (gxOk_by (N := nIs) (sc := defScope sIs) (by decide +kernel)) (by rw [List.map_id]; exact id_list (ed_var 1)) (pg_gx 0) (fun y _ => tg_name 0) (fun j y hy _ s2 H2 code fp => ?_)))).is (by rw [hb] <;> rfl)) (fun _ => bd_left (sd_ret ed_bl)) rfl fun h => nomatch h
      exact ed_call GF (room_gx (hr.mono h1) _) (ad_cons (ed_var 0) ad_nil) ⟨y, 62, rfl, Nat.le_refl _, hfn m y (List.mem_of_getElem? hy), rfl⟩
end
end K1
namespace K1
open PySem PySem.Spec PyProof.Rows L2 DL LM RM PK SHLV GX
open PT (sz sz_u)
local macro_rules | `(tactic| walk_at "side") => `(tactic| first | assumption | decide | omega | (simp; done) | (simp; omega))
local macro_rules | `(tactic| walk_at "bin") => `(tactic| first | exact bin_add | exact bin_sub | exact bin_mul (by walk_at "side") | exact bin_fdiv (by walk_at "side") | exact bin_mod (by walk_at "side") | exact bin_catm (by walk_at "side") | exact bin_cat (by walk_at "side") | exact bin_addS (by walk_at "side"))
local macro_rules | `(tactic| walk_at "cmp") => `(tactic| first | exact cmp_lt | exact cmp_le | exact cmp_gt | exact cmp_ge | exact cmp_eqI | exact cmp_neI | exact cmp_eqS | exact cmp_neS | exact cmp_eqB | exact cmp_neB | exact cmp_isN | exact cmp_notN)
local macro_rules | `(tactic| walk_at "slc") => `(tactic| first | exact slc_lm | exact slc_l | exact slc_s (by walk_at "side"))
local macro_rules | `(tactic| walk_at "len") => `(tactic| first | exact len_lm | exact len_l rfl | exact len_t rfl | exact len_s (by walk_at "side"))
local macro_rules | `(tactic| walk_at "room") => `(tactic| exact Room.mono (by assumption) (by decide))
abbrev s_law : Stmt := topS 23
abbrev n_law : List Str := ["_law_script", "_law_seed", "_law_cell", "_law_right", "_law_thing", "_law_one", "_law_found", "_law_k", "_law_name"]
abbrev p_law : List Str := ["_law_script"]
theorem sc_law : FnScope n_law p_law (defScope s_law) := ⟨rfl, rfl, rfl, by decide +kernel, rfl, by decide +kernel, by decide +kernel⟩
/-! ### the law -/
def seedOf (ns : List Int) : Int := ns.getD 0 0
def cellOf (ns : List Int) : Int := ns.getD 1 0
def baseOf (ns : List Int) : S := stBy (DL.cutD ns (some 4) (some 16)) (seedOf ns)
def rightOf (ns : List Int) : S := if cellOf ns / 4 % 6 = 3 then chS (ns.getD 2 0) (.nm (nameBy (seedOf ns) 1)) (26 + cellOf ns / 24 % 7).toNat else baseOf ns
def thingOf (ns : List Int) : PyData := if cellOf ns % 4 > 0 then chgD (rightOf ns) (ns.getD 2 0) (ns.getD 3 0) else enc (rightOf ns)
theorem sz_ch (c : Int) (s : S) : ∀ k : Nat, sz (chS c s k) = sz s + 2 * k
  | 0 => rfl
  | k + 1 => by
    have h := sz_ch c s k
    show sz (linkD c k _) = _
    unfold linkD
    split
    · show sz (chS c s k) + 1 + 1 = _
      omega
    · show 1 + sz (chS c s k) + 1 = _
      omega
theorem rightOf_ok (ns : List Int) : Ok (rightOf ns) ∧ dep (rightOf ns) ≤ 33 ∧ sz (rightOf ns) ≤ 60000 := by
  unfold rightOf
  split
  · obtain ⟨a1, a2⟩ := chS_ok (ns.getD 2 0) (s := .nm (nameBy (seedOf ns) 1)) (nameBy_ok _ _) (26 + cellOf ns / 24 % 7).toNat
    have a3 := sz_ch (ns.getD 2 0) (.nm (nameBy (seedOf ns) 1)) (26 + cellOf ns / 24 % 7).toNat
    have m0 : 0 ≤ cellOf ns / 24 % 7 := Int.emod_nonneg _ (by decide)
    have m1 : cellOf ns / 24 % 7 < 7 := Int.emod_lt_of_pos _ (by decide)
    have d1 : dep (.nm (nameBy (seedOf ns) 1)) = 1 := rfl
    have d2 : sz (.nm (nameBy (seedOf ns) 1)) = 1 := rfl
    refine ⟨a1, ?_, ?_⟩ <;> omega
  · obtain ⟨h1, h2⟩ := stBy_ok (DL.cutD ns (some 4) (some 16)) (seedOf ns)
    have u := stBy_u (DL.cutD ns (some 4) (some 16)) (seedOf ns)
    have z := sz_u (stBy (DL.cutD ns (some 4) (some 16)) (seedOf ns))
    have l : (DL.cutD ns (some 4) (some 16)).length ≤ 12 := by
      rw [show DL.cutD ns (some 4) (some 16) = DL.cutD ns (some ((4 : Nat) : Int)) (some ((16 : Nat) : Int)) from rfl, cut_nat, List.length_take]
      omega
    have p : 2 ^ (DL.cutD ns (some 4) (some 16)).length ≤ 2 ^ 12 := Nat.pow_le_pow_right (by decide) l
    have e : (2 : Nat) ^ 12 = 4096 := by decide
    unfold baseOf
    refine ⟨h1, ?_, ?_⟩ <;> omega
theorem enc_good {s : S} (h : Ok s) (d : dep s ≤ 33) (z : sz s ≤ 60000) : Fn 62 (enc s) ∧ ∀ n, ndD n (enc s) ≤ 1000000 := ⟨(fn_enc s h).mono (by omega), fun n => by
  have := nd_enc n s
  omega⟩
theorem thingOf_good (ns : List Int) : Fn 62 (thingOf ns) ∧ ∀ n, ndD n (thingOf ns) ≤ 1000000 := by
  obtain ⟨h1, h2, h3⟩ := rightOf_ok ns
  unfold thingOf
  split
  · refine ⟨(fn_chg _ _ _ h1).mono (by omega), fun n => ?_⟩
    have := nd_chg n (rightOf ns) (ns.getD 2 0) (ns.getD 3 0)
    omega
  · exact enc_good h1 h2 h3
theorem fn_szD {n : Nat} {d : PyData} (h : Fn n d) : szD d := by
  cases d with
  | str z => exact h.sz z rfl
  | _ => trivial
section
variable {P : Program} {w : World} {K : PySem.W.Frag} {mg : Str → Option Value} {base : Heap} {f : Addr} {fd : FuncData} {tb : List Addr} {k : Nat}
def rLaw (ds : List PyData) (d : PyData) : Prop := ∃ ns : List Int, ds = [.list (ns.map .int)] ∧ d = .bool true
theorem kit_bool (b : Bool) : kitB (tyD (.bool b)) "bool" = some true := by show kitB "bool" "bool" = some true; decide +kernel
def nmAt (ns : List Int) (j : Nat) : PyData := if j = 3 then wnD (nameBy (seedOf ns) 0) (ns.getD 3 0) else .str (nameBy (seedOf ns) ((j : Int) % 3))
theorem nmAt_fn (ns : List Int) (j : Nat) : Fn 1 (nmAt ns j) := by
  unfold nmAt
  split
  · exact fn_wn (nameBy_ok _ _) _
  · exact fnS (NmOk.sok (z := nameBy (seedOf ns) ((j : Int) % 3)) (nameBy_ok _ _))
theorem ok_law {kc kn ks kh kg kx ki ky kw kl : Nat} (F : FnP K "law" s_law f fd) (GC : FnG P w K mg base tb "_law_cell_at" ["_law_script", "_law_k"] kc rCell) (GN : FnG P w K mg base tb "_law_name_by" ["_law_seed", "_law_k"] kn rName) (GS : FnG P w K mg base tb "_law_statement_by" ["_law_cells", "_law_seed"] ks rStBy)
    (GH : FnG P w K mg base tb "_law_chain" ["_law_statement", "_law_many", "_law_cell"] kh rChain) (GG : FnG P w K mg base tb "_law_changed" ["_law_thing", "_law_cell", "_law_wrong_here"] kg (rChg 34)) (GX : FnG P w K mg base tb "is_statement" ["thing"] kx rIs) (GI : FnG P w K mg base tb "is_name" ["thing"] ki rIsNm)
    (GY : FnG P w K mg base tb "_law_is" ["_law_thing", "_law_room"] ky (rLIs 30)) (GW : FnG P w K mg base tb "_law_wrong_name" ["_law_name", "_law_cell"] kw rWn) (GL : FnG P w K mg base tb "_law_is_name" ["_law_thing"] kl rLIsNm)
    (mr : mg "range" = none) (mi : mg "isinstance" = none) (mb : mg "bool" = none) (h1 : kc ≤ k) (h2 : kn ≤ k) (h3 : ks ≤ k) (h4 : kh ≤ k) (h5 : kg ≤ k) (h6 : kx ≤ k) (h7 : ki ≤ k) (h8 : ky ≤ k) (h9 : kw ≤ k) (h10 : kl ≤ k) :
    FnOk P w K mg base CX0 (k + 1) f fd ["_law_script"] (spD K tb 1 rLaw) := by
  refine fn_ok F sc_law (by decide) ?_
  rintro ds d ⟨ns, rfl, rfl⟩ A outer s' H E hr
  have nd := sc_law.nd
  obtain ⟨r1, r2, r3⟩ := rightOf_ok ns
  obtain ⟨t1, t2⟩ := thingOf_good ns
  obtain ⟨g1, g2⟩ := enc_good r1 r2 r3
  have lc : (DL.cutD ns (some 4) (some 16)).length ≤ 60 := by
    rw [show DL.cutD ns (some 4) (some 16) = DL.cutD ns (some ((4 : Nat) : Int)) (some ((16 : Nat) : Int)) from rfl, cut_nat, List.length_take]
    omega
  refine bd_cons (sd_set 1 (d := .int (seedOf ns)) (ed_call GC (hr.mono h1) (ad_cons (ed_var 0) (ad_cons ed_int ad_nil)) ⟨ns, 0, rfl, rfl⟩) nd) ?_
  refine bd_cons (sd_set 2 (d := .int (cellOf ns)) (ed_call GC (hr.mono h1) (ad_cons (ed_var 0) (ad_cons ed_int ad_nil)) ⟨ns, 1, rfl, rfl⟩) nd) ?_
  refine bd_cons (sd_set 3 (d := enc (baseOf ns)) (ed_call GS (hr.mono h3) (ad_cons (ed_slc (ed_var 0) (od_some ed_int) (od_some ed_int) slc_lm) (ad_cons (ed_var 1) ad_nil)) ⟨_, _, rfl, lc, rfl⟩) nd) ?_
  refine bd_cons (es := [.dat (.list (ns.map .int)), .dat (.int (seedOf ns)), .dat (.int (cellOf ns)), .dat (enc (rightOf ns)), .no, .no, .no, .no, .no]) ?_ ?_
  · refine sd_if (td_cmpD (ed_bin (ed_bin (ed_var 2) ed_int (by walk_at "bin")) ed_int (by walk_at "bin")) ed_int (by walk_at "cmp")) (fun h => ?_) fun h => ?_
    · have e : rightOf ns = chS (ns.getD 2 0) (.nm (nameBy (seedOf ns) 1)) (26 + cellOf ns / 24 % 7).toNat := if_pos (of_decide_eq_true h)
      rw [e]
      have m0 : 0 ≤ cellOf ns / 24 % 7 := Int.emod_nonneg _ (by decide)
      have m1 : cellOf ns / 24 % 7 < 7 := Int.emod_lt_of_pos _ (by decide)
      exact bd_cons (sd_set 3 (ed_call GH (hr.mono h4) (ad_cons ((ed_tup (ad_cons ed_str (ad_cons (ed_call GN (hr.mono h2) (ad_cons (ed_var 1) (ad_cons ed_int ad_nil)) ⟨_, _, rfl, by decide, by decide, rfl⟩) ad_nil)) (by show 2 ≤ 1000000; decide)).is (g := enc (.nm (nameBy (seedOf ns) 1))) rfl) (ad_cons (ed_bin ed_int (ed_bin (ed_bin (ed_var 2) ed_int (by walk_at "bin")) ed_int (by walk_at "bin")) (by walk_at "bin"))
        (ad_cons (ed_call GC (hr.mono h1) (ad_cons (ed_var 0) (ad_cons ed_int ad_nil)) ⟨ns, 2, rfl, rfl⟩) ad_nil))) ⟨_, _, _, rfl, by omega, by omega, rfl⟩) nd) bd_nil
    · have e : rightOf ns = baseOf ns := if_neg (of_decide_eq_false h)
      rw [e]
      exact bd_nil.is rfl
  refine bd_cons (sd_set 4 (ed_var 3) nd) ?_
  refine bd_cons (es := [.dat (.list (ns.map .int)), .dat (.int (seedOf ns)), .dat (.int (cellOf ns)), .dat (enc (rightOf ns)), .dat (thingOf ns), .no, .no, .no, .no]) ?_ ?_
  · refine sd_if (td_cmpD (ed_bin (ed_var 2) ed_int (by walk_at "bin")) ed_int (by walk_at "cmp")) (fun h => ?_) fun h => ?_
    · have e : thingOf ns = chgD (rightOf ns) (ns.getD 2 0) (ns.getD 3 0) := if_pos (of_decide_eq_true h)
      rw [e]
      exact bd_cons (sd_set 4 (ed_call GG (hr.mono h5) (ad_cons (ed_var 3) (ad_cons (ed_call GC (hr.mono h1) (ad_cons (ed_var 0) (ad_cons ed_int ad_nil)) ⟨ns, 2, rfl, rfl⟩) (ad_cons (ed_call GC (hr.mono h1) (ad_cons (ed_var 0) (ad_cons ed_int ad_nil)) ⟨ns, 3, rfl, rfl⟩) ad_nil))) ⟨_, _, _, rfl, r1, by omega, rfl⟩) nd) bd_nil
    · have e : thingOf ns = enc (rightOf ns) := if_neg (of_decide_eq_false h)
      rw [e]
      exact bd_nil.is rfl
  generalize thingOf ns = th at t1 t2
  generalize enc (rightOf ns) = rt at g1 g2
  refine bd_cons (es := [.dat (.list (ns.map .int)), .dat (.int (seedOf ns)), .dat (.int (cellOf ns)), .dat rt, .dat th, .no, .no, .no, .no]) ?_ ?_
  · refine (sd_for (items := [th, rt, th]) 5 (fun _ => [.dat (.list (ns.map .int)), .dat (.int (seedOf ns)), .dat (.int (cellOf ns)), .dat rt, .dat th, .no, .no, .no, .no]) PassesOwn.never rfl (id_list (ed_lst (ad_cons (ed_var 4) (ad_cons (ed_var 3) (ad_cons (ed_var 4) ad_nil))) (by show 3 ≤ 1000000; decide))) nd rfl (fun i d e => ?_)).is rfl
    have hd : Fn 62 d ∧ ∀ n, ndD n d ≤ 1000000 := by
      have := List.mem_of_getElem? e
      simp only [List.mem_cons, List.not_mem_nil, or_false] at this
      rcases this with rfl | rfl | rfl
      · exact ⟨t1, t2⟩
      · exact ⟨g1, g2⟩
      · exact ⟨t1, t2⟩
    refine bd_wk (es := [.dat (.list (ns.map .int)), .dat (.int (seedOf ns)), .dat (.int (cellOf ns)), .dat rt, .dat th, .dat d, .dat (.bool (isD 30 d)), .no, .no]) ?_ (.same _ (.same _ (.same _ (.same _ (.same _ (.no _ (.no _ (.same _ (.same _ .nil)))))))))
    refine bd_cons (sd_set 6 (ed_call GX (hr.mono h6) (ad_cons (ed_var 5) ad_nil) ⟨d, rfl, hd.1, hd.2, rfl⟩) nd) ?_
    exact bd_cons (sd_if (k := false) (PWd.pt (wd_orf (td_not (k := true) (td_val (ed_isi (T := "bool") (d := .bool (isD 30 d)) (k := true) (kit_bool _) mi mb (ed_var 6)))) (wd_or1 ((td_cmpD (ed_var 6) (ed_call GY (hr.mono h8) (ad_cons (ed_var 5) (ad_cons ed_int ad_nil)) ⟨d, 62, rfl, Nat.le_refl _, hd.1, rfl⟩) cmp_neB).is (by rw [decide_eq_true rfl] <;> rfl))))) (fun h => nomatch h) fun _ => bd_nil) bd_nil
  refine bd_cons (es := [.dat (.list (ns.map .int)), .dat (.int (seedOf ns)), .dat (.int (cellOf ns)), .dat rt, .dat th, .no, .no, .no, .no]) ?_ (bd_left (sd_ret ed_bl))
  refine (sd_for (items := rngD 0 (4 : Int).toNat) 7 (fun _ => [.dat (.list (ns.map .int)), .dat (.int (seedOf ns)), .dat (.int (cellOf ns)), .dat rt, .dat th, .no, .no, .no, .no]) PassesOwn.never rfl (id_rng1 mr ed_int (by decide) (by decide)) nd rfl (fun i d e => ?_))
  obtain ⟨hi, rfl⟩ := rng0_at e
  have hi : i < 4 := hi
  have nf := nmAt_fn ns i
  refine bd_wk (es := [.dat (.list (ns.map .int)), .dat (.int (seedOf ns)), .dat (.int (cellOf ns)), .dat rt, .dat th, .no, .dat (.bool (isNmD (nmAt ns i))), .dat (.int (i : Int)), .dat (nmAt ns i)]) ?_ (.same _ (.same _ (.same _ (.same _ (.same _ (.same _ (.no _ (.no _ (.no _ .nil)))))))))
  have m0 : 0 ≤ (i : Int) % 3 := Int.emod_nonneg _ (by decide)
  have m1 : (i : Int) % 3 < 3 := Int.emod_lt_of_pos _ (by decide)
  refine bd_cons (sd_set 8 (d := .str (nameBy (seedOf ns) ((i : Int) % 3))) (ed_call GN (hr.mono h2) (ad_cons (ed_var 1) (ad_cons (ed_bin (ed_var 7) ed_int (by walk_at "bin")) ad_nil)) ⟨_, _, rfl, m0, by omega, rfl⟩) nd) ?_
  refine bd_cons (es := [.dat (.list (ns.map .int)), .dat (.int (seedOf ns)), .dat (.int (cellOf ns)), .dat rt, .dat th, .no, .no, .dat (.int (i : Int)), .dat (nmAt ns i)]) ?_ ?_
  · refine sd_if (td_cmpD (ed_var 7) ed_int (by walk_at "cmp")) (fun h => ?_) fun h => ?_
    · have h3 : i = 3 := by have := of_decide_eq_true h; omega
      subst h3
      have e : nmAt ns 3 = wnD (nameBy (seedOf ns) 0) (ns.getD 3 0) := rfl
      rw [e]
      exact bd_cons (sd_set 8 (ed_call GW (hr.mono h9) (ad_cons (ed_var 8) (ad_cons (ed_call GC (hr.mono h1) (ad_cons (ed_var 0) (ad_cons ed_int ad_nil)) ⟨ns, 3, rfl, rfl⟩) ad_nil)) ⟨nameBy (seedOf ns) 0, _, rfl, nameBy_ok _ _, rfl⟩) nd) bd_nil
    · have h3 : ¬ i = 3 := fun q => by subst q; exact absurd h (by decide)
      have e : nmAt ns i = .str (nameBy (seedOf ns) ((i : Int) % 3)) := if_neg h3
      rw [e]
      exact bd_nil.is rfl
  generalize nmAt ns i = nm at nf
  refine bd_cons (sd_set 6 (ed_call GI (hr.mono h7) (ad_cons (ed_var 8) ad_nil) ⟨nm, rfl, fn_szD nf, rfl⟩) nd) ?_
  exact bd_cons (sd_if (k := false) (PWd.pt (wd_orf (td_not (k := true) (td_val (ed_isi (T := "bool") (d := .bool (isNmD nm)) (k := true) (kit_bool _) mi mb (ed_var 6)))) (wd_or1 ((td_cmpD (ed_var 6) (ed_call GL (hr.mono h10) (ad_cons (ed_var 8) ad_nil) ⟨nm, 1, rfl, nf, rfl⟩) cmp_neB).is (by rw [decide_eq_true rfl] <;> rfl))))) (fun h => nomatch h) fun _ => bd_nil) bd_nil
end
end K1
namespace K1
open PySem PySem.Spec PyProof.Rows L2 DL LM RM PK SHLV
open SHLF (ShC)
section
variable {P : Program} {w : World} {K : PySem.W.Frag} {mg : Str → Option Value} {base h : Heap} {tb : List Addr}
theorem b1 {x p1 : Str} {st : Stmt} {f : Addr} {fd : FuncData} (F : FnP K x st f fd) (h : ∀ (kV doc pm : Value) (an : Option Addr) (cdv ct : Value) (u : Value), bindArgs (PySem.W.fnOf x x (defArgs st) (defBody st) (defScope st) .none kV doc pm an cdv ct) ⟨[u], []⟩ = pure ([p1].zip [u])) : Binds K fd [p1] [] :=
  F.bindsN fun a b c d e g us hl => match us, hl with | [u], _ => h a b c d e g u
theorem b2 {x p1 p2 : Str} {st : Stmt} {f : Addr} {fd : FuncData} (F : FnP K x st f fd) (h : ∀ (kV doc pm : Value) (an : Option Addr) (cdv ct : Value) (u v : Value), bindArgs (PySem.W.fnOf x x (defArgs st) (defBody st) (defScope st) .none kV doc pm an cdv ct) ⟨[u, v], []⟩ = pure ([p1, p2].zip [u, v])) : Binds K fd [p1, p2] [] :=
  F.bindsN fun a b c d e g us hl => match us, hl with | [u, v], _ => h a b c d e g u v
theorem b3 {x p1 p2 p3 : Str} {st : Stmt} {f : Addr} {fd : FuncData} (F : FnP K x st f fd) (h : ∀ (kV doc pm : Value) (an : Option Addr) (cdv ct : Value) (u v z : Value), bindArgs (PySem.W.fnOf x x (defArgs st) (defBody st) (defScope st) .none kV doc pm an cdv ct) ⟨[u, v, z], []⟩ = pure ([p1, p2, p3].zip [u, v, z])) : Binds K fd [p1, p2, p3] [] :=
  F.bindsN fun a b c d e g us hl => match us, hl with | [u, v, z], _ => h a b c d e g u v z
theorem b4 {x p1 p2 p3 p4 : Str} {st : Stmt} {f : Addr} {fd : FuncData} (F : FnP K x st f fd) (h : ∀ (kV doc pm : Value) (an : Option Addr) (cdv ct : Value) (u v z y : Value), bindArgs (PySem.W.fnOf x x (defArgs st) (defBody st) (defScope st) .none kV doc pm an cdv ct) ⟨[u, v, z, y], []⟩ = pure ([p1, p2, p3, p4].zip [u, v, z, y])) : Binds K fd [p1, p2, p3, p4] [] :=
  F.bindsN fun a b c d e g us hl => match us, hl with | [u, v, z, y], _ => h a b c d e g u v z y
theorem b5 {x p1 p2 p3 p4 p5 : Str} {st : Stmt} {f : Addr} {fd : FuncData} (F : FnP K x st f fd) (h : ∀ (kV doc pm : Value) (an : Option Addr) (cdv ct : Value) (u v z y t : Value), bindArgs (PySem.W.fnOf x x (defArgs st) (defBody st) (defScope st) .none kV doc pm an cdv ct) ⟨[u, v, z, y, t], []⟩ = pure ([p1, p2, p3, p4, p5].zip [u, v, z, y, t])) : Binds K fd [p1, p2, p3, p4, p5] [] :=
  F.bindsN fun a b c d e g us hl => match us, hl with | [u, v, z, y, t], _ => h a b c d e g u v z y t
/-- a def's code object -/
theorem code_at {p : Str × Option Str} {x q : Str} {ps : Arguments} {b : List Stmt} {sc : Scope} {dvs : List V} {kws : List (Str × V)} {fd : FuncData} (F : FunD K x q ps b sc dvs kws (He.fAd K p) fd) : fd.code = .ref (He.cT K p).1 := by
  obtain ⟨oc, od, dV, kV, doc, pm, an, cdv, ct, osl, rfl, lk, hcd, _, _⟩ := F.ex
  obtain ⟨c, e⟩ := He.codeIn_ref hcd
  have e2 : (PySem.W.fnOf x q ps b sc dV kV doc pm an cdv ct).code = .ref c := e
  have e3 := He.codeOf_eq lk e2
  show (PySem.W.fnOf x q ps b sc dV kV doc pm an cdv ct).code = .ref (He.codeOf K p)
  rw [e2, e3]
def tbs (K : PySem.W.Frag) : List Addr := tf.map fun p => (He.cT K p).2
theorem tb_in {p : He.Defn} (h : p ∈ tf) : (He.cT K p).2 ∈ tbs K := List.mem_map.mpr ⟨p, h, rfl⟩


theorem facts {fl : Addr} (X : K.In h) (G : h.Ns mainGlobals mg) (hfl : mg ("law" : Str) = some (.ref fl)) (c : He.SaysX fa fn ts tf ex w h K) :
    ∃ fd : FuncData, (∀ (s : Shared) (v : Value), BindsTo s fd ⟨[v], []⟩ [("_law_script", v)]) ∧ ∀ base : Heap, K.In base → base.Ns mainGlobals mg → (∀ p ∈ tf, LamX.TabB base mg (He.cT K p).1 (He.cT K p).2) → FnOk P w K mg base CX0 42 fl fd ["_law_script"] (spD K (tbs K) 1 rLaw) := by
  have d := c.t.d
  obtain ⟨d_is_name, F_is_name⟩ := d.def_ 0 (d := dD "is_name" 4) rfl
  obtain ⟨d_is_statement, F_is_statement⟩ := d.def_ 1 (d := dD "is_statement" 5) rfl
  obtain ⟨d_beginning, F_beginning⟩ := d.def_ 2 (d := dD "beginning" 7) rfl
  obtain ⟨d_is_formed, F_is_formed⟩ := d.def_ 3 (d := dD "is_formed" 8) rfl
  obtain ⟨d_halves, F_halves⟩ := d.def_ 4 (d := dD "halves" 9) rfl
  obtain ⟨d_level_below, F_level_below⟩ := d.def_ 5 (d := dD "level_below" 10) rfl
  obtain ⟨d__law_cell_at, F__law_cell_at⟩ := d.def_ 6 (d := dD "_law_cell_at" 12) rfl
  obtain ⟨d__law_name_by, F__law_name_by⟩ := d.def_ 7 (d := dD "_law_name_by" 13) rfl
  obtain ⟨d__law_joined, F__law_joined⟩ := d.def_ 8 (d := dD "_law_joined" 14) rfl
  obtain ⟨d__law_step, F__law_step⟩ := d.def_ 9 (d := dD "_law_step" 15) rfl
  obtain ⟨d__law_statement_by, F__law_statement_by⟩ := d.def_ 10 (d := dD "_law_statement_by" 16) rfl
  obtain ⟨d__law_is_name, F__law_is_name⟩ := d.def_ 11 (d := dD "_law_is_name" 17) rfl
  obtain ⟨d__law_is, F__law_is⟩ := d.def_ 12 (d := dD "_law_is" 18) rfl
  obtain ⟨d__law_wrong_name, F__law_wrong_name⟩ := d.def_ 13 (d := dD "_law_wrong_name" 19) rfl
  obtain ⟨d__law_wrong, F__law_wrong⟩ := d.def_ 14 (d := dD "_law_wrong" 20) rfl
  obtain ⟨d__law_changed, F__law_changed⟩ := d.def_ 15 (d := dD "_law_changed" 21) rfl
  obtain ⟨d__law_chain, F__law_chain⟩ := d.def_ 16 (d := dD "_law_chain" 22) rfl
  obtain ⟨d_law, F_law⟩ := d.def_ 17 (d := dD "law" 23) rfl
  obtain ⟨d_Shelf___init__, F_Shelf___init__⟩ := d.def_ 18 (d := dM "Shelf" "__init__" "Shelf.__init__" 6 0) rfl
  obtain ⟨d_Shelf_number, F_Shelf_number⟩ := d.def_ 19 (d := dM "Shelf" "number" "Shelf.number" 6 1) rfl
  obtain ⟨d_Shelf_takes, F_Shelf_takes⟩ := d.def_ 20 (d := dM "Shelf" "takes" "Shelf.takes" 6 2) rfl
  have e := hfl.symm.trans (He.glo_ok X G (d.fact 17 (f := .glo "law") rfl))
  cases e
  have g_is_name := He.glo_ok X G (d.fact 0 (f := .glo "is_name") rfl)
  have g_is_statement := He.glo_ok X G (d.fact 1 (f := .glo "is_statement") rfl)
  have g_beginning := He.glo_ok X G (d.fact 2 (f := .glo "beginning") rfl)
  have g_is_formed := He.glo_ok X G (d.fact 3 (f := .glo "is_formed") rfl)
  have g_halves := He.glo_ok X G (d.fact 4 (f := .glo "halves") rfl)
  have g_level_below := He.glo_ok X G (d.fact 5 (f := .glo "level_below") rfl)
  have g__law_cell_at := He.glo_ok X G (d.fact 6 (f := .glo "_law_cell_at") rfl)
  have g__law_name_by := He.glo_ok X G (d.fact 7 (f := .glo "_law_name_by") rfl)
  have g__law_joined := He.glo_ok X G (d.fact 8 (f := .glo "_law_joined") rfl)
  have g__law_step := He.glo_ok X G (d.fact 9 (f := .glo "_law_step") rfl)
  have g__law_statement_by := He.glo_ok X G (d.fact 10 (f := .glo "_law_statement_by") rfl)
  have g__law_is_name := He.glo_ok X G (d.fact 11 (f := .glo "_law_is_name") rfl)
  have g__law_is := He.glo_ok X G (d.fact 12 (f := .glo "_law_is") rfl)
  have g__law_wrong_name := He.glo_ok X G (d.fact 13 (f := .glo "_law_wrong_name") rfl)
  have g__law_wrong := He.glo_ok X G (d.fact 14 (f := .glo "_law_wrong") rfl)
  have g__law_changed := He.glo_ok X G (d.fact 15 (f := .glo "_law_changed") rfl)
  have g__law_chain := He.glo_ok X G (d.fact 16 (f := .glo "_law_chain") rfl)
  have i_LONGEST_NAME := He.int_ok X G (d.fact 18 (f := .int "LONGEST_NAME" 8) rfl)
  have i_DEEPEST := He.int_ok X G (d.fact 19 (f := .int "DEEPEST" 30) rfl)
  have m_len := He.free_ok X G (d.fact 20 (f := .free "len") rfl)
  have m_isinstance := He.free_ok X G (d.fact 21 (f := .free "isinstance") rfl)
  have m_str := He.free_ok X G (d.fact 22 (f := .free "str") rfl)
  have m_tuple := He.free_ok X G (d.fact 23 (f := .free "tuple") rfl)
  have m_all := He.free_ok X G (d.fact 24 (f := .free "all") rfl)
  have m_range := He.free_ok X G (d.fact 25 (f := .free "range") rfl)
  have m_list := He.free_ok X G (d.fact 26 (f := .free "list") rfl)
  have m_bool := He.free_ok X G (d.fact 27 (f := .free "bool") rfl)
  have gShf := He.glo_ok X G (d.fact 28 (f := .glo "Shelf") rfl)
  have gJ := He.glo_ok X G (d.fact 29 (f := .glo "JOINING") rfl)
  have cShf := He.cls_ok (d.fact 30 (f := .cls "Shelf") rfl)
  have nRow := He.noat_ok (d.fact 31 (f := .noat "Shelf" "rows") rfl)
  have nThi := He.noat_ok (d.fact 32 (f := .noat "Shelf" "things") rfl)
  have mTak := He.meth_ok (d.fact 33 (f := .meth "Shelf" "takes") rfl)
  have mNum := He.meth_ok (d.fact 34 (f := .meth "Shelf" "number") rfl)
  have mMk := He.mkr_ok (d.fact 35 (f := .mkr "Shelf") rfl)
  have P_is_name : FnP K "is_name" (topS 4) _ d_is_name := F_is_name
  have P_is_statement : FnP K "is_statement" (topS 5) _ d_is_statement := F_is_statement
  have P_beginning : FnP K "beginning" (topS 7) _ d_beginning := F_beginning
  have P_is_formed : FnP K "is_formed" (topS 8) _ d_is_formed := F_is_formed
  have P_halves : FnP K "halves" (topS 9) _ d_halves := F_halves
  have P_level_below : FnP K "level_below" (topS 10) _ d_level_below := F_level_below
  have P__law_cell_at : FnP K "_law_cell_at" (topS 12) _ d__law_cell_at := F__law_cell_at
  have P__law_name_by : FnP K "_law_name_by" (topS 13) _ d__law_name_by := F__law_name_by
  have P__law_joined : FnP K "_law_joined" (topS 14) _ d__law_joined := F__law_joined
  have P__law_step : FnP K "_law_step" (topS 15) _ d__law_step := F__law_step
  have P__law_statement_by : FnP K "_law_statement_by" (topS 16) _ d__law_statement_by := F__law_statement_by
  have P__law_is_name : FnP K "_law_is_name" (topS 17) _ d__law_is_name := F__law_is_name
  have P__law_is : FnP K "_law_is" (topS 18) _ d__law_is := F__law_is
  have P__law_wrong_name : FnP K "_law_wrong_name" (topS 19) _ d__law_wrong_name := F__law_wrong_name
  have P__law_wrong : FnP K "_law_wrong" (topS 20) _ d__law_wrong := F__law_wrong
  have P__law_changed : FnP K "_law_changed" (topS 21) _ d__law_changed := F__law_changed
  have P__law_chain : FnP K "_law_chain" (topS 22) _ d__law_chain := F__law_chain
  have P_law : FnP K "law" (topS 23) _ d_law := F_law
  have P_Shelf___init__ : FnM K "__init__" "Shelf.__init__" (inClass (topS 6) 0) _ d_Shelf___init__ := F_Shelf___init__
  have P_Shelf_number : FnM K "number" "Shelf.number" (inClass (topS 6) 1) _ d_Shelf_number := F_Shelf_number
  have P_Shelf_takes : FnM K "takes" "Shelf.takes" (inClass (topS 6) 2) _ d_Shelf_takes := F_Shelf_takes
  have b := FunD.bindsA (ps := ["_law_script"]) P_law fun _ _ _ _ _ _ us hl => match us, hl with | [_], _ => rfl
  refine ⟨d_law, fun s v => b s [v] rfl, fun base _ _ TB => ?_⟩
  have TB2 : ∀ p ∈ tf, GxR.TabB base mg (He.cT K p).1 (He.cT K p).2 := fun p hp => ⟨(TB p hp).1, (TB p hp).2, (TB p hp).3⟩
  have t_is_name : (He.cT K (("is_name", none) : He.Defn)).2 ∈ tbs K := tb_in (by simp [tf])
  have T_is_name := TB2 ("is_name", none) (by simp [tf])
  have c_is_name := code_at (p := ("is_name", none)) F_is_name
  have t_is_statement : (He.cT K (("is_statement", none) : He.Defn)).2 ∈ tbs K := tb_in (by simp [tf])
  have T_is_statement := TB2 ("is_statement", none) (by simp [tf])
  have c_is_statement := code_at (p := ("is_statement", none)) F_is_statement
  have TS : ShC K mg (He.ga K "Shelf") := ⟨cShf, nRow, nThi, gShf⟩
  have x1 : He.tupB K "JOINING" [.str "and", .str "or", .str "then"] = true := c.more
  have TJ : Joins K mg := ⟨He.ga K "JOINING", gJ, fun Hd => .tup (He.tupB_ok x1 Hd) (.cons (.str _) (.cons (.str _) (.cons (.str _) .nil)))⟩
  have G_is_name : FnG P w K mg base (tbs K) "is_name" ["thing"] 1 rIsNm := ⟨_, _, ok_isNm P_is_name t_is_name T_is_name c_is_name m_len m_isinstance m_str m_all i_LONGEST_NAME, g_is_name, P_is_name.kp, b1 P_is_name fun _ _ _ _ _ _ _ => rfl⟩
  have G_is_formed : FnG P w K mg base (tbs K) "is_formed" ["thing"] 2 rFormedD := ⟨_, _, ok_formed P_is_formed G_is_name TJ m_len m_isinstance m_tuple (by decide), g_is_formed, P_is_formed.kp, b1 P_is_formed fun _ _ _ _ _ _ _ => rfl⟩
  have G_beginning : FnG P w K mg base (tbs K) "beginning" ["thing"] 3 rBegD := ⟨_, _, ok_beg P_beginning G_is_formed TJ (by decide), g_beginning, P_beginning.kp, b1 P_beginning fun _ _ _ _ _ _ _ => rfl⟩
  have G_halves : FnG P w K mg base (tbs K) "halves" ["formed"] 1 rHalvesD := ⟨_, _, ok_halves P_halves TJ, g_halves, P_halves.kp, b1 P_halves fun _ _ _ _ _ _ _ => rfl⟩
  have G_num : MtR2 P w K mg base (He.ga K "Shelf") "number" ["self", "thing"] 4 (spNum K (tbs K) (He.ga K "Shelf")) := ⟨_, _, ok_number P_Shelf_number TS G_beginning (by decide), mNum, P_Shelf_number.bindsN fun _ _ _ _ _ _ us hl => match us, hl with | [_, _], _ => rfl⟩
  have G_tak : MtR2 P w K mg base (He.ga K "Shelf") "takes" ["self", "thing"] 5 (spTakes K (tbs K) (He.ga K "Shelf")) := ⟨_, _, ok_takes P_Shelf_takes TS G_beginning G_num m_len (by decide) (by decide), mTak, P_Shelf_takes.bindsN fun _ _ _ _ _ _ us hl => match us, hl with | [_, _], _ => rfl⟩
  have G_level_below : FnG P w K mg base (tbs K) "level_below" ["level"] 6 rBelow := ⟨_, _, ok_below P_level_below TS ⟨_, _, mMk, ok_init (k := 0) P_Shelf___init__ TS, P_Shelf___init__.bindsN fun _ _ _ _ _ _ us hl => match us, hl with | [_], _ => rfl⟩ G_tak G_halves (by decide) (by decide) (by decide), g_level_below, P_level_below.kp, b1 P_level_below fun _ _ _ _ _ _ _ => rfl⟩
  have G_is_statement : FnG P w K mg base (tbs K) "is_statement" ["thing"] 7 rIs := ⟨_, _, ok_is P_is_statement t_is_statement T_is_statement c_is_statement G_is_formed G_level_below m_len m_all m_range i_DEEPEST (by decide) (by decide), g_is_statement, P_is_statement.kp, b1 P_is_statement fun _ _ _ _ _ _ _ => rfl⟩
  have G__law_name_by : FnG P w K mg base (tbs K) "_law_name_by" ["_law_seed", "_law_k"] 1 rName := ⟨_, _, ok_name P__law_name_by m_range, g__law_name_by, P__law_name_by.kp, b2 P__law_name_by fun _ _ _ _ _ _ _ _ => rfl⟩
  have G__law_joined : FnG P w K mg base (tbs K) "_law_joined" ["_law_way", "_law_one", "_law_other"] 1 rJoined := ⟨_, _, ok_joined P__law_joined, g__law_joined, P__law_joined.kp, b3 P__law_joined fun _ _ _ _ _ _ _ _ _ => rfl⟩
  have G__law_step : FnG P w K mg base (tbs K) "_law_step" ["_law_pile", "_law_cell", "_law_seed"] 2 rStep := ⟨_, _, ok_step P__law_step G__law_name_by G__law_joined m_len (by decide) (by decide), g__law_step, P__law_step.kp, b3 P__law_step fun _ _ _ _ _ _ _ _ _ => rfl⟩
  have G__law_statement_by : FnG P w K mg base (tbs K) "_law_statement_by" ["_law_cells", "_law_seed"] 3 rStBy := ⟨_, _, ok_stBy P__law_statement_by G__law_name_by G__law_step m_len (by decide) (by decide), g__law_statement_by, P__law_statement_by.kp, b2 P__law_statement_by fun _ _ _ _ _ _ _ _ => rfl⟩
  have G__law_cell_at : FnG P w K mg base (tbs K) "_law_cell_at" ["_law_script", "_law_k"] 1 rCell := ⟨_, _, ok_cell P__law_cell_at m_len, g__law_cell_at, P__law_cell_at.kp, b2 P__law_cell_at fun _ _ _ _ _ _ _ _ => rfl⟩
  have G__law_chain : FnG P w K mg base (tbs K) "_law_chain" ["_law_statement", "_law_many", "_law_cell"] 1 rChain := ⟨_, _, ok_chain P__law_chain m_range, g__law_chain, P__law_chain.kp, b3 P__law_chain fun _ _ _ _ _ _ _ _ _ => rfl⟩
  have G__law_wrong_name : FnG P w K mg base (tbs K) "_law_wrong_name" ["_law_name", "_law_cell"] 1 rWn := ⟨_, _, ok_wn P__law_wrong_name m_len, g__law_wrong_name, P__law_wrong_name.kp, b2 P__law_wrong_name fun _ _ _ _ _ _ _ _ => rfl⟩
  have G__law_wrong : FnG P w K mg base (tbs K) "_law_wrong" ["_law_thing", "_law_cell"] 2 rWr := ⟨_, _, ok_wr P__law_wrong G__law_wrong_name m_list (by decide), g__law_wrong, P__law_wrong.kp, b2 P__law_wrong fun _ _ _ _ _ _ _ _ => rfl⟩
  have G__law_is_name : FnG P w K mg base (tbs K) "_law_is_name" ["_law_thing"] 1 rLIsNm := ⟨_, _, ok_lisNm P__law_is_name m_len m_isinstance m_str, g__law_is_name, P__law_is_name.kp, b1 P__law_is_name fun _ _ _ _ _ _ _ => rfl⟩

  have G_chg := chg_all (P := P) (w := w) (base := base) (tb := tbs K) P__law_changed g__law_changed (b3 P__law_changed fun _ _ _ _ _ _ _ _ _ => rfl) G__law_wrong m_len 34
  have G_lis := lis_all (P := P) (w := w) (base := base) (tb := tbs K) P__law_is g__law_is (b2 P__law_is fun _ _ _ _ _ _ _ _ => rfl) G__law_is_name m_len m_isinstance m_tuple m_str 30
  exact ok_law (k := 41) P_law G__law_cell_at G__law_name_by G__law_statement_by G__law_chain G_chg G_is_statement G_is_name G_lis G__law_wrong_name G__law_is_name m_range m_isinstance m_bool (by decide) (by decide) (by decide) (by decide) (by decide) (by decide) (by decide) (by decide) (by decide) (by decide)
end
end K1
open PySem PySem.W PySem.Calls PyProof.Rows
theorem PySem.Challenge.cw_showtree_k01_statements_told_holds : PySem.Challenge.rw_showtree_k01_statements_told.Holds := by
  w_on; o_law
  refine HandSHeadRun.head_any (r := OpenLaw.row PySem.Challenge.rw_showtree_k01_statements_told) (q := view (OpenLaw.row PySem.Challenge.rw_showtree_k01_statements_told).prog [23]) (H := K1.hk) (ob := K1.ob) (M := 2000) (loose := K1.names) (d := HandSHeadRun.topDef (OpenLaw.row PySem.Challenge.rw_showtree_k01_statements_told).prog 23) (kwd := []) K1.ob_eq
    (by kernel_rfl) (fun s => by kernel_rfl) K1.run (by kernel_rfl) (by kernel_rfl) (by kernel_rfl) (by rfl) (by first | assumption | decide +kernel) (by decide +kernel) ⟨rfl, rfl, rfl, rfl, rfl, by decide +kernel⟩ ?hw ?hc
  case hw => w_witness2
  case hc =>
    refine LamX.walk_ofTsE (l := PySem.Challenge.rw_showtree_k01_statements_told) (n := 63) (k := 42) (x := "_law_script") (CX := fun _ => L2.CX0) rfl (by decide) (by kernel_rfl) ⟨rfl, by decide, by decide⟩ ?F (fun _ _ _ _ _ z => z)
    intro w mg fa h Y G hmg0
    obtain ⟨K, KX, c⟩ := Y
    have hmg : mg ("law" : PySem.Str) = some (.ref fa) := by
      have e : (HandSHeadRun.topDef (OpenLaw.row PySem.Challenge.rw_showtree_k01_statements_told).prog 23).name = ("law" : PySem.Str) := by kernel_rfl
      rw [← e]
      exact hmg0
    obtain ⟨fd, hb, hF⟩ := K1.facts (P := (PySem.Challenge.rw_showtree_k01_statements_told).prog) (w := w) KX G hmg c
    refine ⟨K, KX, fd, K1.tf.map (He.cT K), DL.spD K (K1.tbs K) 1 K1.rLaw, fun p hp => ?_, fun p hp => ?_, fun p hp => ?_, hb, fun H a ns _ _ hH hS => ?_, fun base X2 G2 TB => hF base X2 G2 fun p hp => TB _ (List.mem_map.mpr ⟨p, hp, rfl⟩)⟩
    · obtain ⟨q, hq, rfl⟩ := List.mem_map.mp hp
      exact c.empty q hq
    · obtain ⟨q, hq, rfl⟩ := List.mem_map.mp hp
      exact c.out q hq
    · obtain ⟨q, hq, rfl⟩ := List.mem_map.mp hp
      exact PySem.W.codeHd_of_K KX (c.hd q hq)
    · exact DL.sp_entry (fun p hp => by
        obtain ⟨q, hq, rfl⟩ := List.mem_map.mp hp
        exact hH _ (List.mem_map.mpr ⟨q, hq, rfl⟩)) hS ⟨ns, rfl, rfl⟩
